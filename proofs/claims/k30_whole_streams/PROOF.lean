import PyProof.Rows.All
import KE.KDictLaws
import KE.KDictOf
import KE.KFromBytes
import KE.KIsAll
import KE.KItem
import Wide.Meth
import PySem.Challenge.RW_wirestream_k30_whole_streams
set_option compiler.extract_closed false
set_option bootstrap.genMatcherCode false
set_option Elab.async false
set_option linter.all false
set_option maxRecDepth 100000
def Ya:=@List.getElem?_set_ne
def Yb:=@Nat.le_refl
def Yc:=@List.length_cons
def Yd:=@List.size_toArray
def Ye:=@List.getElem?_eq_some_iff
def Yf:=@List.map_cons
def Yg:=@List.getElem?_set_self
def Yh:=@List.mem_append_right
def Yi:=@Bool.false_ne_true
def Yj:=@List.length_append
def Yk:=@List.length_nil
def Yl:=@Nat.lt_of_lt_of_le
def Ym:=@List.map_nil
def Yn:=@Nat.ne_of_lt
def Yo:=@List.mem_cons_of_mem
def Yp:=@List.getElem?_append_left
def Yq:=@List.mem_cons
def Yr:=@List.getElem?_map
def Ys:=@List.mem_cons_self
def Yt:=@Bool.and_eq_true
def Yu:=@Nat.le_trans
def Yv:=@List.length_drop
def Yw:=@List.mem_append
def Yx:=@List.length_set
def Yy:=@List.length_take
def Yz:=@List.drop_eq_getElem_cons
def YA:=@List.getElem?_append_right
def YB:=@Nat.lt_irrefl
def YC:=@Nat.lt_succ_self
def YD:=@List.lookup_cons
def YE:=@List.take_of_length_le
def YF:=@List.append_assoc
def YG:=@Nat.zero_le
def YH:=@List.replicate_succ
def YI:=@Nat.not_lt
def YJ:=@List.mem_map
def YK:=@List.any_cons
def YL:=@Int.le_refl
def YM:=@List.getElem?_eq_none_iff
def YN:=@List.mem_filter
def YO:=@Bool.or_eq_true
def YQ:=@List.mem_append_left
def YR:=@List.flatten_cons
def YS:=@List.length_eq_zero_iff
def YT:=@List.drop_length
def YU:=@List.drop_eq_nil_of_le
def YV:=@List.append_nil
def YW:=@List.nil_append
def YX:=@List.length_singleton
def YY:=@List.length_filter_le
def YZ:=@List.getElem?_set
def Y0:=@List.set_append_left
def Y1:=@Bool.false_eq_true
def Y2:=@List.getElem?_cons_succ
def Y3:=@List.filter_cons_of_neg
def Y4:=@List.filter_cons_of_pos
def Y5:=@Nat.lt_succ_of_lt
def Y6:=@Nat.sub_self
def Y7:=@Nat.le_succ
def Y8:=@List.drop_append_of_le_length
def Y9:=@List.take_append_of_le_length
def Ja:=@List.nodup_cons
def Jb:=@Bool.eq_iff_iff
def Jc:=@Nat.not_lt_zero
def Jd:=@Nat.min_eq_left
def Je:=@List.map_map
def Jf:=@List.getElem?_drop
def Jg:=@List.mem_singleton
def Jh:=@List.set_comm
def Ji:=@Nat.min_eq_right
def Jj:=@Nat.ne_of_gt
def Jk:=@List.of_mem_zip
def Jl:=@List.take_zero
def Jm:=@List.drop_zero
local macro_rules|`(tactic|omega)=>`(tactic|first|decide|lia|omega (config:={}))
namespace L2
open PySem PySem.Spec PyProof.Rows
abbrev Key:=Sum Int Str
noncomputable def ZiJ:Key->Value->Bool
 | .inl k,v=>Value.isInt k v
 | .inr x,v=>Value.isStrOf x v
noncomputable def ZzN (w:World):Key->Int
 | .inl k=>hashInt k
 | .inr x=>hashStr w x
theorem ZaG:∀{k:Key} {v:Value},ZiJ k v=true->(∃i t,k=Sum.inl i/\v=Value.int i t)\/(∃x t,k=Sum.inr x/\v=Value.str x t)
 | .inl i,v,h=>by
  obtain ⟨t,e⟩:=Value.isInt_shape (k:=i) (v:=v) h
  exact .inl ⟨i,t,rfl,e⟩
 | .inr x,v,h=>by
  obtain ⟨t,e⟩:=Value.isStrOf_shape (x:=x) (v:=v) h
  exact .inr ⟨x,t,rfl,e⟩
theorem ZmJ (i:Int) (t:Tok):ZiJ (.inl i) (.int i t)=true:=by simp [ZiJ,Value.isInt]
theorem ZmI (x:Str) (t:Tok):ZiJ (.inr x) (.str x t)=true:=by simp [ZiJ,Value.isStrOf]
theorem ZuI (a b:Int):decide ((Sum.inl a:Key)=Sum.inl b)=(a == b):=by
 by_cases e:a=b
 ·subst e; simp
 ·have h:¬(Sum.inl a:Key)=Sum.inl b:=fun q=>e (Sum.inl.inj q)
  rw [decide_eq_false h]
  exact (beq_eq_false_iff_ne.mpr e).symm
theorem ZuF (a b:Str):decide ((Sum.inr a:Key)=Sum.inr b)=decide (a=b):=by
 by_cases e:a=b
 ·subst e; simp
 ·have h:¬(Sum.inr a:Key)=Sum.inr b:=fun q=>e (Sum.inr.inj q)
  rw [decide_eq_false h,decide_eq_false e]
theorem ZuH (a:Int) (b:Str):decide ((Sum.inl a:Key)=Sum.inr b)=false:=decide_eq_false (fun q=>nomatch q)
theorem ZuG (a:Str) (b:Int):decide ((Sum.inr a:Key)=Sum.inl b)=false:=decide_eq_false (fun q=>nomatch q)
noncomputable def Zah (prog:Program) (w:World):PySem.KeyKind prog w Key where
 is:=ZiJ
 hash:=ZzN w
 inj:=fun v a b ha hb=>by
  rcases ZaG ha with ⟨i,t,rfl,rfl⟩ | ⟨x,t,rfl,rfl⟩
  ·rcases ZaG hb with ⟨j,u,rfl,e⟩ | ⟨y,u,rfl,e⟩
   ·injection e with e1 _; rw [e1]
   ·exact nomatch e
  ·rcases ZaG hb with ⟨j,u,rfl,e⟩ | ⟨y,u,rfl,e⟩
   ·exact nomatch e
   ·injection e with e1 _; rw [e1]
 byValue:=fun k v h=>by
  rcases ZaG h with ⟨i,t,rfl,rfl⟩ | ⟨x,t,rfl,rfl⟩<;>rfl
 pyHash:=fun hv h=>by
  rcases ZaG hv with ⟨i,t,rfl,rfl⟩ | ⟨x,t,rfl,rfl⟩
  ·exact wpAny_pyHash_int h
  ·exact wpAny_pyHash_str h
 eqBool:=fun hu hv h=>by
  rcases ZaG hu with ⟨i,t,rfl,rfl⟩ | ⟨x,t,rfl,rfl⟩
  ·rcases ZaG hv with ⟨j,u,rfl,rfl⟩ | ⟨y,u,rfl,rfl⟩
   ·rw [ZuI] at h; exact wpAny_eqBool_int h
   ·rw [ZuH] at h; exact SeqAt.EqAt.int_str i t y u _ _ _ _ h
  ·rcases ZaG hv with ⟨j,u,rfl,rfl⟩ | ⟨y,u,rfl,rfl⟩
   ·rw [ZuG] at h; exact SeqAt.EqAt.str_int x t j u _ _ _ _ h
   ·rw [ZuF] at h; exact wpAny_eqBool_str h
 «strs»:=fun k x t v h=>by
  rcases ZaG h with ⟨i,u,rfl,e⟩ | ⟨y,u,rfl,e⟩
  ·exact nomatch e
  ·injection e with e1 _
   subst e1
   cases v<;>rfl
theorem Zkh (prog:Program) (w:World) (i:Int) (t:Tok):(Zah prog w).is (.inl i) (.int i t)=true:=ZmJ i t
theorem Zkg (prog:Program) (w:World) (x:Str) (t:Tok):(Zah prog w).is (.inr x) (.str x t)=true:=ZmI x t
inductive V where
 | non | bl (b:Bool) | int (i:Int) | str (x:Str) | byt (b:Array UInt8) | flt (b:UInt64) | ref (a:Addr) | ty (n:String)
 deriving DecidableEq
def RelV:V->Value->Prop
 | .non,u=>u=Value.none
 | .bl b,u=>u=Value.bool b
 | .int i,u=>∃t,u=Value.int i t
 | .str x,u=>∃t,u=Value.str x t
 | .byt b,u=>∃t,u=Value.bytes b t
 | .flt b,u=>∃t,u=Value.float b t
 | .ref a,u=>u=Value.ref a
 | .ty n,u=>u=Value.type n
abbrev Vals:List V->List Value->Prop:=Paired RelV
theorem Vals.length {xs:List V} {us:List Value} (r:Vals xs us):xs.length=us.length:=Paired.length r
theorem Vals.get:∀{xs:List V} {us:List Value} {i:Nat} {x:V},Vals xs us->xs[i]?=some x->∃u,us[i]?=some u/\RelV x u
 | _,_,_,_,.nil,e=>by simp at e
 | _,_,0,_,.cons r _,e=>by simp at e; subst e; exact ⟨_,rfl,r⟩
 | _,_,i+1,x,.cons _ t,e=>by
  obtain ⟨u,h1,h2⟩:=Vals.get (i:=i) (x:=x) t (by simpa using e)
  exact ⟨u,by simpa using h1,h2⟩
theorem Vals.set {x:V} {u:Value} (r:RelV x u):∀{xs:List V} {us:List Value} (i:Nat),Vals xs us->Vals (xs.set i x) (us.set i u)
 | _,_,_,.nil=>.nil
 | _,_,0,.cons _ t=>.cons r t
 | _,_,i+1,.cons q t=>.cons q (Vals.set r i t)
theorem Vals.append:∀{xs ys:List V} {us ws:List Value},Vals xs us->Vals ys ws->Vals (xs++ys) (us++ws)
 | _,_,_,_,.nil,s=>s
 | _,_,_,_,.cons r t,s=>.cons r (Vals.append t s)
theorem Vals.take:∀{xs:List V} {us:List Value} (n:Nat),Vals xs us->Vals (xs.take n) (us.take n)
 | _,_,0,_=>.nil
 | _,_,_+1,.nil=>.nil
 | _,_,n+1,.cons r t=>.cons r (Vals.take n t)
theorem Vals.drop:∀{xs:List V} {us:List Value} (n:Nat),Vals xs us->Vals (xs.drop n) (us.drop n)
 | _,_,0,r=>r
 | _,_,_+1,.nil=>.nil
 | _,_,n+1,.cons _ t=>Vals.drop n t
theorem Vals.none_of:∀{xs:List V} {us:List Value} {i:Nat},Vals xs us->xs[i]?=none->us[i]?=none:=fun {xs us i} r e=>by
 have h1:=r.length
 have h2:xs.length<=i:=YM.mp e
 exact YM.mpr (by omega)
def RelO:Option V->Option Value->Prop
 | some v,some u=>RelV v u
 | none,none=>True
 | _,_=>False
def KV {κ:Type}:List (κ×V)->List (κ×Value)->Prop:=Paired fun (p:κ×V) (q:κ×Value)=>p.1=q.1/\RelV p.2 q.2
noncomputable def kV:Key->V
 | .inl i=>.int i
 | .inr x=>.str x
inductive HO where
 | lst (xs:List V)
 | tup (xs:List V)
 | dK (kvs:List (Key×V)) | dT (kvs:List (List Key×V))
 | set (S:Int->Bool) (n:Nat)
 | ins (C dx:Addr) (fs:List (Str×V))
 | own (x:Addr)
 | xd (fs:List (Str×V))
 | met (f x:Addr)
 | rng (lo hi:Int)
 | frz (o:Obj) (u:HO)
 | tbl (ps:Array Value)
 | ext (φ:Heap->Prop)
abbrev Hp:=Addr->Option HO
noncomputable def upd (H:Hp) (a:Addr) (o:HO):Hp:=fun b=>if b=a then some o else H b
theorem Z9 {H:Hp} {a:Addr} {o:HO}:upd H a o a=some o:=by unfold upd; rw [if_pos rfl]
theorem ZM {H:Hp} {a b:Addr} {o:HO} (h:b≠a):upd H a o b=H b:=by unfold upd; rw [if_neg h]
theorem Zwm {H:Hp} {a b:Addr} {o u:HO} (h:H a=some o) (h':H b=some u) (d:o≠u):a≠b:=by
 intro e; subst e; rw [h] at h'; exact d (Option.some.inj h')
theorem zq {H:Hp} {a b:Addr} {o:HO} (h:H a=some o) (h':H b=none):a≠b:=by
 intro e; subst e; rw [h] at h'; cases h'
section
variable (P:Program) (w:World)
def ObjOk (H:Hp) (h:Heap) (a:Addr):HO->Prop
 | .lst xs=>xs.length<=sizeLine/\∃(its:List Value) (n:Nat),Vals xs its/\h.get? a=some { cls:=.type "list",data:=.seq its.toArray n }
 | .tup xs=>xs.length<=sizeLine/\∃its:List Value,Vals xs its/\IsTup h a its.toArray
 | .dK kvs=>kvs.length<=sizeLine/\(a == sysModules)=false/\∃vs,KV kvs vs/\h.DictOf (Zah P w) a vs
 | .dT kvs=>kvs.length<=sizeLine/\(a == sysModules)=false/\∃xs:List (List Key×Addr×Value),
   Paired (fun (p:List Key×V) (q:List Key×Addr×Value)=>p.1=q.1/\H q.2.1=some (.tup (p.1.map kV))/\RelV p.2 q.2.2) kvs xs/\
   ∃o es ep,h.get? a=some o/\o.ExactDict/\o.data=.dict es ep/\es.toList=xs.map (entryOfKey (tupleKind (Zah P w)))/\(xs.map (·.1)).Nodup
 | .set S n=>h.SetOf (intKind P w) a S n
 | .ins C dx fs=>H dx=some (.own a)/\fs.length<=1000/\dx≠a/\h.get? a=some (PySem.W.instObj C dx)/\
   ∃mA,h.Ns1 dx mA/\(∀f,RelO (fs.lookup f) (mA f))/\PySem.Within mA (fs.map (·.1))
 | .own _=>∃o,h.get? a=some o
 | .xd fs=>∃mA,h.Ns1 a mA/\∀f,RelO (fs.lookup f) (mA f)
 | .rng lo hi=>∃t u v,h.get? a=some { cls:=.type "range",data:=.fields #[.int lo t,.int hi u,.int 1 v] }
 | .frz o u=>h.get? a=some o/\ObjOk H h a u
 | .tbl ps=>h.get? a=some { cls:=.none,data:=.fields ps }
 | .met f x=>h.get? a=some (PySem.W.methodObj (.ref f) (.ref x))
 | .ext φ=>φ h/\(∃o,h.get? a=some o)/\∀h1 h2:Heap,φ h1->(∀o,h1.get? a=some o->h2.get? a=some o)->φ h2
def HOk (H:Hp) (h:Heap):Prop:=∀a o,H a=some o->ObjOk P w H h a o
end
section
variable {P:Program} {w:World} {H H':Hp} {h h':Heap} {a:Addr} {o:HO}
theorem ObjOk.lt (x:ObjOk P w H h a o):a<h.objs.size:=by
 cases o with
 | lst xs=>obtain ⟨_,_,_,_,e⟩:=x; exact Heap.lt_size e
 | tup xs=>obtain ⟨_,_,_,p⟩:=x; exact p.lt
 | dK kvs=>obtain ⟨_,_,_,_,o,_,_,e,_⟩:=x; exact Heap.lt_size e
 | dT kvs=>obtain ⟨_,_,_,_,o,_,_,e,_⟩:=x; exact Heap.lt_size e
 | set S n=>obtain ⟨o,_,_,_,e,_⟩:=x; exact Heap.lt_size e
 | ins C dx fs=>obtain ⟨_,_,_,e,_⟩:=x; exact Heap.lt_size e
 | own y=>obtain ⟨_,e⟩:=x; exact Heap.lt_size e
 | xd fs=>obtain ⟨_,⟨_,_,_,e,_⟩,_⟩:=x; exact Heap.lt_size e
 | rng lo hi=>obtain ⟨_,_,_,e⟩:=x; exact Heap.lt_size e
 | frz ob u=>obtain ⟨e,_⟩:=x; exact Heap.lt_size e
 | tbl ps=>exact Heap.lt_size (show h.get? a=some _ from x)
 | met f y=>exact Heap.lt_size (show h.get? a=some _ from x)
 | ext φ=>obtain ⟨_,⟨_,e⟩,_⟩:=x; exact Heap.lt_size e
theorem Paired.mapP {α β:Type} {F G:α->β->Prop}:∀{l₁:List α} {l₂:List β},Paired F l₁ l₂->(∀a b,F a b->G a b)->Paired G l₁ l₂
 | _,_,.nil,_=>.nil
 | _,_,.cons r t,f=>.cons (f _ _ r) (Paired.mapP t f)
theorem ObjOk.stay (x:ObjOk P w H h a o) (k:∀b u,(b=a\/H b=some (.own a))->h.get? b=some u->h'.get? b=some u)
  (ho:∀b,H b=some (.own a)->H' b=some (.own a)) (ht:∀b xs,H b=some (.tup xs)->H' b=some (.tup xs)):ObjOk P w H' h' a o:=by
 induction o with
 | lst xs=>obtain ⟨z,its,n,r,e⟩:=x; exact ⟨z,its,n,r,k _ _ (.inl rfl) e⟩
 | tup xs=>obtain ⟨z,its,r,ob,e,c⟩:=x; exact ⟨z,its,r,ob,k _ _ (.inl rfl) e,c⟩
 | dK kvs=>obtain ⟨z,y,vs,r,ob,es,ep,e,c⟩:=x; exact ⟨z,y,vs,r,ob,es,ep,k _ _ (.inl rfl) e,c⟩
 | dT kvs=>
  obtain ⟨z,y,xs,r,ob,es,ep,e,c⟩:=x
  exact ⟨z,y,xs,Paired.mapP r fun p q z=>⟨z.1,ht _ _ z.2.1,z.2.2⟩,ob,es,ep,k _ _ (.inl rfl) e,c⟩
 | set S n=>obtain ⟨ob,es,ep,t,e,c⟩:=x; exact ⟨ob,es,ep,t,k _ _ (.inl rfl) e,c⟩
 | ins C dx fs=>
  obtain ⟨d,z,ne,e,mA,⟨od,es,ep,e2,c⟩,r⟩:=x
  exact ⟨ho _ d,z,ne,k _ _ (.inl rfl) e,mA,⟨od,es,ep,k _ _ (.inr d) e2,c⟩,r⟩
 | own y=>obtain ⟨ob,e⟩:=x; exact ⟨ob,k _ _ (.inl rfl) e⟩
 | xd fs=>obtain ⟨mA,⟨od,es,ep,e,c⟩,r⟩:=x; exact ⟨mA,⟨od,es,ep,k _ _ (.inl rfl) e,c⟩,r⟩
 | rng lo hi=>obtain ⟨t,u,v,e⟩:=x; exact ⟨t,u,v,k _ _ (.inl rfl) e⟩
 | frz ob u ih=>obtain ⟨e,q⟩:=x; exact ⟨k _ _ (.inl rfl) e,ih q⟩
 | tbl ps=>
  have e:h.get? a=some { cls:=.none,data:=.fields ps }:=x
  show h'.get? a=some { cls:=.none,data:=.fields ps }
  exact k a _ (.inl rfl) e
 | met f y=>
  have e:h.get? a=some (PySem.W.methodObj (.ref f) (.ref y)):=x
  show h'.get? a=some (PySem.W.methodObj (.ref f) (.ref y))
  exact k a _ (.inl rfl) e
 | ext φ=>obtain ⟨p,⟨o,e⟩,st⟩:=x; exact ⟨st _ _ p fun o q=>k _ _ (.inl rfl) q,⟨o,k _ _ (.inl rfl) e⟩,st⟩
theorem HOk.lt (x:HOk P w H h) (e:H a=some o):a<h.objs.size:=(x a o e).lt
theorem HOk.fresh (x:HOk P w H h) (e:h.objs.size<=a):H a=none:=by
 cases q:H a with
 | none=>rfl
 | some u=>exact absurd (Yl (x.lt q) e) (YB _)
theorem HOk.kept (x:HOk P w H h) (k:∀b u,h.get? b=some u->h'.get? b=some u):HOk P w H h':=fun a o e=>
 (x a o e).stay (fun b u _ q=>k b u q) (fun _ q=>q) fun _ _ q=>q
theorem HOk.laid (x:HOk P w H h) (k:∀b u,h.get? b=some u->h'.get? b=some u) (hp:h.objs.size<=a) (new:ObjOk P w (upd H a o) h' a o):HOk P w (upd H a o) h':=fun b u e=>by
 have hn:=x.fresh hp
 by_cases hb:b=a
 ·subst hb; rw [Z9] at e; cases e; exact new
 ·rw [ZM hb] at e
  exact (x b u e).stay (fun c v _ q=>k c v q) (fun c q=>by rw [ZM (zq q hn)]; exact q) fun c xs q=>by rw [ZM (zq q hn)]; exact q
end
def Rd (H:Hp) (a:Addr) (u:HO):Prop:=H a=some u\/∃o,H a=some (.frz o u)
theorem Rd.ok {P:Program} {w:World} {H:Hp} {h:Heap} {a:Addr} {u:HO} (r:Rd H a u) (x:HOk P w H h):ObjOk P w H h a u:=by
 rcases r with r | ⟨o,r⟩
 ·exact x a u r
 ·obtain ⟨_,q⟩:=x a _ r
  exact q
def Mut:Option HO->Prop
 | some (.lst _)=>True
 | some (.dK _)=>True
 | some (.dT _)=>True
 | some (.set _ _)=>True
 | some (.ins _ _ _)=>True
 | some (.ext _)=>True
 | _=>False
section
variable {P:Program} {w:World} {H:Hp} {h h':Heap} {x e:Addr} {o':HO}
theorem HOk.write (ok:HOk P w H h) (mu:Mut (H x)) (he:e=x\/H e=some (.own x)) (k:∀b u,b≠e->h.get? b=some u->h'.get? b=some u) (heo:∃u,h'.get? e=some u)
  (new:ObjOk P w (upd H x o') h' x o'):HOk P w (upd H x o') h':=fun b u q=>by
 have nown:∀c y,H c=some (.own y)->c≠x:=fun c y r z=>by subst z; rw [r] at mu; exact mu
 have ntup:∀c xs,H c=some (.tup xs)->c≠x:=fun c xs r z=>by subst z; rw [r] at mu; exact mu
 by_cases hb:b=x
 ·subst hb; rw [Z9] at q; cases q; exact new
 ·rw [ZM hb] at q
  by_cases hbe:b=e
  ·have q':H b=some (.own x):=by
    rcases he with z | z
    ·exact absurd (hbe.trans z) hb
    ·rw [hbe]; exact z
   rw [q] at q'; cases q'
   obtain ⟨v,hv⟩:=heo
   exact ⟨v,by rw [hbe]; exact hv⟩
  ·refine (ok b u q).stay (fun c v hc r=>k c v ?_ r) (fun c r=>by rw [ZM (nown c b r)]; exact r) fun c xs r=>by rw [ZM (ntup c xs r)]; exact r
   rcases hc with rfl | hc
   ·exact hbe
   ·rintro rfl
    rcases he with z | z
    ·exact nown c b hc z
    ·rw [hc] at z; cases z; exact hb rfl
end
structure Un (fs ex:List Addr) (H H':Hp) (h h':Heap):Prop where
 keep:∀b o,h.get? b=some o->H b=none->b∉fs->b∉ex->h'.get? b=some o
 slot:∀b o,h.get? b=some o->H b=none->b∈fs->b∉ex->∃sl,h'.get? b=some { o with slots:=sl }
 free:∀b o,h.get? b=some o->H b=none->b∉ex->H' b=none
 there:∀b o,h.get? b=some o->b∉ex->∃o',h'.get? b=some o'
 tups:∀b xs,H b=some (.tup xs)->H' b=some (.tup xs)
 frzs:∀b o u,H b=some (.frz o u)->H' b=some (.frz o u)
 tbls:∀b ps,H b=some (.tbl ps)->∃more,H' b=some (.tbl (ps++more))
section
variable {fs fs' ex ex':List Addr} {H H1 H2:Hp} {h h1 h2 h':Heap} {a x e:Addr} {o:HO}
theorem Un.any (u:Un fs ex H H1 h h1) {b:Addr} {ob:Obj} (q:h.get? b=some ob) (n:H b=none) (hx:b∉ex):∃sl,h1.get? b=some { ob with slots:=sl }:=by
 by_cases hb:b∈fs
 ·exact u.slot b ob q n hb hx
 ·exact ⟨ob.slots,u.keep b ob q n hb hx⟩
theorem Un.kept (k:∀b u,h.get? b=some u->h'.get? b=some u):Un fs ex H H h h':=
 ⟨fun b ob q _ _ _=>k b ob q,fun b ob q _ _ _=>⟨ob.slots,k b ob q⟩,fun _ _ _ n _=>n,fun b ob q _=>⟨ob,k b ob q⟩,fun _ _ q=>q,fun _ _ _ q=>q,fun _ ps q=>⟨#[],by rw [q]; simp⟩⟩
theorem Un.refl:Un fs ex H H h h:=Un.kept fun _ _ q=>q
theorem Un.laid (k:∀b u,h.get? b=some u->h'.get? b=some u) (hp:h.objs.size<=a) (hn:H a=none):Un fs ex H (upd H a o) h h' where
 keep:=fun b u q _ _ _=>k b u q
 slot:=fun b u q _ _ _=>⟨u.slots,k b u q⟩
 free:=fun b u q n _=>by rw [ZM (Yn (Yl (Heap.lt_size q) hp))]; exact n
 there:=fun b u q _=>⟨u,k b u q⟩
 tups:=fun b xs q=>by rw [ZM (zq q hn)]; exact q
 frzs:=fun b u xs q=>by rw [ZM (zq q hn)]; exact q
 tbls:=fun b ps q=>⟨#[],by rw [ZM (zq q hn),q]; simp⟩
theorem Un.write (mu:Mut (H x)) (he:e=x\/H e=some (.own x)) (k:∀b u,b≠e->h.get? b=some u->h'.get? b=some u) (heo:∃u,h'.get? e=some u):Un fs ex H (upd H x o) h h':=by
 have hx:∀b,H b=none->b≠x:=fun b n z=>by subst z; rw [n] at mu; exact mu
 have hb:∀b,H b=none->b≠e:=fun b n z=>by
  subst z
  rcases he with r | r
  ·exact hx b n r
  ·rw [n] at r; cases r
 have hm:∀b u,H b=some u->¬Mut (some u)->b≠x:=fun b u q nm z=>by subst z; rw [q] at mu; exact nm mu
 refine ⟨fun b u q n _ _=>k b u (hb b n) q,fun b u q n _ _=>⟨u.slots,k b u (hb b n) q⟩,fun b u q n _=>by rw [ZM (hx b n)]; exact n,fun b u q _=>?_,
  fun b xs q=>by rw [ZM (hm b _ q fun z=>z)]; exact q,fun b u xs q=>by rw [ZM (hm b _ q fun z=>z)]; exact q,fun b ps q=>⟨#[],by rw [ZM (hm b _ q fun z=>z),q]; simp⟩⟩
 by_cases hbe:b=e
 ·subst hbe; exact heo
 ·exact ⟨u,k b u hbe q⟩
end
noncomputable def trk (h:Heap) (H:Hp):List Addr:=(List.range h.objs.size).filter fun a=>(H a).isSome
noncomputable def Zjv (h:Heap) (H:Hp):Heap:=PySem.W.hideAll h (trk h H)
theorem ZmM (h:Heap) (H:Hp):(Zjv h H).objs.size=h.objs.size:=PySem.W.hideAll_size _ _
theorem Zok {h:Heap} {H:Hp} {b:Addr} {o:Obj} (e:h.get? b=some o) (n:H b=none):(Zjv h H).get? b=some o:=
 PySem.W.hideAll_get _ e fun hm=>by
  have q:(H b).isSome=true:=(YN.mp hm).2
  rw [n] at q; simp at q
theorem Zq1 {h:Heap} {H:Hp} {b:Addr} {o:Obj} (e:(Zjv h H).get? b=some o):h.get? b=some o/\H b=none:=by
 have e':h.get? b=some o:=PySem.W.of_hideAll (trk h H) e
 refine ⟨e',?_⟩
 cases q:H b with
 | none=>rfl
 | some x=>
  have hm:b∈trk h H:=YN.mpr ⟨List.mem_range.mpr (Heap.lt_size e'),by simp [q]⟩
  have z:(Zjv h H).get? b=none:=PySem.W.hideAll_none (trk h H) hm
  rw [z] at e; cases e
noncomputable def ZrH (g h:Heap) (L:Addr):List (Addr×Obj):=(List.range h.objs.size).filterMap fun a=>if a=L\/(g.get? a).isSome=true then none else (h.get? a).map fun o=>(a,o)
noncomputable def rest (g h:Heap) (L d:Addr):List (Addr×Obj):=(ZrH g h L).filter fun p=>decide (p.1≠d)
structure Mod (K:PySem.W.Frag) (mg:Str->Option Value) (base:Heap):Prop where
 kin:K.In base
 glob:base.Ns mainGlobals mg
 blt:∃mb,base.Ns builtinsNs mb/\∀x:Str,x≠"__name__"->mb x=bootBuiltins x
 nolimit:base.NoLimit
structure Cx where
 prog:Program
 w:World
 K:PySem.W.Frag
 mg:Str->Option Value
 base:Heap
 A:Around
 N:List Str
 s₀:Shared
 H₀:Hp
 env:Env
 outer:List Env
 stack:List Env
 ex:List Addr
 fn:Str->Bool
 calm:Bool
 pn:List (Addr×Obj)
 xe:Value->Shared->Prop
noncomputable def frs (l:List Env):List Addr:=l.filterMap (·.frame)
noncomputable abbrev Cx.fs (X:Cx):List Addr:=frs X.outer
def Vis (sc:Scope) (x:Str):Prop:=sc.names.lookup x=some .local\/sc.names.lookup x=some .cell\/sc.names.lookup x=some .free
def Loc (sc:Scope) (x:Str):Prop:=sc.names.lookup x=some .local\/sc.names.lookup x=some .cell
def ZAc (env:Env) (h:Heap) (m:Str->Option Value) (x:Str) (u:Value):Prop:=
 (env.kindOf x=some .local/\m x=some u)\/((env.kindOf x=some .cell\/env.kindOf x=some .free)/\∃c,env.cells.lookup x=some c/\h.IsCell c (some u))
structure Cx.Ok (X:Cx):Prop where
 mod:Mod X.K X.mg X.base
 kind:X.env.scope.kind=.function
 glob:X.env.globals=mainGlobals
 blt:X.env.builtins=builtinsNs
 above:X.s₀.heap.objs.size<=X.env.locals
 inj:∀x y c,X.env.cells.lookup x=some c->X.env.cells.lookup y=some c->x=y
 has:∀x,(X.env.kindOf x=some .cell\/X.env.kindOf x=some .free)->∃c,X.env.cells.lookup x=some c
 cab:∀x c,X.fn x=true->X.env.cells.lookup x=some c->X.s₀.heap.objs.size<=c
 hd:X.calm=true->X.A.handled=none
 frames:X.A.frames=some X.stack
 stk:X.stack=X.outer\/(X.stack=X.env::X.outer/\X.env.frame=some X.env.locals)
 exf:∀b∈X.ex,b≠X.env.locals/\∀x c,X.env.cells.lookup x=some c->c≠b
 bs:∀b o,X.base.get? b=some o->X.s₀.heap.get? b=some o/\X.H₀ b=none
 bsz:X.base.objs.size<=X.s₀.heap.objs.size
 noex:∀b o,X.base.get? b=some o->b∉X.ex
 exfs:∀b∈X.ex,b∉X.fs
 funs:X.s₀.heap.FunFrames X.base X.outer
 frf:∀b∈X.fs,X.H₀ b=none
structure Inv (X:Cx) (pins:List (Addr×Obj)) (σ:List (Option V)) (H:Hp) (s:Shared):Prop where
 ok:X.Ok
 os:s.os=X.s₀.os
 bare:AllBare s.gens
 base:Un X.fs X.ex X.H₀ H X.s₀.heap s.heap
 loc:∃m,s.heap.Ns X.env.locals m/\∀(i:Nat) (x:Str) (v:V),X.N[i]?=some x->σ[i]?=some (some v)->Vis X.env.scope x->∃u,RelV v u/\ZAc X.env s.heap m x u
 cell:∀x c,X.env.cells.lookup x=some c->∃v,s.heap.IsCell c v
 free:H X.env.locals=none
 freeC:∀x c,X.env.cells.lookup x=some c->H c=none
 pin:∀p∈X.pn++pins,s.heap.get? p.1=some p.2/\H p.1=none/\p.1≠X.env.locals/\p.1∉X.fs/\∀v,p.2.data≠.cell v
 hok:HOk X.prog X.w H s.heap
 len:σ.length=X.N.length
section
variable {X:Cx} {pins:List (Addr×Obj)} {σ:List (Option V)} {H H':Hp} {s:Shared} {h':Heap}
theorem Cx.Ok.nofr (ok:X.Ok) {b:Addr} {o:Obj} (e:X.base.get? b=some o):b∉X.fs:=fun hb=>by
 have:=(ok.funs.mem hb).1
 rw [e] at this; cases this
theorem Inv.bs (I:Inv X pins σ H s):∀b o,X.base.get? b=some o->s.heap.get? b=some o/\H b=none:=fun b o e=>
 ⟨I.base.keep b o (I.ok.bs b o e).1 (I.ok.bs b o e).2 (I.ok.nofr e) (I.ok.noex b o e),I.base.free b o (I.ok.bs b o e).1 (I.ok.bs b o e).2 (I.ok.noex b o e)⟩
theorem Inv.bk (I:Inv X pins σ H s):∀b o,X.base.get? b=some o->s.heap.get? b=some o:=fun b o e=>(I.bs b o e).1
theorem Inv.mod (I:Inv X pins σ H s):Mod X.K X.mg X.base:=I.ok.mod
theorem Inv.kIn (I:Inv X pins σ H s):X.K.In s.heap:=I.ok.mod.kin.keeps I.bk
theorem Inv.lt (I:Inv X pins σ H s):X.env.locals<s.heap.objs.size:=let ⟨_,hn,_⟩:=I.loc; hn.lt
theorem Inv.sz (I:Inv X pins σ H s):X.s₀.heap.objs.size<=s.heap.objs.size:=Yu I.ok.above (Nat.le_of_lt I.lt)
theorem Inv.nofs (I:Inv X pins σ H s) {a:Addr} (h:s.heap.objs.size<=a):a∉X.fs:=fun hb=>by
 obtain ⟨_,o,ho,_⟩:=I.ok.funs.mem hb
 exact absurd (Yl (Heap.lt_size ho) (Yu I.sz h)) (YB _)
theorem Inv.cne (I:Inv X pins σ H s):∀x c,X.env.cells.lookup x=some c->c≠X.env.locals:=fun x c e z=>by
 obtain ⟨v,o,ho,hd⟩:=I.cell x c e
 obtain ⟨m,⟨o',es,ep,ho',hd',_⟩,_⟩:=I.loc
 rw [z,ho'] at ho; cases ho; rw [hd'] at hd; cases hd
theorem Inv.funs (I:Inv X pins σ H s):s.heap.FunFrames X.base X.outer:=by
 have all:∀(l:List Env),(∀b∈frs l,b∈X.fs)->X.s₀.heap.FunFrames X.base l->s.heap.FunFrames X.base l:=by
  intro l
  induction l with
  | nil=>intro _ _; trivial
  | cons env r ih=>
   intro hs hl
   obtain ⟨hk,⟨L,o,hf,hn,ho,hd⟩,hr⟩:=hl
   have hL:L∈X.fs:=hs L (by unfold frs; rw [List.filterMap_cons,hf]; exact Ys)
   obtain ⟨sl,e⟩:=I.base.slot L o ho (I.ok.frf L hL) hL fun z=>I.ok.exfs L z hL
   exact ⟨hk,⟨L,_,hf,hn,e,hd⟩,ih (fun b hb=>hs b (by unfold frs; rw [List.filterMap_cons,hf]; exact Yo _ hb)) hr⟩
 exact all X.outer (fun _ hb=>hb) I.ok.funs
theorem Inv.stack (I:Inv X pins σ H s):s.heap.FunFrames X.base X.stack:=by
 rcases I.ok.stk with e | ⟨e,hf⟩
 ·rw [e]; exact I.funs
 ·rw [e]
  obtain ⟨m,hn,_⟩:=I.loc
  refine .cons (by rw [I.ok.kind]; decide) hf hn ?_ I.funs
  exact Heap.get?_none_of_le (Yu I.ok.bsz I.ok.above)
theorem Inv.stkSub (I:Inv X pins σ H s):∀b∈frs X.stack,b∈X.env.locals::X.fs:=fun b hb=>by
 rcases I.ok.stk with e | ⟨e,hf⟩
 ·rw [e] at hb; exact Yo _ hb
 ·rw [e] at hb
  unfold frs at hb
  rw [List.filterMap_cons,hf] at hb
  exact hb
theorem Inv.stkFree (I:Inv X pins σ H s):∀b∈frs X.stack,H b=none:=fun b hb=>by
 rcases Yq.mp (I.stkSub b hb) with e | hb
 ·rw [e]; exact I.free
 ·obtain ⟨_,o,ho,_⟩:=I.ok.funs.mem hb
  exact I.base.free b o ho (I.ok.frf b hb) fun z=>I.ok.exfs b z hb
theorem Inv.step {g':Array GenState} {t':Nat} {d':Drawn} {ch:List Addr} (I:Inv X pins σ H s)
  (hch:∀b∈ch,(b∈X.ex\/X.s₀.heap.objs.size<=b)/\b≠X.env.locals/\(∀x c,X.env.cells.lookup x=some c->c≠b)/\∀p∈X.pn++pins,p.1≠b)
  (keep:∀b o,b≠X.env.locals->b∉X.fs->b∉ch->s.heap.get? b=some o->H b=none->h'.get? b=some o)
  (slot:∀b o,b≠X.env.locals->b∈X.fs->b∉ch->s.heap.get? b=some o->H b=none->∃sl,h'.get? b=some { o with slots:=sl }) (free:∀b o,b∉ch->s.heap.get? b=some o->H b=none->H' b=none)
  (there:∀b o,b∉ch->s.heap.get? b=some o->∃o',h'.get? b=some o')
  (tups:∀b xs,H b=some (.tup xs)->H' b=some (.tup xs)) (frzs:∀b o u,H b=some (.frz o u)->H' b=some (.frz o u)) (tbls:∀b ps,H b=some (.tbl ps)->∃more,H' b=some (.tbl (ps++more)))
  (ns:∀m,s.heap.Ns X.env.locals m->h'.Ns X.env.locals m) (hok:HOk X.prog X.w H' h') (hg:AllBare g') :
  Inv X pins σ H' { s with heap:=h',gens:=g',drawn:=d',toks:=t' }:=by
 have neL:∀b o,X.s₀.heap.get? b=some o->b≠X.env.locals:=fun b o e=>Yn (Yl (Heap.lt_size e) I.ok.above)
 have neC:∀b o,X.s₀.heap.get? b=some o->b∉X.ex->b∉ch:=fun b o e hx hb=>by
  rcases (hch b hb).1 with z | z
  ·exact hx z
  ·exact absurd (Yl (Heap.lt_size e) z) (YB _)
 have cellK:∀x c,X.env.cells.lookup x=some c->∀v,s.heap.IsCell c v->h'.IsCell c v:=fun x c e v ⟨o,ho,hd⟩=>by
  have nch:c∉ch:=fun z=>(hch c z).2.2.1 x c e rfl
  by_cases hc:c∈X.fs
  ·obtain ⟨sl,q⟩:=slot c o (I.cne x c e) hc nch ho (I.freeC x c e)
   exact ⟨_,q,hd⟩
  ·exact ⟨o,keep c o (I.cne x c e) hc nch ho (I.freeC x c e),hd⟩
 refine ⟨I.ok,I.os,hg,⟨fun b o e n hb hx=>?_,fun b o e n hb hx=>?_,fun b o e n hx=>?_,fun b o e hx=>?_,fun b xs e=>tups b xs (I.base.tups b xs e),fun b o xs e=>frzs b o xs (I.base.frzs b o xs e),fun b ps e=>?_⟩,?_,fun x c e=>?_,?_,fun x c e=>?_,fun p hp=>?_,hok,I.len⟩
 ·exact keep b o (neL b o e) hb (neC b o e hx) (I.base.keep b o e n hb hx) (I.base.free b o e n hx)
 ·obtain ⟨sl,e1⟩:=I.base.slot b o e n hb hx
  obtain ⟨sl',e2⟩:=slot b _ (neL b o e) hb (neC b o e hx) e1 (I.base.free b o e n hx)
  exact ⟨sl',e2⟩
 ·obtain ⟨o',e1⟩:=I.base.there b o e hx
  exact free b o' (neC b o e hx) e1 (I.base.free b o e n hx)
 ·obtain ⟨o',e1⟩:=I.base.there b o e hx
  exact there b o' (neC b o e hx) e1
 ·obtain ⟨m1,e1⟩:=I.base.tbls b ps e
  obtain ⟨m2,e2⟩:=tbls b _ e1
  exact ⟨m1++m2,by rw [e2,Array.append_assoc]⟩
 ·obtain ⟨m,hn,hl⟩:=I.loc
  refine ⟨m,ns m hn,fun i x v e1 e2 e3=>?_⟩
  obtain ⟨u,r,l⟩:=hl i x v e1 e2 e3
  refine ⟨u,r,?_⟩
  rcases l with l | ⟨k,c,e,z⟩
  ·exact .inl l
  ·exact .inr ⟨k,c,e,cellK x c e _ z⟩
 ·obtain ⟨v,z⟩:=I.cell x c e
  exact ⟨v,cellK x c e v z⟩
 ·obtain ⟨m,⟨o,_,_,ho,_⟩,_⟩:=I.loc
  exact free _ o (fun z=>(hch _ z).2.1 rfl) ho I.free
 ·obtain ⟨v,o,ho,hd⟩:=I.cell x c e
  exact free c o (fun z=>(hch c z).2.2.1 x c e rfl) ho (I.freeC x c e)
 ·obtain ⟨e,n,ne,nf,d⟩:=I.pin p hp
  have nch:p.1∉ch:=fun z=>(hch p.1 z).2.2.2 p hp rfl
  exact ⟨keep p.1 p.2 ne nf nch e n,free p.1 p.2 nch e n,ne,nf,d⟩
theorem Inv.un {t':Nat} (I:Inv X pins σ H s) (u:Un X.fs [] H H' s.heap h') (hok:HOk X.prog X.w H' h'):Inv X pins σ H' { s with heap:=h',toks:=t' }:=by
 obtain ⟨m,⟨o,es,ep,ho,r⟩,_⟩:=id I.loc
 obtain ⟨sl,hL⟩:=u.any ho I.free (by simp)
 exact I.step (g':=s.gens) (d':=s.drawn) (ch:=[]) (fun _ z=>nomatch z) (fun b o _ hb _ e n=>u.keep b o e n hb (by simp)) (fun b o _ hb _ e n=>u.slot b o e n hb (by simp)) (fun b o _ e n=>u.free b o e n (by simp)) (fun b o _ e=>u.there b o e (by simp)) u.tups u.frzs u.tbls (fun m' hm=>by
  obtain ⟨o',es',ep',ho',r'⟩:=hm
  rw [ho] at ho'; cases ho'
  exact ⟨_,es',ep',hL,r'⟩) hok I.bare
theorem Inv.call {g':Array GenState} {t':Nat} {d':Drawn} {ch:List Addr} (I:Inv X pins σ H s) (u:Un (frs X.stack) ch H H' s.heap h') (hok:HOk X.prog X.w H' h') (hg:AllBare g')
  (hch:∀b∈ch,(b∈X.ex\/X.s₀.heap.objs.size<=b)/\b≠X.env.locals/\(∀x c,X.env.cells.lookup x=some c->c≠b)/\∀p∈X.pn++pins,p.1≠b) :
  Inv X pins σ H' { s with heap:=h',gens:=g',drawn:=d',toks:=t' }:=by
 obtain ⟨m,⟨o,es,ep,ho,r⟩,_⟩:=id I.loc
 obtain ⟨sl,hL⟩:=u.any ho I.free fun z=>(hch _ z).2.1 rfl
 exact I.step (ch:=ch) hch (fun b o hL hb hc e n=>u.keep b o e n (fun z=>(Yq.mp (I.stkSub b z)).elim hL hb) hc) (fun b o _ _ hc e n=>u.any e n hc) (fun b o hc e n=>u.free b o e n hc) (fun b o hc e=>u.there b o e hc) u.tups u.frzs u.tbls (fun m' hm=>by
  obtain ⟨o',es',ep',ho',r'⟩:=hm
  rw [ho] at ho'; cases ho'
  exact ⟨_,es',ep',hL,r'⟩) hok hg
theorem Inv.turned {t':Nat} {it:Addr} (I:Inv X pins σ H s) (k:∀b o,b≠it->s.heap.get? b=some o->h'.get? b=some o) (hn:H it=none) (hL:it≠X.env.locals)
  (h1:it∈X.ex\/X.s₀.heap.objs.size<=it) (h2:∀x c,X.env.cells.lookup x=some c->c≠it) (h3:∀p∈X.pn++pins,p.1≠it):Inv X pins σ H { s with heap:=h',toks:=t' }:=by
 have nit:∀b u,H b=some u->b≠it:=fun b u e z=>by rw [z,hn] at e; cases e
 refine I.step (g':=s.gens) (d':=s.drawn) (ch:=[it]) (fun b hb=>?_) (fun b o _ _ hc e _=>k b o (fun z=>hc (by simp [z])) e) (fun b o _ _ hc e _=>⟨o.slots,k b o (fun z=>hc (by simp [z])) e⟩) (fun _ _ _ _ n=>n)
  (fun b o hc e=>⟨o,k b o (fun z=>hc (by simp [z])) e⟩) (fun _ _ e=>e) (fun _ _ _ e=>e) (fun b ps e=>⟨#[],by rw [e]; simp⟩) (fun m hm=>?_) (fun b u e=>?_) I.bare
 ·have e:b=it:=by simpa using hb
  subst e
  exact ⟨h1,hL,h2,h3⟩
 ·obtain ⟨o,es,ep,ho,r⟩:=hm
  exact ⟨o,es,ep,k _ o (Ne.symm hL) ho,r⟩
 ·refine (I.hok b u e).stay (fun c v hc q=>k c v ?_ q) (fun _ q=>q) fun _ _ q=>q
  rcases hc with z | z
  ·rw [z]; exact nit b u e
  ·exact nit c _ z
theorem Inv.tok (I:Inv X pins σ H s) (t:Nat):Inv X pins σ H { s with toks:=t }:=I.un (h':=s.heap) (t':=t) Un.refl I.hok
theorem Inv.kept {t':Nat} (I:Inv X pins σ H s) (k:∀b u,s.heap.get? b=some u->h'.get? b=some u):Inv X pins σ H { s with heap:=h',toks:=t' }:=I.un (Un.kept k) (I.hok.kept k)
theorem Inv.laid {a:Addr} {o:HO} {t':Nat} (I:Inv X pins σ H s) (k:∀b u,s.heap.get? b=some u->h'.get? b=some u) (hp:s.heap.objs.size<=a) (new:ObjOk X.prog X.w (upd H a o) h' a o) :
  Inv X pins σ (upd H a o) { s with heap:=h',toks:=t' }:=I.un (Un.laid k hp (I.hok.fresh hp)) (I.hok.laid k hp new)
theorem Inv.write {x e:Addr} {o:HO} {t':Nat} (I:Inv X pins σ H s) (mu:Mut (H x)) (he:e=x\/H e=some (.own x)) (k:∀b u,b≠e->s.heap.get? b=some u->h'.get? b=some u) (heo:∃u,h'.get? e=some u)
  (new:ObjOk X.prog X.w (upd H x o) h' x o):Inv X pins σ (upd H x o) { s with heap:=h',toks:=t' }:=I.un (Un.write mu he k heo) (I.hok.write mu he k heo new)
theorem Inv.pins_of {pins':List (Addr×Obj)} (I:Inv X pins σ H s) (h:∀p∈pins',s.heap.get? p.1=some p.2/\H p.1=none/\p.1≠X.env.locals/\p.1∉X.fs/\∀v,p.2.data≠.cell v):Inv X pins' σ H s:=
 ⟨I.ok,I.os,I.bare,I.base,I.loc,I.cell,I.free,I.freeC,fun p hp=>(Yw.mp hp).elim (fun z=>I.pin p (YQ _ z)) (h p),I.hok,I.len⟩
theorem Zkd {N:List Str} (hN:N.Nodup) {i j:Nat} {x:Str} (a:N[i]?=some x) (b:N[j]?=some x):i=j:=by
 obtain ⟨h1,e1⟩:=Ye.mp a
 obtain ⟨h2,e2⟩:=Ye.mp b
 exact (List.getElem_inj hN).mp (e1.trans e2.symm)
theorem Zml {M:Model} {A:Around} {E:Value->Shared->Prop} {i:Nat} {x:Str} {v:V} {u:Value} {Q:Unit->Shared->Prop} (I:Inv X pins σ H s) (hN:X.N.Nodup) (hi:X.N[i]?=some x) (hx:Loc X.env.scope x) (r:RelV v u)
  (h:∀s',Inv X pins (σ.set i (some v)) H s'->(∃a,Heap.SameBut a s.heap s'.heap/\(a=X.env.locals\/X.env.cells.lookup x=some a))->Q () s') (hf:X.fn x=true\/X.env.scope.names.lookup x=some .local:=by first | exact .inl rfl | exact .inr rfl | assumption):wpAny M A (storeName X.env x u) Q E s:=by
 obtain ⟨m,hn,hl⟩:=id I.loc
 have hcls:(X.env.scope.kind == .class || (X.env.scope.kind == .module && X.env.locals != X.env.globals))=false:=by rw [I.ok.kind]; rfl
 have hiσ:i < σ.length:=by rw [I.len]; exact (Ye.mp hi).1
 have cne:=I.cne
 have tracked:∀{a:Addr} {h':Heap},(∃o,s.heap.get? a=some o/\H a=none)->Heap.SameBut a s.heap h'->HOk X.prog X.w H h':=fun {a h'} ha hs b ob e=>by
  obtain ⟨_,_,hfree⟩:=ha
  refine (I.hok b ob e).stay (fun c w' hc q=>(hs.2 c ?_).trans q) (fun _ q=>q) fun _ _ q=>q
  rintro rfl
  rcases hc with rfl | hc
  ·rw [hfree] at e; cases e
  ·rw [hfree] at hc; cases hc
 rcases hx with hk | hk
 ·refine wpAny_storeName_local hk hn (fun h' hn' hs=>?_) hcls
  obtain ⟨oL,_,_,hoL,_⟩:=id hn
  refine h _ ⟨I.ok,I.os,I.bare,⟨fun b o e n hb hx=>?_,fun b o e n hb hx=>?_,I.base.free,fun b o e hx=>?_,I.base.tups,I.base.frzs,I.base.tbls⟩,⟨_,hn',fun j y v' e1 e2 e3=>?_⟩,fun y c e=>?_,I.free,I.freeC,fun p hp=>?_,tracked ⟨oL,hoL,I.free⟩ hs,by simpa using I.len⟩ ⟨_,hs,.inl rfl⟩
  ·exact (hs.2 b (Yn (Yl (Heap.lt_size e) I.ok.above))).trans (I.base.keep b o e n hb hx)
  ·obtain ⟨sl,e1⟩:=I.base.slot b o e n hb hx
   exact ⟨sl,(hs.2 b (Yn (Yl (Heap.lt_size e) I.ok.above))).trans e1⟩
  ·obtain ⟨o',e1⟩:=I.base.there b o e hx
   exact ⟨o',(hs.2 b (Yn (Yl (Heap.lt_size e) I.ok.above))).trans e1⟩
  ·by_cases hj:j=i
   ·subst hj
    rw [hi] at e1; cases e1
    rw [Yg hiσ] at e2
    cases e2
    exact ⟨u,r,.inl ⟨hk,by simp⟩⟩
   ·rw [Ya (Ne.symm hj)] at e2
    obtain ⟨u',r',q⟩:=hl j y v' e1 e2 e3
    refine ⟨u',r',?_⟩
    rcases q with ⟨k,e⟩ | ⟨k,c,e,z⟩
    ·refine .inl ⟨k,?_⟩
     have:y≠x:=fun e=>hj (Zkd hN e1 (e ▸ hi))
     simp [this,e]
    ·exact .inr ⟨k,c,e,z.sameBut hs (cne y c e)⟩
  ·obtain ⟨w',z⟩:=I.cell y c e
   exact ⟨w',z.sameBut hs (cne y c e)⟩
  ·obtain ⟨e,n,ne,nf,d⟩:=I.pin p hp
   exact ⟨(hs.2 p.1 ne).trans e,n,ne,nf,d⟩
 ·have hfn:X.fn x=true:=by
   rcases hf with z | z
   ·exact z
   ·rw [z] at hk; cases hk
  obtain ⟨c,hc⟩:=I.ok.has x (.inl hk)
  obtain ⟨w',z⟩:=I.cell x c hc
  refine wpAny_storeName_cell I.ok.kind hk hc z (fun h' hc' hs=>?_)
  obtain ⟨oc,hoc,hocd⟩:=id z
  refine h { s with heap:=h' } ⟨I.ok,I.os,I.bare,⟨fun b o e n hb hx=>?_,fun b o e n hb hx=>?_,I.base.free,fun b o e hx=>?_,I.base.tups,I.base.frzs,I.base.tbls⟩,⟨m,hn.sameBut hs (Ne.symm (cne x c hc)),fun j y v' e1 e2 e3=>?_⟩,fun y c' e=>?_,I.free,I.freeC,fun p hp=>?_,tracked ⟨oc,hoc,I.freeC x c hc⟩ hs,by simpa using I.len⟩ ⟨c,hs,.inr hc⟩
  ·exact (hs.2 b (Yn (Yl (Heap.lt_size e) (I.ok.cab x c hfn hc)))).trans (I.base.keep b o e n hb hx)
  ·obtain ⟨sl,e1⟩:=I.base.slot b o e n hb hx
   exact ⟨sl,(hs.2 b (Yn (Yl (Heap.lt_size e) (I.ok.cab x c hfn hc)))).trans e1⟩
  ·obtain ⟨o',e1⟩:=I.base.there b o e hx
   exact ⟨o',(hs.2 b (Yn (Yl (Heap.lt_size e) (I.ok.cab x c hfn hc)))).trans e1⟩
  ·by_cases hj:j=i
   ·subst hj
    rw [hi] at e1; cases e1
    rw [Yg hiσ] at e2
    cases e2
    exact ⟨u,r,.inr ⟨.inl hk,c,hc,hc'⟩⟩
   ·rw [Ya (Ne.symm hj)] at e2
    obtain ⟨u',r',q⟩:=hl j y v' e1 e2 e3
    refine ⟨u',r',?_⟩
    rcases q with q | ⟨k,c',e,z'⟩
    ·exact .inl q
    ·refine .inr ⟨k,c',e,z'.sameBut hs ?_⟩
     rintro rfl
     exact hj (Zkd hN e1 (I.ok.inj _ _ _ e hc ▸ hi))
  ·by_cases hcc:c'=c
   ·subst hcc; exact ⟨_,hc'⟩
   ·obtain ⟨w2,z2⟩:=I.cell y c' e
    exact ⟨w2,z2.sameBut hs hcc⟩
  ·obtain ⟨e,n,ne,nf,d⟩:=I.pin p hp
   refine ⟨(hs.2 p.1 ?_).trans e,n,ne,nf,d⟩
   intro q
   rw [q,hoc] at e
   have q':oc=p.2:=Option.some.inj e
   exact d w' (by rw [<-q']; exact hocd)
theorem ZjU {M:Model} {A:Around} {E:Value->Shared->Prop} {i:Nat} {x:Str} {v:V} {u:Value} {Q:Unit->Shared->Prop} (I:Inv X pins σ H s) (hN:X.N.Nodup) (hi:X.N[i]?=some x) (hx:Loc X.env.scope x) (r:RelV v u)
  (h:∀s',Inv X pins (σ.set i (some v)) H s'->Q () s') (hf:X.fn x=true\/X.env.scope.names.lookup x=some .local:=by first | exact .inl rfl | exact .inr rfl | assumption):wpAny M A (storeName X.env x u) Q E s:=
 Zml I hN hi hx r (fun s' I' _=>h s' I') hf
theorem Inv.call' {s':Shared} {ch:List Addr} (I:Inv X pins σ H s) (ho:s'.os=s.os) (u:Un (frs X.stack) ch H H' s.heap s'.heap) (hok:HOk X.prog X.w H' s'.heap) (hg:AllBare s'.gens)
  (hch:∀b∈ch,(b∈X.ex\/X.s₀.heap.objs.size<=b)/\b≠X.env.locals/\(∀x c,X.env.cells.lookup x=some c->c≠b)/\∀p∈X.pn++pins,p.1≠b):Inv X pins σ H' s':=by
 obtain ⟨h',g',d',t',o'⟩:=s'
 have e:o'=s.os:=ho
 subst e
 exact I.call (g':=g') (t':=t') (d':=d') u hok hg hch
end
abbrev XK:=Value->Option Addr->Hp->Prop
abbrev St:=List (Option V)
abbrev VK:=V->Hp->Prop
abbrev TE:=St->Hp->VK->Prop
abbrev TT:=St->Hp->(Bool->Hp->Prop)->Prop
abbrev TA:=St->Hp->(List V->Hp->Prop)->Prop
structure Zfz where
 nx:St->Hp->Prop
 rt:VK
 bk:St->Hp->Prop:=fun _ _=>False
 ct:St->Hp->Prop:=fun _ _=>False
abbrev TS:=Zfz->St->Hp->Prop
def EP (X:Cx) (pins:List (Addr×Obj)) (σ:St) (Q:VK) (u:Value) (s':Shared):Prop:=∃v H',Inv X pins σ H' s'/\RelV v u/\Q v H'
def TP (X:Cx) (pins:List (Addr×Obj)) (σ:St) (Q:Bool->Hp->Prop) (b:Bool) (s':Shared):Prop:=∃H',Inv X pins σ H' s'/\Q b H'
def AP (X:Cx) (pins:List (Addr×Obj)) (σ:St) (Q:List V->Hp->Prop) (us:List Value) (s':Shared):Prop:=∃vs H',Inv X pins σ H' s'/\Vals vs us/\Q vs H'
def SP (X:Cx) (pins:List (Addr×Obj)) (D:Zfz) (f:Flow) (s':Shared):Prop:=
 match f with
 | .next=>∃σ' H',Inv X pins σ' H' s'/\D.nx σ' H'
 | .brk=>∃σ' H',Inv X pins σ' H' s'/\D.bk σ' H'
 | .cont=>∃σ' H',Inv X pins σ' H' s'/\D.ct σ' H'
 | .ret u=>∃v σ' H',Inv X pins σ' H' s'/\RelV v u/\D.rt v H'
def PE (X:Cx) (e:Expr) (t:TE):Prop:=
 ∀(pins:List (Addr×Obj)) (s:Shared) (σ:St) (H:Hp) (Q:VK),Inv X pins σ H s->t σ H Q->wpAny (model X.prog X.w) X.A (eval e X.env) (EP X pins σ Q) X.xe s
def PT (X:Cx) (e:Expr) (t:TT):Prop:=
 ∀(pins:List (Addr×Obj)) (s:Shared) (σ:St) (H:Hp) (Q:Bool->Hp->Prop),Inv X pins σ H s->t σ H Q->wpAny (model X.prog X.w) X.A (isTrue e X.env (eval e X.env)) (TP X pins σ Q) X.xe s
def PW (X:Cx) (e:Expr) (t:TT):Prop:=
 ∀(whole:Sem Value) (pins:List (Addr×Obj)) (s:Shared) (σ:St) (H:Hp) (Q:Bool->Hp->Prop),Inv X pins σ H s->t σ H Q->wpAny (model X.prog X.w) X.A (isTrue e X.env whole) (TP X pins σ Q) X.xe s
theorem PW.pt {X:Cx} {e:Expr} {t:TT} (h:PW X e t):PT X e t:=h _
def PA (X:Cx) (es:List Expr) (t:TA):Prop:=
 ∀(pos:Pos) (pins:List (Addr×Obj)) (s:Shared) (σ:St) (H:Hp) (Q:List V->Hp->Prop),Inv X pins σ H s->t σ H Q->wpAny (model X.prog X.w) X.A (spliced (backTo pos (starEach es X.env))) (AP X pins σ Q) X.xe s
def PS (X:Cx) (st:Stmt) (t:TS):Prop:=
 ∀(pins:List (Addr×Obj)) (s:Shared) (σ:St) (H:Hp) (D:Zfz),Inv X pins σ H s->t D σ H->wpAny (model X.prog X.w) X.A (exec st X.env) (SP X pins D) X.xe s
def PSs (X:Cx) (st:List Stmt) (t:TS):Prop:=
 ∀(pins:List (Addr×Obj)) (s:Shared) (σ:St) (H:Hp) (D:Zfz),Inv X pins σ H s->t D σ H->wpAny (model X.prog X.w) X.A (execs st X.env) (SP X pins D) X.xe s
theorem thn {α:Type} {t:Sem α} {Q Q':α->Shared->Prop} {M:Model} {A:Around} {E:Value->Shared->Prop} {s:Shared} (h:wpAny M A t Q E s) (hQ:∀a s,Q a s->Q' a s):wpAny M A t Q' E s:=wpAny_mono h hQ fun _ _ x=>x
section
variable {X:Cx}
theorem bin {a b:Expr} {ta tb:TE} (ha:PE X a ta) (hb:PE X b tb) {pins:List (Addr×Obj)} {s:Shared} {σ:St} {H:Hp} {R:V->V->Hp->Prop} (I:Inv X pins σ H s) (h:ta σ H fun x H1=>tb σ H1 fun y H2=>R x y H2)
  {α:Type} {Q:α->Shared->Prop} {f:Value->Value->Sem α}
  (hf:∀v u s2 x y H2,Inv X pins σ H2 s2->RelV x v->RelV y u->R x y H2->wpAny (model X.prog X.w) X.A (f v u) Q X.xe s2) :
  wpAny (model X.prog X.w) X.A (eval a X.env) (fun v s₁=>wpAny (model X.prog X.w) X.A (eval b X.env) (fun u s₂=>wpAny (model X.prog X.w) X.A (f v u) Q X.xe s₂) X.xe s₁) X.xe s:=by
 refine thn (ha pins s σ H _ I h) fun v s1 ⟨x,H1,I1,r1,q1⟩=>?_
 refine thn (hb pins s1 σ H1 _ I1 q1) fun u s2 ⟨y,H2,I2,r2,q2⟩=>?_
 exact hf v u s2 x y H2 I2 r1 r2 q2
def Zzm (i:Nat):TE:=fun σ H Q=>∃v,σ[i]?=some (some v)/\Q v H
def tC (v:V):TE:=fun _ H Q=>Q v H
theorem ZnF {i:Nat} {x:Str} {pos:Pos} (hN:X.N[i]?=some x) (hv:Vis X.env.scope x) (hd:(x == ("__debug__":Str))=false:=by decide) (hcd:(x == ("__classdict__":Str))=false:=by decide):PE X (.Name x pos) (Zzm i):=by
 intro pins s σ H Q I h
 obtain ⟨v,e,h⟩:=h
 obtain ⟨m,hn,hl⟩:=I.loc
 obtain ⟨u,r,l⟩:=hl i x v hN e hv
 have fin:EP X pins σ Q u s:=⟨v,H,I,r,h⟩
 rcases l with ⟨hk,hm⟩ | ⟨hk,c,hc,hcell⟩
 ·exact wpAny_Name (wpAny_loadName_local I.ok.kind hk hn hm fin) hd
 ·rcases hk with hk | hk
  ·exact wpAny_Name (wpAny_loadName_cell I.ok.kind hk hc hcell fin) hd
  ·exact wpAny_Name (wpAny_loadName_free I.ok.kind hk hc hcell fin hcd) hd
theorem Zum {i j pos}:PE X (.Constant (.int i) j pos) (tC (.int i)):=fun _ _ _ H _ I h=>wpAny_Constant_int ⟨.int i,H,I.tok _,⟨_,rfl⟩,h⟩
theorem Zv8 {b j pos}:PE X (.Constant (.bool b) j pos) (tC (.bl b)):=fun _ _ _ H _ I h=>Constant_bool ⟨.bl b,H,I,rfl,h⟩
theorem Zuk {j pos}:PE X (.Constant .none j pos) (tC .non):=fun _ _ _ H _ I h=>Constant_none ⟨.non,H,I,rfl,h⟩
theorem ZnG {x j pos}:PE X (.Constant (.str x) j pos) (tC (.str x)):=fun _ _ _ H _ I h=>Calls.Constant_str ⟨.str x,H,I.tok _,⟨_,rfl⟩,h⟩
def Gl (X:Cx) (x:Str):Prop:=X.env.kindOf x=some .globalImplicit
theorem Zhr {E:Value->Shared->Prop} {pins:List (Addr×Obj)} {s:Shared} {σ:St} {H:Hp} {x:Str} {u:Value} {pos:Pos} {Q:Value->Shared->Prop} (I:Inv X pins σ H s) (hg:Gl X x) (hm:X.mg x=some u) (h:Q u s)
  (hd:(x == ("__debug__":Str))=false:=by decide):wpAny (model X.prog X.w) X.A (eval (.Name x pos) X.env) Q E s:=
 Calls.Name_function_global I.ok.kind hg (Calls.loadGlobal_global (by rw [I.ok.glob]; exact I.mod.glob.keeps I.bk) hm h) hd
theorem Zjp {E:Value->Shared->Prop} {pins:List (Addr×Obj)} {s:Shared} {σ:St} {H:Hp} {x:Str} {u:Value} {pos:Pos} {Q:Value->Shared->Prop} (I:Inv X pins σ H s) (hg:Gl X x) (hm:X.mg x=none) (hv:bootBuiltins x=some u) (h:Q u s)
  (hn:x≠"__name__":=by decide) (hd:(x == ("__debug__":Str))=false:=by decide):wpAny (model X.prog X.w) X.A (eval (.Name x pos) X.env) Q E s:=by
 obtain ⟨mb,h1,h2⟩:=I.mod.blt
 exact Calls.Name_function_global I.ok.kind hg (Calls.loadGlobal_builtin (by rw [I.ok.glob]; exact I.mod.glob.keeps I.bk) hm (by rw [I.ok.blt]; exact h1.keeps I.bk) ((h2 x hn).trans hv) h) hd
theorem ZlD {x:Str} {v:V} {u:Value} {pos:Pos} (hg:Gl X x) (hm:X.mg x=some u) (r:RelV v u) (hd:(x == ("__debug__":Str))=false:=by decide):PE X (.Name x pos) (tC v):=
 fun _ _ _ H _ I h=>Zhr I hg hm ⟨v,H,I,r,h⟩ hd
variable {a b:Expr} {ta tb:TE} {pos:Pos}
def PC (X:Cx) (op:CmpOp) (a b:Expr) (t:TE):Prop:=
 ∀(pins:List (Addr×Obj)) (s:Shared) (σ:St) (H:Hp) (Q:VK),Inv X pins σ H s->t σ H Q->
  wpAny (model X.prog X.w) X.A (eval a X.env) (fun v s₁=>wpAny (model X.prog X.w) X.A (eval b X.env) (fun u s₂=>wpAny (model X.prog X.w) X.A (compareOp op v u) (EP X pins σ Q) X.xe s₂) X.xe s₁) X.xe s
theorem Zn0 (b:Expr) {op:CmpOp} (h:op≠.In) (h2:op≠.NotIn):behindInMarks op b=false:=by
 have e1:(op == CmpOp.In)=false:=by cases op<;>first | rfl | exact absurd rfl h
 have e2:(op == CmpOp.NotIn)=false:=by cases op<;>first | rfl | exact absurd rfl h2
 cases b<;>simp [behindInMarks,e1,e2]
def tB (t:TE):TT:=fun σ H Q=>t σ H fun x H1=>∃c,x=.bl c/\Q c H1
theorem Zt9 {op:CmpOp} {t:TE} (h:PC X op a b t) (h1:behindInMarks op b=false:=by first | exact Zn0 _ (by decide) (by decide) | rfl):PT X (.Compare a [op] [b] pos) (tB t):=by
 intro pins s σ H Q I hw
 refine wpAny_isTrue_Compare1 (thn (h pins s σ H _ I hw) fun v s1 h1=>thn h1 fun u s2 h2=>thn h2 fun c s3 ⟨x,H1,I1,r1,q1⟩=>?_) h1
 obtain ⟨d,rfl,q⟩:=q1
 cases r1
 exact wpAny_truthy_bool ⟨H1,I1,q⟩
variable {tA tB':TT} {rest:List Expr}
def Zzx (t u:TT):TT:=fun σ H Q=>t σ H fun c H1=>if c=true then u σ H1 Q else Q false H1
def tOr (t u:TT):TT:=fun σ H Q=>t σ H fun c H1=>if c=true then Q true H1 else u σ H1 Q
def Zzs (t:TT):TT:=fun σ H Q=>t σ H fun c H1=>Q (!c) H1
theorem ZqF (ha:PT X a tA):PW X (.BoolOp .And [a] pos) tA:=by
 intro wh pins s σ H Q I h
 refine isTrue_and (thn (ha pins s σ H Q I h) fun c s1 e=>?_)
 cases c with
 | true=>exact isTrue_and_nil e
 | false=>exact e
theorem Zt5 (ha:PT X a tA):PW X (.BoolOp .Or [a] pos) tA:=by
 intro wh pins s σ H Q I h
 refine isTrue_or (thn (ha pins s σ H Q I h) fun c s1 e=>?_)
 cases c with
 | false=>exact isTrue_or_nil e
 | true=>exact e
theorem Zt6 (ha:PT X a tA) (hb:PW X (.BoolOp .And (b::rest) pos) tB'):PW X (.BoolOp .And (a::b::rest) pos) (Zzx tA tB'):=by
 intro wh pins s σ H Q I h
 refine isTrue_and (thn (ha pins s σ H _ I h) fun c s1 ⟨H1,I1,q1⟩=>?_)
 cases c with
 | true=>exact hb wh pins s1 σ H1 Q I1 q1
 | false=>exact ⟨H1,I1,q1⟩
theorem Zv0 (ha:PT X a tA) (hb:PW X (.BoolOp .Or (b::rest) pos) tB'):PW X (.BoolOp .Or (a::b::rest) pos) (tOr tA tB'):=by
 intro wh pins s σ H Q I h
 refine isTrue_or (thn (ha pins s σ H _ I h) fun c s1 ⟨H1,I1,q1⟩=>?_)
 cases c with
 | true=>exact ⟨H1,I1,q1⟩
 | false=>exact hb wh pins s1 σ H1 Q I1 q1
theorem Zt8 (ha:PT X a tA):PT X (.UnaryOp .Not a pos) (Zzs tA):=by
 intro pins s σ H Q I h
 exact isTrue_not (ha pins s σ H (fun c H1=>Q (!c) H1) I h)
def ZvM (ta tb:TE):TE:=fun σ H Q=>ta σ H fun x H1=>∃c,x=.bl c/\if c=true then tb σ H1 Q else Q (.bl false) H1
def Zzr (ta tb:TE):TE:=fun σ H Q=>ta σ H fun x H1=>∃c,x=.bl c/\if c=true then Q (.bl true) H1 else tb σ H1 Q
theorem Zuj {op} {t:TE} (h:PE X a t):PE X (.BoolOp op [a] pos) t:=fun pins s σ H Q I hw=>BoolOp_one (h pins s σ H Q I hw)
theorem Zuo (ha:PE X a ta) (hb:PE X (.BoolOp .And (b::rest) pos) tb):PE X (.BoolOp .And (a::b::rest) pos) (ZvM ta tb):=by
 intro pins s σ H Q I h
 refine BoolOp_and (thn (ha pins s σ H _ I h) fun v s1 ⟨x,H1,I1,r1,q1⟩=>?_)
 obtain ⟨c,rfl,q1⟩:=q1
 cases r1
 refine wpAny_truthy_bool ?_
 cases c with
 | true=>exact hb pins s1 σ H1 Q I1 q1
 | false=>exact ⟨.bl false,H1,I1,rfl,q1⟩
theorem Zv4 (ha:PE X a ta) (hb:PE X (.BoolOp .Or (b::rest) pos) tb):PE X (.BoolOp .Or (a::b::rest) pos) (Zzr ta tb):=by
 intro pins s σ H Q I h
 refine BoolOp_or (thn (ha pins s σ H _ I h) fun v s1 ⟨x,H1,I1,r1,q1⟩=>?_)
 obtain ⟨c,rfl,q1⟩:=q1
 cases r1
 refine wpAny_truthy_bool ?_
 cases c with
 | false=>exact hb pins s1 σ H1 Q I1 q1
 | true=>exact ⟨.bl true,H1,I1,rfl,q1⟩
def tIf (t:TT) (ta tb:TE):TE:=fun σ H Q=>t σ H fun c H1=>if c=true then ta σ H1 Q else tb σ H1 Q
theorem ZnJ {c:Expr} (hc:PT X c tA) (ha:PE X a ta) (hb:PE X b tb):PE X (.IfExp c a b pos) (tIf tA ta tb):=by
 intro pins s σ H Q I h
 refine wpAny_IfExp (thn (hc pins s σ H _ I h) fun d s1 ⟨H1,I1,q1⟩=>?_)
 cases d with
 | true=>exact ha pins s1 σ H1 Q I1 q1
 | false=>exact hb pins s1 σ H1 Q I1 q1
end
def SqL (K:PySem.W.Frag) (H:Hp) (a:Addr) (xs:List V):Prop:=
 Rd H a (.lst xs)\/
  ∃(o:Obj) (its:Array Value) (n:Nat),K.lookup a=some o/\o.cls=.type "list"/\o.dict=none/\o.data=.seq its n/\its.size<=sizeLine/\Vals xs its.toList
def SqT (K:PySem.W.Frag) (H:Hp) (a:Addr) (xs:List V):Prop:=
 Rd H a (.tup xs)\/
  ∃(o:Obj) (its:Array Value) (n:Nat),K.lookup a=some o/\o.cls=.type "tuple"/\o.data=.seq its n/\its.size<=sizeLine/\Vals xs its.toList
noncomputable def Zz9:Value->Option V
 | .none=>some .non
 | .bool b=>some (.bl b)
 | .int i _=>some (.int i)
 | .str x _=>some (.str x)
 | .bytes b _=>some (.byt b)
 | .float b _=>some (.flt b)
 | .ref a=>some (.ref a)
 | .type n=>some (.ty n)
 | _=>none
theorem RelV.abs {x:V} {u:Value} (r:RelV x u):Zz9 u=some x:=by
 cases x with
 | non=>cases r; rfl
 | bl _=>cases r; rfl
 | int _=>obtain ⟨t,rfl⟩:=r; rfl
 | str _=>obtain ⟨t,rfl⟩:=r; rfl
 | byt _=>obtain ⟨t,rfl⟩:=r; rfl
 | flt _=>obtain ⟨t,rfl⟩:=r; rfl
 | ref _=>cases r; rfl
 | ty _=>cases r; rfl
theorem RelV.inj {x y:V} {u:Value} (r:RelV x u) (q:RelV y u):x=y:=Option.some.inj (r.abs.symm.trans q.abs)
theorem Vals.inj:∀{xs ys:List V} {us:List Value},Vals xs us->Vals ys us->xs=ys
 | _,_,_,.nil,.nil=>rfl
 | _,_,_,.cons r t,.cons r' t'=>by rw [r.inj r',Vals.inj t t']
section
variable {X:Cx} {pins:List (Addr×Obj)} {σ:St} {H:Hp} {s:Shared} {a:Addr} {xs ys:List V}
theorem SqL.of {K:PySem.W.Frag} (h:H a=some (.lst xs)):SqL K H a xs:=.inl (.inl h)
theorem SqT.of {K:PySem.W.Frag} (h:H a=some (.tup xs)):SqT K H a xs:=.inl (.inl h)
theorem Inv.list (I:Inv X pins σ H s) (h:SqL X.K H a xs):∃its:List Value,Vals xs its/\PlainL s.heap a its.toArray/\xs.length<=sizeLine:=by
 rcases h with h | ⟨o,its,n,hk,hc,hd,hs,hz,r⟩
 ·obtain ⟨z,its,n,r,e⟩:=h.ok I.hok
  exact ⟨its,r,⟨_,n,e,rfl,rfl,rfl⟩,z⟩
 ·refine ⟨its.toList,r,⟨o,n,I.kIn a o hk,hc,hd,by simpa using hs⟩,?_⟩
  have e:=r.length
  simp only [Array.length_toList] at e
  omega
theorem Inv.tuple (I:Inv X pins σ H s) (h:SqT X.K H a xs):∃its:List Value,Vals xs its/\IsTup s.heap a its.toArray/\xs.length<=sizeLine:=by
 rcases h with h | ⟨o,its,n,hk,hc,hs,hz,r⟩
 ·obtain ⟨z,its,r,p⟩:=h.ok I.hok
  exact ⟨its,r,p,z⟩
 ·refine ⟨its.toList,r,⟨o,I.kIn a o hk,hc,n,by simpa using hs⟩,?_⟩
  have e:=r.length
  simp only [Array.length_toList] at e
  omega
theorem Inv.list_inj (I:Inv X pins σ H s) (h:SqL X.K H a xs) (h':SqL X.K H a ys):xs=ys:=by
 obtain ⟨its,r,⟨o,n,e,_,_,d⟩,_⟩:=I.list h
 obtain ⟨its',r',⟨o',n',e',_,_,d'⟩,_⟩:=I.list h'
 rw [e] at e'; cases e'
 rw [d] at d'
 injection d' with d1 _
 have:its=its':=by simpa using congrArg Array.toList d1
 subst this
 exact r.inj r'
theorem Inv.tuple_inj (I:Inv X pins σ H s) (h:SqT X.K H a xs) (h':SqT X.K H a ys):xs=ys:=by
 obtain ⟨its,r,⟨o,e,_,n,d⟩,_⟩:=I.tuple h
 obtain ⟨its',r',⟨o',e',_,n',d'⟩,_⟩:=I.tuple h'
 rw [e] at e'; cases e'
 rw [d] at d'
 injection d' with d1 _
 have:its=its':=by simpa using congrArg Array.toList d1
 subst this
 exact r.inj r'
end
noncomputable abbrev Cx.wish (X:Cx) (E:Value->Shared->Prop):Cx:={ X with xe:=E }
noncomputable abbrev Cx.nox (X:Cx):Cx:=X.wish fun _ _=>False
theorem Cx.Ok.wish {X:Cx} (ok:X.Ok) (E:Value->Shared->Prop):(X.wish E).Ok:=
 ⟨ok.mod,ok.kind,ok.glob,ok.blt,ok.above,ok.inj,ok.has,ok.cab,ok.hd,ok.frames,ok.stk,ok.exf,ok.bs,ok.bsz,ok.noex,ok.exfs,ok.funs,ok.frf⟩
theorem Cx.Ok.unwish {X:Cx} {E:Value->Shared->Prop} (ok:(X.wish E).Ok):X.Ok:=
 ⟨ok.mod,ok.kind,ok.glob,ok.blt,ok.above,ok.inj,ok.has,ok.cab,ok.hd,ok.frames,ok.stk,ok.exf,ok.bs,ok.bsz,ok.noex,ok.exfs,ok.funs,ok.frf⟩
section
variable {X:Cx} {pins:List (Addr×Obj)} {σ:St} {H:Hp} {s:Shared} {E:Value->Shared->Prop}
theorem Inv.wish (I:Inv X pins σ H s) (E:Value->Shared->Prop):Inv (X.wish E) pins σ H s:=⟨I.ok.wish E,I.os,I.bare,I.base,I.loc,I.cell,I.free,I.freeC,I.pin,I.hok,I.len⟩
theorem Inv.unwish (I:Inv (X.wish E) pins σ H s):Inv X pins σ H s:=⟨I.ok.unwish,I.os,I.bare,I.base,I.loc,I.cell,I.free,I.freeC,I.pin,I.hok,I.len⟩
theorem SP.unwish {D:Zfz} {f:Flow} {s':Shared} (h:SP (X.wish E) pins D f s'):SP X pins D f s':=by
 cases f with
 | next=>obtain ⟨σ',H',I,q⟩:=h; exact ⟨σ',H',I.unwish,q⟩
 | brk=>obtain ⟨σ',H',I,q⟩:=h; exact ⟨σ',H',I.unwish,q⟩
 | cont=>obtain ⟨σ',H',I,q⟩:=h; exact ⟨σ',H',I.unwish,q⟩
 | ret u=>obtain ⟨v,σ',H',I,r,q⟩:=h; exact ⟨v,σ',H',I.unwish,r,q⟩
theorem PSs.nox {st:List Stmt} {t:TS} (h:PSs X.nox st t):PSs X st t:=fun pins s σ H D I hw=>
 wpAny_mono (h pins s σ H D (I.wish _) hw) (fun _ _ q=>q.unwish) fun _ _ z=>False.elim z
end
section
variable {X:Cx} {st:Stmt} {rest:List Stmt} {t u:TS} {e:Expr} {te:TE} {pos:Pos}
def ZvG:TS:=fun D σ H=>D.nx σ H
def Zzp (t u:TS):TS:=fun D σ H=>t { D with nx:=u D } σ H
theorem ZqK:PSs X [] ZvG:=fun _ _ σ H _ I h=>wpAny_execs_nil ⟨σ,H,I,h⟩
theorem Zny (h1:PS X st t) (h2:PSs X rest u):PSs X (st::rest) (Zzp t u):=by
 intro pins s σ H D I h
 refine wpAny_execs_cons (thn (h1 pins s σ H { D with nx:=u D } I h) fun f s1 q=>?_)
 cases f with
 | next=>
  obtain ⟨σ',H',I',q⟩:=q
  exact h2 pins s1 σ' H' D I' q
 | ret v=>exact q
 | brk=>exact q
 | cont=>exact q
theorem ZqJ (h1:PS X st t):PSs X [st] t:=by
 intro pins s σ H D I h
 refine wpAny_execs_cons (thn (h1 pins s σ H D I h) fun f s1 q=>?_)
 cases f with
 | next=>exact wpAny_execs_nil q
 | ret v=>exact q
 | brk=>exact q
 | cont=>exact q
theorem Inv.quiet {pins:List (Addr×Obj)} {σ:St} {H:Hp} {s:Shared} (I:Inv X pins σ H s):interactive X.env=false:=by simp [interactive,I.ok.kind]
def ZvI (te:TE):TS:=fun D σ H=>te σ H fun _ H1=>D.nx σ H1
theorem ZlB (he:PE X e te) (hs:swapsWith e none pos.line X.env=pure false:=by rfl):PS X (.Expr e pos) (ZvI te):=by
 intro pins s σ H D I h
 exact wpAny_Expr_any (thn (he pins s σ H _ I h) fun v s1 ⟨x,H1,I1,r1,q1⟩=>⟨σ,H1,I1,q1⟩) I.quiet hs
def Zzq (te:TE):TS:=fun D σ H=>te σ H D.rt
theorem Zua (he:PE X e te):PS X (.Return (some e) pos) (Zzq te):=by
 intro pins s σ H D I h
 exact wpAny_Return_some (thn (he pins s σ H _ I h) fun v s1 ⟨x,H1,I1,r1,q1⟩=>⟨x,σ,H1,I1,r1,q1⟩)
def ZvE:TS:=fun D _ H=>D.rt .non H
theorem ZqL:PS X (.Return none pos) ZvE:=fun _ _ σ H _ I h=>wpAny_Return_none ⟨.non,σ,H,I,rfl,h⟩
def Zzu (c:TT) (t u:TS):TS:=fun D σ H=>c σ H fun b H1=>if b=true then t D σ H1 else u D σ H1
theorem Zv2 {c:Expr} {a b:List Stmt} {tc:TT} (hc:PT X c tc) (ha:PSs X a t) (hb:PSs X b u):PS X (.If c a b pos) (Zzu tc t u):=by
 intro pins s σ H D I h
 refine wpAny_If (thn (hc pins s σ H _ I h) fun d s1 ⟨H1,I1,q1⟩=>?_)
 cases d with
 | true=>exact ha pins s1 σ H1 D I1 q1
 | false=>exact hb pins s1 σ H1 D I1 q1
end
abbrev TG:=V->St->Hp->(St->Hp->Prop)->Prop
abbrev TGs:=List V->St->Hp->(St->Hp->Prop)->Prop
def PG (X:Cx) (target:Expr) (t:TG):Prop:=
 ∀(pins:List (Addr×Obj)) (s:Shared) (σ:St) (H:Hp) (v:V) (u:Value) (Q:St->Hp->Prop),Inv X pins σ H s->RelV v u->t v σ H Q->
  wpAny (model X.prog X.w) X.A (assign target X.env u) (fun _ s'=>∃σ' H',Inv X pins σ' H' s'/\Q σ' H') X.xe s
def PGs (X:Cx) (ts:List Expr) (t:TGs):Prop:=
 ∀(pins:List (Addr×Obj)) (s:Shared) (σ:St) (H:Hp) (vs:List V) (us:List Value) (Q:St->Hp->Prop),Inv X pins σ H s->Vals vs us->t vs σ H Q->
  wpAny (model X.prog X.w) X.A (assignInOrder ((assignEach ts X.env).map (·.2)) us) (fun _ s'=>∃σ' H',Inv X pins σ' H' s'/\Q σ' H') X.xe s
abbrev ZuU:=V->V->V->Hp->(Hp->Prop)->Prop
def ZwN (X:Cx) (t:ZuU):Prop:=
 ∀(pins:List (Addr×Obj)) (s:Shared) (σ:St) (H:Hp) (o i v:V) (ov iv u:Value) (Q:Hp->Prop),Inv X pins σ H s->RelV o ov->RelV i iv->RelV v u->t o i v H Q->
  wpAny (model X.prog X.w) X.A (setItem ov iv u) (fun _ s'=>∃H',Inv X pins σ H' s'/\Q H') X.xe s
section
variable {X:Cx} {pos:Pos}
def ZiN (i:Nat):TG:=fun v σ H Q=>Q (σ.set i (some v)) H
theorem Zfn {i:Nat} {x:Str} (hN:X.N.Nodup) (hi:X.N[i]?=some x) (hx:Loc X.env.scope x) (hf:X.fn x=true\/X.env.scope.names.lookup x=some .local:=by first | exact .inl rfl | exact .inr rfl | assumption):PG X (.Name x pos) (ZiN i):=by
 intro pins s σ H v u Q I r h
 exact wpAny_assign_Name (ZjU I hN hi hx r (fun s' I'=>⟨_,H,I',h⟩) hf)
def Zz3:TGs:=fun vs σ H Q=>vs=[]/\Q σ H
def ZwA (t:TG) (u:TGs):TGs:=fun vs σ H Q=>∃v r,vs=v::r/\t v σ H fun σ' H'=>u r σ' H' Q
theorem ZqR:PGs X [] Zz3:=by
 intro pins s σ H vs us Q I r h
 obtain ⟨e,h⟩:=h
 subst e
 cases r
 exact assignInOrder_nil ⟨σ,H,I,h⟩
theorem Zj6 {e:Expr} {es:List Expr} {t:TG} {u:TGs} (h1:PG X e t) (h2:PGs X es u)
  (hs:(assignEach (e::es) X.env).map (·.2)=assign e X.env::(assignEach es X.env).map (·.2):=by rfl):PGs X (e::es) (ZwA t u):=by
 intro pins s σ H vs us Q I r h
 obtain ⟨v,vr,e1,h⟩:=h
 subst e1
 cases r with
 | cons r rr=>
  rw [hs]
  refine assignInOrder_cons (thn (h1 pins s σ H _ _ _ I r h) fun _ s1 ⟨σ1,H1,I1,q1⟩=>?_)
  exact h2 pins s1 σ1 H1 _ _ Q I1 rr q1
def Zz2 (K:PySem.W.Frag) (n:Nat) (t:TGs):TG:=fun v σ H Q=>∃a xs,v=.ref a/\SqT K H a xs/\xs.length=n/\t xs σ H Q
theorem Zuh {es:List Expr} {k:Nat} {t:TGs} {n:Nat} (hc:X.calm=true) (h:PGs X es t)
  (hn:(assignEach es X.env).length=n:=by rfl) (hst:(assignEach es X.env).findIdx? (·.1)=none:=by rfl):PG X (.Tuple es k pos) (Zz2 X.K n t):=by
 intro pins s σ H v u Q I r hw
 obtain ⟨a,xs,e1,hq,hl,hw⟩:=hw
 subst e1
 cases r
 obtain ⟨its,rv,ht,hz⟩:=I.tuple hq
 refine assign_Tuple_tuple (I.ok.hd hc) ht (by simp [hn,<-hl,rv.length]) hst fun h' hx=>?_
 have I1:Inv X pins σ H { s with heap:=h' }:=I.kept (t':=s.toks) fun b o e=>hx b o (Yn (Heap.lt_size e)) e
 exact h pins _ σ H xs _ Q I1 (by simpa using rv) hw
def Zwz (to ti:TE) (t:ZuU):TG:=fun v σ H Q=>to σ H fun o H1=>ti σ H1 fun i H2=>t o i v H2 fun H3=>Q σ H3
theorem ZhH {o i:Expr} {to ti:TE} {t:ZuU} (ho:PE X o to) (hi:PE X i ti) (hs:ZwN X t)
  (ha:∀v,assign (.Subscript o i pos) X.env v=(do
   let ov <-holding [v] (eval o X.env)
   let iv <-holding [v,ov] (eval i X.env)
   standAt pos
   holding [v,ov,iv] (setItem ov iv v)
   release [v,ov,iv] []):=by intro _; rfl):PG X (.Subscript o i pos) (Zwz to ti t):=by
 intro pins s σ H v u Q I r h
 rw [ha]
 refine wpAny_bind (wpAny_holding (thn (ho pins s σ H _ I h) fun ov s1 ⟨x,H1,I1,r1,q1⟩=>?_))
 refine wpAny_bind (wpAny_holding (thn (hi pins s1 σ H1 _ I1 q1) fun iv s2 ⟨y,H2,I2,r2,q2⟩=>?_))
 refine wpAny_bind (wpAny_standAt (wpAny_bind (wpAny_holding (thn (hs pins s2 σ H2 x y v ov iv u _ I2 r1 r2 r q2) fun _ s3 ⟨H3,I3,q3⟩=>?_))))
 exact wpAny_release ⟨σ,H3,I3,q3⟩
def Zqw (te:TE) (g:TG):TS:=fun D σ H=>te σ H fun x H1=>g x σ H1 D.nx
theorem ZhG {tg e:Expr} {te:TE} {g:TG} (he:PE X e te) (hg:PG X tg g) (hs:swapsWithSole [tg] e pos.line X.env=pure false:=by rfl) (hw:swappedStores [tg] e X.env=pure none:=by rfl)
  (h1:(assignEach [tg] X.env).map (·.2)=[assign tg X.env]:=by rfl):PS X (.Assign [tg] e pos) (Zqw te g):=by
 intro pins s σ H D I h
 refine wpAny_Assign_stores (thn (he pins s σ H _ I h) fun v s1 ⟨x,H1,I1,r1,q1⟩=>?_) hs hw
 rw [h1]
 exact thn (hg pins s1 σ H1 x v _ I1 r1 q1) fun _ s2 q=>q
theorem ZnA {i:Nat} {x:Str} {e:Expr} {te:TE} {pos':Pos} (hN:X.N.Nodup) (hi:X.N[i]?=some x) (hx:Loc X.env.scope x) (he:PE X e te) (hs:swapsWith e (some (.Name x pos')) pos.line X.env=pure false:=by rfl) (hf:X.fn x=true\/X.env.scope.names.lookup x=some .local:=by first | exact .inl rfl | exact .inr rfl | assumption) :
  PS X (.Assign [.Name x pos'] e pos) (Zqw te (ZiN i)):=by
 intro pins s σ H D I h
 refine wpAny_Assign_Name (thn (he pins s σ H _ I h) fun v s1 ⟨y,H1,I1,r1,q1⟩=>?_) hs
 exact ZjU I1 hN hi hx r1 (fun s2 I2=>⟨_,H1,I2,q1⟩) hf
end
section
variable {X:Cx} {pos:Pos}
def ZtT (c:TT) (tb:TS):TS:=fun D σ H=>∃W:Nat->St->Hp->Prop,(∃m,W m σ H)/\∀m σ H,W m σ H->
 c σ H fun b H1=>if b=true then ∃N:St->Hp->Prop,(∀σ' H',N σ' H'->∃m',m'<m/\W m' σ' H')/\tb { D with nx:=N,ct:=N,bk:=D.nx } σ H1 else D.nx σ H1
theorem Znz {c:Expr} {body:List Stmt} {tc:TT} {tb:TS} (hp:PassesOwn (model X.prog X.w) X.A X.env X.xe) (hc:PT X c tc) (hb:PSs X body tb):PS X (.While c body [] pos) (ZtT tc tb):=by
 intro pins s σ H D I h
 obtain ⟨W,⟨m0,w0⟩,turn⟩:=h
 refine wpAny_While (codeAny_whileLoop (fun n s'=>∃σ' H',Inv X pins σ' H' s'/\W n σ' H') ?_ m0 ⟨σ,H,I,w0⟩)
 rintro n s1 ⟨σ1,H1,I1,w1⟩
 refine wpAny_passesOwn hp (thn (hc pins s1 σ1 H1 _ I1 (turn n σ1 H1 w1)) fun b s2 ⟨H2,I2,q2⟩=>?_)
 cases b with
 | true=>
  obtain ⟨N,hN,q2⟩:=q2
  rw [if_pos rfl]
  refine wpAny_passesOwn hp (thn (hb pins s2 σ1 H2 _ I2 q2) fun f s3 q3=>?_)
  cases f with
  | next=>
   obtain ⟨σ3,H3,I3,n3⟩:=q3
   obtain ⟨m',hm,w3⟩:=hN σ3 H3 n3
   exact ⟨m',hm,σ3,H3,I3,w3⟩
  | cont=>
   obtain ⟨σ3,H3,I3,n3⟩:=q3
   obtain ⟨m',hm,w3⟩:=hN σ3 H3 n3
   exact ⟨m',hm,σ3,H3,I3,w3⟩
  | brk=>exact q3
  | ret v=>exact q3
 | false=>
  rw [if_neg Yi]
  exact wpAny_execs_nil ⟨σ1,H2,I2,q2⟩
end
structure It where
 go:Nat->Hp->Prop
 yld:Nat->Hp->V->Hp->Prop
 stop:Nat->Hp->Prop
def ZgX (X:Cx) (pins:List (Addr×Obj)) (H:Hp) (b:Addr):Prop:=
 H b=none/\b≠X.env.locals/\b∉X.fs/\(b∈X.ex\/X.s₀.heap.objs.size<=b)/\(∀x c,X.env.cells.lookup x=some c->c≠b)/\∀p∈X.pn++pins,p.1≠b
theorem Inv.fpOk {X:Cx} {pins:List (Addr×Obj)} {σ:St} {H H':Hp} {s:Shared} {b:Addr} (I:Inv X pins σ H s) (hb:s.heap.objs.size<=b) (hn:H' b=none):ZgX X pins H' b:=by
 refine ⟨hn,Jj (Yl I.lt hb),I.nofs hb,.inr (Yu I.sz hb),fun x c e z=>?_,fun p hp z=>?_⟩
 ·obtain ⟨v,q⟩:=I.cell x c e
  exact absurd (Yl q.lt (by rw [z]; exact hb)) (YB _)
 ·exact absurd (Yl (Heap.lt_size (I.pin p hp).1) (by rw [z]; exact hb)) (YB _)
structure Zlh (P:Program) (w:World) (K:PySem.W.Frag) (tg:Expr) (J:It) (fp:List Addr) (it:Addr) (tn:Nat->Heap->Prop):Prop where
 mem:it∈fp
 obj:∀i h,tn i h->∀b∈fp,∃o,h.get? b=some o/\∀v,o.data≠.cell v
 keep:∀i h h',tn i h->(∀b∈fp,∀o,h.get? b=some o->h'.get? b=some o)->tn i h'
 item:∀(X:Cx),X.prog=P->X.w=w->X.K=K->X.calm=true->∀(i:Nat) (pins:List (Addr×Obj)) (s:Shared) (σ:St) (H:Hp) (E:Value->Shared->Prop),Inv X pins σ H s->(∀b∈fp,ZgX X pins H b)->tn i s.heap->J.go i H->
  wpAny (model P w) X.A (pyNext (.ref it)) (fun r s1=>∃u,r=some u/\
   wpAny (model P w) X.A (letOwnedTupleGo tg (.ref it) u) (fun _ s2=>∃x H',Inv X pins σ H' s2/\RelV x u/\J.yld i H x H'/\tn (i+1) s2.heap/\∀b∈fp,H' b=none) E s1) E s
 done:∀(X:Cx),X.prog=P->X.w=w->X.K=K->X.calm=true->∀(i:Nat) (pins:List (Addr×Obj)) (s:Shared) (σ:St) (H:Hp) (E:Value->Shared->Prop),Inv X pins σ H s->(∀b∈fp,ZgX X pins H b)->tn i s.heap->J.stop i H->
  wpAny (model P w) X.A (pyNext (.ref it)) (fun r s1=>r=none/\Inv X pins σ H s1) E s
 self:∀(A:Around) (i:Nat) (s:Shared) (Q:Value->Shared->Prop) (E:Value->Shared->Prop),tn i s.heap->Q (.ref it) s->wpAny (model P w) A (pyIter (.ref it)) Q E s
abbrev TI:=St->Hp->(It->Hp->Prop)->Prop
def PIE (X:Cx) (pins:List (Addr×Obj)) (σ:St) (tg:Expr) (R:It->Hp->Prop) (itv:Value) (s2:Shared):Prop:=
 ∃(it:Addr) (fp:List Addr) (tn:Nat->Heap->Prop) (J:It) (H':Hp),itv=.ref it/\Inv X pins σ H' s2/\Zlh X.prog X.w X.K tg J fp it tn/\tn 0 s2.heap/\(∀b∈fp,ZgX X pins H' b)/\R J H'
def PI (X:Cx) (tg iter:Expr) (wi:TI):Prop:=
 ∀(pins:List (Addr×Obj)) (s:Shared) (σ:St) (H:Hp) (R:It->Hp->Prop),Inv X pins σ H s->wi σ H R->
  wpAny (model X.prog X.w) X.A (eval iter X.env) (fun v s1=>wpAny (model X.prog X.w) X.A (pyIter v) (PIE X pins σ tg R) X.xe s1) X.xe s
theorem Zon {M:Model} {A:Around} {E:Value->Shared->Prop} {s:Shared} {tg:Expr} {it:Addr} {u:Value} {o:Obj} {n:String} {vs:Array Value} {Q:Unit->Shared->Prop} (ho:s.heap.get? it=some o) (hc:o.cls=.type n) (hd:o.data=.fields vs)
  (hn:["enumerate","zip","dict_itemiterator","dict_reverseitemiterator","odict_iterator","itertools.zip_longest","itertools.pairwise"].contains n=false) (hQ:Q () s):wpAny M A (letOwnedTupleGo tg (.ref it) u) Q E s:=by
 unfold letOwnedTupleGo
 cases tg<;>first
  | exact wpAny_pure hQ
  | (cases u<;>first
    | exact wpAny_pure hQ
    | (refine wpAny_bind (wpAny_load ho ?_)
       rw [hc,hd]
       show wpAny M A (if (["enumerate","zip","dict_itemiterator","dict_reverseitemiterator","odict_iterator","itertools.zip_longest","itertools.pairwise"].contains n && vs[0]? == some (rawInt _))=true then _ else _) Q E s
       rw [if_neg (by intro h; rw [hn,Bool.false_and] at h; cases h)]
       exact wpAny_pure hQ))
noncomputable def Itl (K:PySem.W.Frag) (a:Addr):It:=
 ⟨fun i H=>∃xs x,SqL K H a xs/\xs[i]?=some x,fun i H x H'=>H'=H/\∀xs,SqL K H a xs->xs[i]?=some x,fun i H=>∃xs,SqL K H a xs/\xs.length<=i⟩
noncomputable def Itt (K:PySem.W.Frag) (a:Addr):It:=
 ⟨fun i H=>∃xs x,SqT K H a xs/\xs[i]?=some x,fun i H x H'=>H'=H/\∀xs,SqT K H a xs->xs[i]?=some x,fun i H=>∃xs,SqT K H a xs/\xs.length<=i⟩
noncomputable def Itr (lo:Int) (n:Nat):It:=⟨fun i _=>i<n,fun i H x H'=>H'=H/\x=.int (lo+i),fun i _=>n<=i⟩
theorem Zmf {P:Program} {w:World} {K:PySem.W.Frag} {tg:Expr} (a it:Addr):Zlh P w K tg (Itl K a) [it] it (fun i h=>h.IsListIter it a i) where
 mem:=by simp
 obj:=fun i h st b hb=>by
  have e:b=it:=by simpa using hb
  subst e
  obtain ⟨o,e,c,d⟩:=st
  exact ⟨o,e,fun v z=>by rw [d] at z; cases z⟩
 keep:=fun i h h' st k=>st.at fun o e=>k it (by simp) o e
 item:=by
  intro X hP hw hK hc i pins s σ H E I hf st hg
  subst hP hw hK
  obtain ⟨xs,x,hq,hx⟩:=hg
  obtain ⟨its,rv,p,hz⟩:=I.list hq
  obtain ⟨u,hu,ru⟩:=rv.get hx
  obtain ⟨f0,f1,f2,f3,f4,f5⟩:=hf it (by simp)
  refine wpAny_pyNext_list_item st p.isList (x:=u) (by simpa using hu) fun h' st' sb=>?_
  have I1:Inv X pins σ H { s with heap:=h' }:=I.turned (t':=s.toks) (fun b o hb e=>(sb.2 b hb).trans e) f0 f1 f3 f4 f5
  obtain ⟨o,e,c,d⟩:=id st'
  exact ⟨u,rfl,Zon (s:={ s with heap:=h' }) e c d (by decide) ⟨x,H,I1,ru,⟨rfl,fun ys hy=>by rw [I.list_inj hy hq]; exact hx⟩,st',fun b hb=>(hf b hb).1⟩⟩
 done:=by
  intro X hP hw hK hc i pins s σ H E I hf st hg
  subst hP hw hK
  obtain ⟨xs,hq,hx⟩:=hg
  obtain ⟨its,rv,p,hz⟩:=I.list hq
  obtain ⟨f0,f1,f2,f3,f4,f5⟩:=hf it (by simp)
  have hl:=rv.length
  exact wpAny_pyNext_list_end (I.ok.hd hc) st p.isList (by simp; omega) fun h' eb=>⟨rfl,I.turned (t':=s.toks) (fun b o hb e=>eb b o hb e) f0 f1 f3 f4 f5⟩
 self:=fun _ _ _ _ _ st h=>wpAny_pyIter_listiter st h
theorem ZkP {P:Program} {w:World} {K:PySem.W.Frag} {tg:Expr} (a it:Addr):Zlh P w K tg (Itt K a) [it] it (fun i h=>h.IsTupleIter it a i) where
 mem:=by simp
 obj:=fun i h st b hb=>by
  have e:b=it:=by simpa using hb
  subst e
  obtain ⟨o,e,c,d⟩:=st
  exact ⟨o,e,fun v z=>by rw [d] at z; cases z⟩
 keep:=fun i h h' st k=>st.at fun o e=>k it (by simp) o e
 item:=by
  intro X hP hw hK hc i pins s σ H E I hf st hg
  subst hP hw hK
  obtain ⟨xs,x,hq,hx⟩:=hg
  obtain ⟨its,rv,p,hz⟩:=I.tuple hq
  obtain ⟨u,hu,ru⟩:=rv.get hx
  obtain ⟨f0,f1,f2,f3,f4,f5⟩:=hf it (by simp)
  refine wpAny_pyNext_tuple_item st (show s.heap.IsTuple a its.toArray from p) (x:=u) (by simpa using hu) fun h' st' sb=>?_
  have I1:Inv X pins σ H { s with heap:=h' }:=I.turned (t':=s.toks) (fun b o hb e=>(sb.2 b hb).trans e) f0 f1 f3 f4 f5
  obtain ⟨o,e,c,d⟩:=id st'
  exact ⟨u,rfl,Zon (s:={ s with heap:=h' }) e c d (by decide) ⟨x,H,I1,ru,⟨rfl,fun ys hy=>by rw [I.tuple_inj hy hq]; exact hx⟩,st',fun b hb=>(hf b hb).1⟩⟩
 done:=by
  intro X hP hw hK hc i pins s σ H E I hf st hg
  subst hP hw hK
  obtain ⟨xs,hq,hx⟩:=hg
  obtain ⟨its,rv,p,hz⟩:=I.tuple hq
  obtain ⟨f0,f1,f2,f3,f4,f5⟩:=hf it (by simp)
  have hl:=rv.length
  exact wpAny_pyNext_tuple_end (I.ok.hd hc) st (show s.heap.IsTuple a its.toArray from p) (by simp; omega) fun h' eb=>⟨rfl,I.turned (t':=s.toks) (fun b o hb e=>eb b o hb e) f0 f1 f3 f4 f5⟩
 self:=fun _ _ _ _ _ st h=>wpAny_pyIter_tupleiter st h
theorem ZkQ {P:Program} {w:World} {K:PySem.W.Frag} {tg:Expr} (it:Addr) (lo:Int) (n:Nat):Zlh P w K tg (Itr lo n) [it] it (fun i h=>IsRangeIter h it (lo+(i:Nat)*1) ((n:Int)-(i:Nat)) 1) where
 mem:=by simp
 obj:=fun i h st b hb=>by
  have e:b=it:=by simpa using hb
  subst e
  exact ⟨_,st,fun v z=>by
   have z':Data.fields _=Data.cell v:=z
   cases z'⟩
 keep:=fun i h h' st k=>k it (by simp) _ st
 item:=by
  intro X hP hw hK hc i pins s σ H E I hf st hg
  subst hP hw hK
  obtain ⟨f0,f1,f2,f3,f4,f5⟩:=hf it (by simp)
  have W:=Walks.range (prog:=X.prog) (w:=X.w) (I.ok.hd hc) it lo 1 n
  refine W.item i s _ _ hg st fun v h' tk hv st' kk=>?_
  obtain ⟨t,rfl⟩:=hv
  have I1:Inv X pins σ H { s with heap:=h',toks:=tk }:=I.turned (fun b o hb e=>kk b o (by simpa using hb) e) f0 f1 f3 f4 f5
  refine ⟨_,rfl,Zon (s:={ s with heap:=h',toks:=tk }) (n:="range_iterator") st' rfl rfl (by decide) ⟨.int (lo+i),H,I1,⟨t,?_⟩,⟨rfl,rfl⟩,st',fun b hb=>(hf b hb).1⟩⟩
  rw [Int.mul_one]
 done:=by
  intro X hP hw hK hc i pins s σ H E I hf st hg
  subst hP hw hK
  obtain ⟨f0,f1,f2,f3,f4,f5⟩:=hf it (by simp)
  exact wpAny_pyNext_range_end (I.ok.hd hc) st (by have:n<=i:=hg; omega) fun h' eb=>⟨rfl,I.turned (t':=s.toks) (fun b o hb e=>eb b o hb e) f0 f1 f3 f4 f5⟩
 self:=fun _ _ _ _ _ st h=>wpAny_pyIter_rangeiter st h
section
variable {X:Cx} {tg:Expr}
theorem Znt {pins:List (Addr×Obj)} {σ:St} {H:Hp} {s:Shared} {R:It->Hp->Prop} {E:Value->Shared->Prop} {lo hi:Int} {t u v:Tok} {tk:Nat} (I:Inv X pins σ H s) (h1 : -(2 ^ 62)<=lo) (h2:lo<2 ^ 62) (h3 : -(2 ^ 62)<=hi) (h4:hi<2 ^ 62)
  (q:R (Itr lo (hi-lo).toNat) H):wpAny (model X.prog X.w) X.A (pyIter (.ref s.heap.objs.size)) (PIE X pins σ tg R) E { s with heap:=s.heap.push { cls:=.type "range",data:=.fields #[.int lo t,.int hi u,.int 1 v] },toks:=tk }:=by
 refine wpAny_pyIter_range (IsRange.new ..) (small_one h1 h2 h3 h4) ?_
 have I1:Inv X pins σ H { s with heap:=s.heap.push { cls:=.type "range",data:=.fields #[.int lo t,.int hi u,.int 1 v] },toks:=tk }:=I.kept fun b o e=>Heap.get?_push_of_some _ e
 refine ⟨(s.heap.push { cls:=.type "range",data:=.fields #[.int lo t,.int hi u,.int 1 v] }).objs.size,[(s.heap.push { cls:=.type "range",data:=.fields #[.int lo t,.int hi u,.int 1 v] }).objs.size],_,_,H,rfl,
  I1.kept (t':=tk) fun b o e=>Heap.get?_push_of_some _ e,ZkQ _ lo (hi-lo).toNat,?_,fun b hb=>?_,q⟩
 ·have e1:lo+((0:Nat):Int)*1=lo:=by simp
  have e2:(((hi-lo).toNat:Nat):Int)-((0:Nat):Int)=Builtin.Range.rangeSize lo hi 1:=by rw [rangeSize_one]; split<;>omega
  show IsRangeIter _ _ (lo+((0:Nat):Int)*1) ((((hi-lo).toNat:Nat):Int)-((0:Nat):Int)) 1
  rw [e1,e2]
  exact Heap.get?_push_size _ rfl
 ·have e:b=(s.heap.push { cls:=.type "range",data:=.fields #[.int lo t,.int hi u,.int 1 v] }).objs.size:=by simpa using hb
  subst e
  exact I1.fpOk (Yb _) (I1.hok.fresh (Yb _))
def Zwu (ta:TA):TI:=fun σ H R=>ta σ H fun vs H1=>∃j:Int,vs=[.int j]/\-(2 ^ 62)<=j/\j<2 ^ 62/\R (Itr 0 j.toNat) H1
theorem Zmu {a:Expr} {ta:TA} {p pos:Pos} (hg:Gl X "range") (hm:X.mg "range"=none) (ha:PA X [a] ta) (hs:starEach [a] X.env=[(false,eval a X.env)]:=by rfl):PI X tg (.Call (.Name "range" p) [a] [] pos) (Zwu ta):=by
 intro pins s σ H R I h
 refine Call_ (Zjp I hg hm boot_range (PyProof.Rows.callWith_type1 (thn (ha pos pins s σ H _ I h) fun us s1 ⟨vs,H1,I1,r1,q1⟩=>?_) hs rfl))
 obtain ⟨j,e,q1,q2,q⟩:=q1
 subst e
 cases r1 with
 | cons r rr=>
  cases rr
  obtain ⟨t,rfl⟩:=r
  exact call_range_1 (Znt I1 (by omega) (by omega) q1 q2 (by simpa using q))
def Zzv (wi:TI) (g:TG) (tb:TS):TS:=fun D σ H=>wi σ H fun J H1=>∃W:Nat->Nat->St->Hp->Prop,(∃m,W 0 m σ H1)/\∀i m σ H,W i m σ H->
 (J.stop i H/\D.nx σ H)\/(J.go i H/\∃N:St->Hp->Prop,(∀σ' H',N σ' H'->∃m',m'<m/\W (i+1) m' σ' H')/\∀x H',J.yld i H x H'->g x σ H' fun σ2 H2=>tb { D with nx:=N,ct:=N,bk:=D.nx } σ2 H2)
noncomputable def Zjg (fp:List Addr) (h:Heap):List (Addr×Obj):=fp.filterMap fun b=>(h.get? b).map fun o=>(b,o)
theorem Zbn {fp:List Addr} {h:Heap} {b:Addr} {o:Obj} (hb:b∈fp) (e:h.get? b=some o):(b,o)∈Zjg fp h:=List.mem_filterMap.mpr ⟨b,hb,by rw [e]; rfl⟩
theorem Zmz {fp:List Addr} {h:Heap} {p:Addr×Obj} (hp:p∈Zjg fp h):p.1∈fp/\h.get? p.1=some p.2:=by
 obtain ⟨b,hb,e⟩:=List.mem_filterMap.mp hp
 cases q:h.get? b with
 | none=>rw [q] at e; cases e
 | some o=>
  rw [q] at e
  have e':(b,o)=p:=Option.some.inj e
  subst e'
  exact ⟨hb,q⟩
theorem Inv.pinned {pins:List (Addr×Obj)} {σ:St} {H:Hp} {s:Shared} {fp:List Addr} (I:Inv X pins σ H s) (hf:∀b∈fp,ZgX X pins H b) (ho:∀b∈fp,∃o,s.heap.get? b=some o/\∀v,o.data≠.cell v):Inv X (pins++Zjg fp s.heap) σ H s:=
 I.pins_of fun p hp=>(Yw.mp hp).elim (fun z=>I.pin p (Yh _ z)) fun z=>by
  obtain ⟨hb,e⟩:=Zmz z
  obtain ⟨f0,f1,f2,_⟩:=hf p.1 hb
  obtain ⟨o,e',d⟩:=ho p.1 hb
  rw [e] at e'; cases e'
  exact ⟨e,f0,f1,f2,d⟩
theorem Inv.unpinned {pins pl:List (Addr×Obj)} {σ:St} {H:Hp} {s:Shared} (I:Inv X (pins++pl) σ H s):Inv X pins σ H s:=I.pins_of fun p hp=>I.pin p (Yh _ (YQ _ hp))
theorem ZnB {iter:Expr} {body:List Stmt} {wi:TI} {g:TG} {tb:TS} {pos:Pos} (hp:PassesOwn (model X.prog X.w) X.A X.env X.xe) (hc:X.calm=true) (hi:PI X tg iter wi) (hg:PG X tg g) (hb:PSs X body tb)
  (hs:∀x,foldedSetIterable iter X.env x=pure x:=by intro _; rfl):PS X (.For tg iter body [] pos) (Zzv wi g tb):=by
 intro pins s σ H D I h
 refine wpAny_For (thn (hi pins s σ H _ I h) fun v s1 h1=>thn h1 fun itv s2 h2=>?_) hs
 obtain ⟨it,fp,tn,J,H2,e,I2,T,st2,f2,W,⟨m0,w0⟩,turn⟩:=h2
 subst e
 have stat:∀{H':Hp},(∀b∈fp,H' b=none)->∀b∈fp,ZgX X pins H' b:=fun hn b hb=>⟨hn b hb,(f2 b hb).2⟩
 refine codeAny_forLoop_any (fun n s'=>∃i σ' H',Inv X pins σ' H' s'/\tn i s'.heap/\(∀b∈fp,H' b=none)/\W i n σ' H') ?_ m0 ⟨0,σ,H2,I2,st2,fun b hb=>(f2 b hb).1,w0⟩
 rintro n s3 ⟨i,σ3,H3,I3,st3,fr3,w3⟩
 rcases turn i n σ3 H3 w3 with ⟨stop,qn⟩ | ⟨go,N,hN,step⟩
 ·refine wpAny_passesOwn hp (thn (T.done X rfl rfl rfl hc i pins s3 σ3 H3 X.xe I3 (stat fr3) st3 stop) fun r s4 ⟨hr,I4⟩=>?_)
  subst hr
  exact wpAny_execs_nil ⟨σ3,H3,I4,qn⟩
 ·refine wpAny_passesOwn hp (thn (T.item X rfl rfl rfl hc i pins s3 σ3 H3 X.xe I3 (stat fr3) st3 go) fun r s4 ⟨u,hr,h4⟩=>?_)
  subst hr
  refine wpAny_passesOwn hp (thn h4 fun _ s5 ⟨x,H5,I5,r5,y5,st5,fr5⟩=>?_)
  have I5':=I5.pinned (stat fr5) (T.obj _ _ st5)
  refine wpAny_passesOwn hp (thn (hg _ s5 σ3 H5 x u _ I5' r5 (step x H5 y5)) fun _ s6 ⟨σ6,H6,I6,q6⟩=>?_)
  refine wpAny_passesOwn hp (thn (hb _ s6 σ6 H6 _ I6 q6) fun f s7 q7=>?_)
  have again:∀{σ7:St} {H7:Hp},Inv X (pins++Zjg fp s5.heap) σ7 H7 s7->N σ7 H7->∃m,m<n/\∃i σ' H',Inv X pins σ' H' s7/\tn i s7.heap/\(∀b∈fp,H' b=none)/\W i m σ' H':=fun {σ7 H7} I7 n7=>by
   obtain ⟨m',hm,w7⟩:=hN σ7 H7 n7
   refine ⟨m',hm,i+1,σ7,H7,I7.unpinned,T.keep _ _ _ st5 fun b hb o e=>(I7.pin (b,o) (Yh _ (Yh _ (Zbn hb e)))).1,fun b hb=>?_,w7⟩
   obtain ⟨o,e,d⟩:=T.obj _ _ st5 b hb
   exact (I7.pin (b,o) (Yh _ (Yh _ (Zbn hb e)))).2.1
  cases f with
  | next=>obtain ⟨σ7,H7,I7,n7⟩:=q7; exact again I7 n7
  | cont=>obtain ⟨σ7,H7,I7,n7⟩:=q7; exact again I7 n7
  | brk=>obtain ⟨σ7,H7,I7,q7⟩:=q7; exact ⟨σ7,H7,I7.unpinned,q7⟩
  | ret v=>obtain ⟨x7,σ7,H7,I7,r7,q7⟩:=q7; exact ⟨x7,σ7,H7,I7.unpinned,r7,q7⟩
end
abbrev R2:=V->V->Hp->VK->Prop
def OpR (X:Cx) (f:Value->Value->Sem Value) (r:R2):Prop:=
 ∀(pins:List (Addr×Obj)) (s:Shared) (σ:St) (H:Hp) (x y:V) (v u:Value) (Q:VK),Inv X pins σ H s->RelV x v->RelV y u->r x y H Q->
  wpAny (model X.prog X.w) X.A (f v u) (EP X pins σ Q) X.xe s
def CallR (X:Cx) (f:Value) (r:List V->Hp->VK->Prop):Prop:=
 ∀(pins:List (Addr×Obj)) (s:Shared) (σ:St) (H:Hp) (xs:List V) (us:List Value) (Q:VK),Inv X pins σ H s->Vals xs us->r xs H Q->
  wpAny (model X.prog X.w) X.A (call f us) (EP X pins σ Q) X.xe s
def ZAa (X:Cx) (r:V->Hp->(Bool->Hp->Prop)->Prop):Prop:=
 ∀(pins:List (Addr×Obj)) (s:Shared) (σ:St) (H:Hp) (x:V) (v:Value) (Q:Bool->Hp->Prop),Inv X pins σ H s->RelV x v->r x H Q->
  wpAny (model X.prog X.w) X.A (truthy v) (TP X pins σ Q) X.xe s
def tOp (r:R2) (ta tb:TE):TE:=fun σ H Q=>ta σ H fun x H1=>tb σ H1 fun y H2=>r x y H2 Q
def rI (C:Int->Int->Prop) (g:Int->Int->V):R2:=fun x y H Q=>∃i j,x=.int i/\y=.int j/\C i j/\Q (g i j) H
def rI0 (g:Int->Int->V):R2:=fun x y H Q=>∃i j,x=.int i/\y=.int j/\Q (g i j) H
section
variable {X:Cx} {a b c:Expr} {ta tb tc:TE} {pos:Pos}
theorem ZuP (ha:PE X a ta) (hb:PE X b tb) {pins:List (Addr×Obj)} {s:Shared} {σ:St} {H:Hp} {R:V->V->Hp->Prop} (I:Inv X pins σ H s)
  (h:ta σ H fun x H1=>tb σ H1 fun y H2=>R x y H2) {Q:Value->Shared->Prop} {f:Value->Value->Sem Value}
  (hf:∀v u s2 x y H2,Inv X pins σ H2 s2->RelV x v->RelV y u->R x y H2->wpAny (model X.prog X.w) X.A (f v u) Q X.xe s2) :
  wpAny (model X.prog X.w) X.A (eval a X.env) (fun v s₁=>wpAny (model X.prog X.w) X.A (eval b X.env) (fun u s₂=>wpAny (model X.prog X.w) X.A (f v u) Q X.xe s₂) X.xe s₁) X.xe s:=by
 refine thn (ha pins s σ H _ I h) fun v s1 ⟨x,H1,I1,r1,q1⟩=>?_
 refine thn (hb pins s1 σ H1 _ I1 q1) fun u s2 ⟨y,H2,I2,r2,q2⟩=>?_
 exact hf v u s2 x y H2 I2 r1 r2 q2
theorem Zv5 {op:Operator} {r:R2} (ho:OpR X (binaryOp op) r) (ha:PE X a ta) (hb:PE X b tb):PE X (.BinOp a op b pos) (tOp r ta tb):=by
 intro pins s σ H Q I h
 exact wpAny_BinOp (ZuP ha hb I h fun v u s2 x y H2 I2 rx ry q=>ho pins s2 σ H2 x y v u Q I2 rx ry q)
theorem opI {f:Value->Value->Sem Value} {C:Int->Int->Prop} {g:Int->Int->Int}
  (rule:∀(i j:Int) (t u:Tok) (s:Shared) (Q:Value->Shared->Prop) (E:Value->Shared->Prop),C i j->Q (.int (g i j) s.toks) { s with toks:=s.toks+1 }->wpAny (model X.prog X.w) X.A (f (.int i t) (.int j u)) Q E s) :
  OpR X f (rI C fun i j=>.int (g i j)):=by
 intro pins s σ H x y v u Q I rx ry h
 obtain ⟨i,j,rfl,rfl,hc,q⟩:=h
 obtain ⟨t,rfl⟩:=rx
 obtain ⟨t',rfl⟩:=ry
 exact rule i j t t' s _ _ hc ⟨.int (g i j),H,I.tok _,⟨_,rfl⟩,q⟩
theorem Zuy {f:Value->Value->Sem Value} {g:Int->Int->Int}
  (rule:∀(i j:Int) (t u:Tok) (s:Shared) (Q:Value->Shared->Prop) (E:Value->Shared->Prop),Q (.int (g i j) s.toks) { s with toks:=s.toks+1 }->wpAny (model X.prog X.w) X.A (f (.int i t) (.int j u)) Q E s) :
  OpR X f (rI0 fun i j=>.int (g i j)):=by
 intro pins s σ H x y v u Q I rx ry h
 obtain ⟨i,j,rfl,rfl,q⟩:=h
 obtain ⟨t,rfl⟩:=rx
 obtain ⟨t',rfl⟩:=ry
 exact rule i j t t' s _ _ ⟨.int (g i j),H,I.tok _,⟨_,rfl⟩,q⟩
theorem Zq0 {f:Value->Value->Sem Value} {g:Int->Int->Bool}
  (rule:∀(i j:Int) (t u:Tok) (s:Shared) (Q:Value->Shared->Prop) (E:Value->Shared->Prop),Q (.bool (g i j)) s->wpAny (model X.prog X.w) X.A (f (.int i t) (.int j u)) Q E s) :
  OpR X f (rI0 fun i j=>.bl (g i j)):=by
 intro pins s σ H x y v u Q I rx ry h
 obtain ⟨i,j,rfl,rfl,q⟩:=h
 obtain ⟨t,rfl⟩:=rx
 obtain ⟨t',rfl⟩:=ry
 exact rule i j t t' s _ _ ⟨.bl (g i j),H,I,rfl,q⟩
def CMul (i j:Int):Prop:=(-(2 ^ 64)<i/\i<2 ^ 64)\/(-(2 ^ 64)<j/\j<2 ^ 64)
theorem CMul.ok {i j:Int} (h:CMul i j):IntMulOk i j:=by
 rcases h with ⟨h1,h2⟩ | ⟨h1,h2⟩
 ·exact .of_left (intBits_le_64 h1 h2)
 ·exact .of_right (intBits_le_64 h1 h2)
theorem op_add:OpR X (binaryOp .Add) (rI0 fun i j=>.int (i+j)):=Zuy fun _ _ _ _ _ _ _ q=>add_int q
theorem Zuq:OpR X (binaryOp .Sub) (rI0 fun i j=>.int (i-j)):=Zuy fun _ _ _ _ _ _ _ q=>sub_int q
theorem op_mul:OpR X (binaryOp .Mult) (rI CMul fun i j=>.int (i*j)):=opI fun _ _ _ _ _ _ _ hc q=>mul_int q hc.ok
theorem Zut:OpR X (binaryOp .Mod) (rI (fun _ j=>0<j) fun i j=>.int (i % j)):=opI fun i j _ _ _ _ _ hc q=>by
 have h1:(0:Int)<j:=hc
 exact mod_int' (by omega) (by rw [Int.fmod_eq_emod_of_nonneg i (by omega)]; exact q)
theorem Zux:OpR X (binaryOp .BitAnd) (rI0 fun i j=>.int (Builtin.bitAnd i j)):=Zuy fun _ _ _ _ _ _ _ q=>and_int q
end
section
variable {X:Cx} {a b c:Expr} {ta tb tc:TE} {pos:Pos}
theorem Zor {pins:List (Addr×Obj)} {σ:St} {H:Hp} {s:Shared} {Q:VK} {k k':Bool} (I:Inv X pins σ H s) (q:Q (.bl k) H) (e:k=k'):EP X pins σ Q (.bool k') s:=by
 subst e
 exact ⟨.bl k,H,I,rfl,q⟩
theorem Zwb:OpR X (compareOp .Lt) (rI0 fun i j=>.bl (decide (i<j))):=Zq0 fun _ _ _ _ _ _ _ q=>lt_int q
theorem Zwc:OpR X (compareOp .LtE) (rI0 fun i j=>.bl (decide (i<=j))):=Zq0 fun _ _ _ _ _ _ _ q=>le_int q
theorem Zwd:OpR X (compareOp .Gt) (rI0 fun i j=>.bl (decide (j<i))):=Zq0 fun _ _ _ _ _ _ _ q=>gt_int q
theorem Zwe:OpR X (compareOp .GtE) (rI0 fun i j=>.bl (decide (j<=i))):=Zq0 fun _ _ _ _ _ _ _ q=>ge_int q
theorem op_isN:OpR X (compareOp .Is) (fun x y H Q=>y=.non/\Q (.bl (decide (x=.non))) H):=by
 intro pins s σ H x y v u Q I rx ry h
 obtain ⟨rfl,q⟩:=h
 cases ry
 refine is_none_gen (Zor I q ?_)
 cases x<;>first
  | (cases rx; rfl)
  | (obtain ⟨t,rfl⟩:=rx; rfl)
theorem op_notN:OpR X (compareOp .IsNot) (fun x y H Q=>y=.non/\Q (.bl (!decide (x=.non))) H):=by
 intro pins s σ H x y v u Q I rx ry h
 obtain ⟨rfl,q⟩:=h
 cases ry
 refine isnot_none_gen (Zor I q ?_)
 cases x<;>first
  | (cases rx; rfl)
  | (obtain ⟨t,rfl⟩:=rx; rfl)
theorem OpR.or {f:Value->Value->Sem Value} {r r':R2} (h:OpR X f r) (h':OpR X f r'):OpR X f (fun x y H Q=>r x y H Q\/r' x y H Q):=by
 intro pins s σ H x y v u Q I rx ry q
 rcases q with q | q
 ·exact h pins s σ H x y v u Q I rx ry q
 ·exact h' pins s σ H x y v u Q I rx ry q
theorem ZnZ (b:Expr) {op:CmpOp} (h:op≠.In:=by decide) (h2:op≠.NotIn:=by decide):behindInMarks op b=false:=by
 have e1:(op == CmpOp.In)=false:=by cases op<;>first | rfl | exact absurd rfl h
 have e2:(op == CmpOp.NotIn)=false:=by cases op<;>first | rfl | exact absurd rfl h2
 cases b<;>simp [behindInMarks,e1,e2]
theorem ZqW {op:CmpOp} {r:R2} (ho:OpR X (compareOp op) r) (ha:PE X a ta) (hb:PE X b tb) (hm:behindInMarks op b=false):PE X (.Compare a [op] [b] pos) (tOp r ta tb):=by
 intro pins s σ H Q I h
 exact wpAny_Compare1 (ZuP ha hb I h fun v u s2 x y H2 I2 rx ry q=>ho pins s2 σ H2 x y v u Q I2 rx ry q) hm
def ZvD (t:TE):TT:=fun σ H Q=>t σ H fun x H'=>∃k,x=.bl k/\Q k H'
theorem ZqI {op:CmpOp} {r:R2} (ho:OpR X (compareOp op) r) (ha:PE X a ta) (hb:PE X b tb) (hm:behindInMarks op b=false):PT X (.Compare a [op] [b] pos) (ZvD (tOp r ta tb)):=by
 intro pins s σ H Q I h
 refine wpAny_isTrue_Compare1 (thn (ha pins s σ H _ I h) fun v s1 ⟨x,H1,I1,r1,q1⟩=>thn (hb pins s1 σ H1 _ I1 q1) fun u s2 ⟨y,H2,I2,r2,q2⟩=>
  thn (ho pins s2 σ H2 x y v u _ I2 r1 r2 q2) fun c s3 ⟨z,H3,I3,r3,k,e,q3⟩=>?_) hm
 subst e
 cases r3
 exact wpAny_truthy_bool ⟨H3,I3,q3⟩
def Znk (r r':R2) (ta tb tc:TE):TE:=fun σ H Q=>ta σ H fun x H1=>tb σ H1 fun y H2=>r x y H2 fun z H3=>∃k,z=.bl k/\
 (if k=true then tc σ H3 fun w' H4=>r' y w' H4 Q else Q (.bl false) H3)
theorem ZnN {op op':CmpOp} {r r':R2} (ho:OpR X (compareOp op) r) (ho':OpR X (compareOp op') r') (ha:PE X a ta) (hb:PE X b tb) (hc:PE X c tc)
  (hm:lastMarks [op,op'] [b,c]=false:=by with_unfolding_all rfl):PE X (.Compare a [op,op'] [b,c] pos) (Znk r r' ta tb tc):=by
 intro pins s σ H Q I h
 refine Compare_chain (thn (ha pins s σ H _ I h) fun v s1 ⟨x,H1,I1,r1,q1⟩=>chain_link (thn (hb pins s1 σ H1 _ I1 q1) fun u s2 ⟨y,H2,I2,r2,q2⟩=>
  thn (ho pins s2 σ H2 x y v u _ I2 r1 r2 q2) fun d s3 ⟨z,H3,I3,r3,k,e,q3⟩=>?_)) hm
 subst e
 cases r3
 refine wpAny_truthy_bool ?_
 cases k with
 | false=>exact ite_ff ⟨.bl false,H3,I3,rfl,q3⟩
 | true=>exact ite_tt (chain_last (thn (hc pins s3 σ H3 _ I3 q3) fun w' s4 ⟨z',H4,I4,r4,q4⟩=>ho' pins s4 σ H4 y z' u w' Q I4 r2 r4 q4))
def TruV (K:PySem.W.Frag) (x:V) (H:Hp) (k:Bool):Prop:=
 match x with
 | .non=>k=false
 | .bl b=>k=b
 | .int i=>k=(i != 0)
 | .str y=>y.length<=sizeLine/\k=((y.length:Int) != 0)
 | .byt y=>y.size<=sizeLine/\k=((y.size:Int) != 0)
 | .ref p=>(∃xs,SqL K H p xs/\k=!xs.isEmpty)\/(∃xs,SqT K H p xs/\k=!xs.isEmpty)\/∃kvs,H p=some (.dK kvs)/\k=!kvs.isEmpty
 | _=>False
theorem Zla {κ:Type} {kvs:List (κ×V)} {vs:List (κ×Value)} (r:KV kvs vs):(!vs.isEmpty)=!kvs.isEmpty:=by
 cases r<;>rfl
theorem ZhR {xs:List V} {its:List Value} (r:Vals xs its):(!its.toArray.isEmpty)=!xs.isEmpty:=by
 cases r<;>simp
theorem ZfK:(sizeLine:Nat)<2 ^ 63:=by rw [sizeLine_eq]; decide
theorem Zna:ZAa X (fun x H Q=>∃k,TruV X.K x H k/\Q k H):=by
 intro pins s σ H x v Q I rx h
 obtain ⟨k,e,q⟩:=h
 have hl:=ZfK
 have hs:sizeLine=16777216:=sizeLine_eq
 cases x with
 | non=>
  cases rx
  have e':k=false:=e
  subst e'
  exact truthy_none ⟨H,I,q⟩
 | bl b=>
  cases rx
  have e':k=b:=e
  subst e'
  exact wpAny_truthy_bool ⟨H,I,q⟩
 | int i=>
  obtain ⟨t,rfl⟩:=rx
  have e':k=(i != 0):=e
  subst e'
  exact PySem.P.truthy_int ⟨H,I,q⟩
 | str y=>
  obtain ⟨t,rfl⟩:=rx
  obtain ⟨hy,e'⟩:y.length<=sizeLine/\k=((y.length:Int) != 0):=e
  subst e'
  exact PySem.P.truthy_str (by omega) ⟨H,I.tok _,q⟩
 | byt y=>
  obtain ⟨t,rfl⟩:=rx
  obtain ⟨hy,e'⟩:y.size<=sizeLine/\k=((y.size:Int) != 0):=e
  subst e'
  exact PySem.W.truthy_bytes (by omega) ⟨H,I.tok _,q⟩
 | ref p=>
  cases rx
  have e':(∃xs,SqL X.K H p xs/\k=!xs.isEmpty)\/(∃xs,SqT X.K H p xs/\k=!xs.isEmpty)\/∃kvs,H p=some (.dK kvs)/\k=!kvs.isEmpty:=e
  rcases e' with ⟨xs,hx,e'⟩ | ⟨xs,hx,e'⟩ | ⟨kvs,hx,e'⟩
  ·subst e'
   obtain ⟨its,r,pl,hz⟩:=I.list hx
   have hlen:=r.length
   exact wpAny_truthy_list pl.isList (by simp only [Yd]; omega) ⟨H,I.tok _,by rw [ZhR r]; exact q⟩
  ·subst e'
   obtain ⟨its,r,pl,hz⟩:=I.tuple hx
   have hlen:=r.length
   exact truthy_tuple pl (by simp only [Yd]; omega) ⟨H,I.tok _,by rw [ZhR r]; exact q⟩
  ·subst e'
   obtain ⟨hz,hS,vs,r,m⟩:kvs.length<=sizeLine/\(p == sysModules)=false/\∃vs,KV kvs vs/\s.heap.DictOf (Zah X.prog X.w) p vs:=I.hok p _ hx
   have hlen:kvs.length=vs.length:=Paired.length r
   exact wpAny_truthy_dict hS m (by omega) ⟨H,I.tok _,by rw [Zla r]; exact q⟩
 | _=>exact (show False from e).elim
theorem Znx (ha:PE X a ta) (he:∀whole,isTrue a X.env whole=(do let v <-whole; standAt a.pos; holding [v] (truthy v))) :
  PT X a (fun σ H Q=>ta σ H fun x H'=>∃k,TruV X.K x H' k/\Q k H'):=by
 intro pins s σ H Q I h
 exact isTrue_plain (thn (ha pins s σ H _ I h) fun v s1 ⟨x,H1,I1,r1,q1⟩=>Zna pins s1 σ H1 x v Q I1 r1 q1) (he _)
theorem op_add_str:OpR X (binaryOp .Add) (fun x y H Q=>∃i j,x=.str i/\y=.str j/\i.length+j.length<=sizeLine/\Q (.str (i++j)) H):=by
 intro pins s σ H x y v u Q I rx ry h
 obtain ⟨i,j,rfl,rfl,hz,q⟩:=h
 obtain ⟨t,rfl⟩:=rx
 obtain ⟨t',rfl⟩:=ry
 exact add_str (fun t' tk=>⟨.str (i++j),H,I.tok _,⟨_,rfl⟩,q⟩) hz
theorem Ziq {x:V} {us:List Value} (r:Vals [x] us):∃u,us=[u]/\RelV x u:=by
 cases r with
 | cons r1 r2=>cases r2; exact ⟨_,rfl,r1⟩
theorem Zm4 {x y:V} {us:List Value} (r:Vals [x,y] us):∃u w',us=[u,w']/\RelV x u/\RelV y w':=by
 cases r with
 | cons r1 r2=>
  cases r2 with
  | cons r3 r4=>cases r4; exact ⟨_,_,rfl,r1,r3⟩
theorem ZmV (hc:X.calm=true):CallR X (.builtin "max") (fun xs H Q=>∃i j,xs=[.int i,.int j]/\Q (.int (if j > i then j else i)) H):=by
 intro pins s σ H xs us Q I r h
 obtain ⟨i,j,rfl,q⟩:=h
 obtain ⟨u,w',rfl,⟨t,rfl⟩,⟨t',rfl⟩⟩:=Zm4 r
 refine max_two_ints (I.ok.hd hc) fun h' tk k=>⟨_,H,I.kept k,?_,q⟩
 by_cases hj:j > i
 ·rw [if_pos hj,if_pos hj]; exact ⟨_,rfl⟩
 ·rw [if_neg hj,if_neg hj]; exact ⟨_,rfl⟩
theorem ZmU (hc:X.calm=true):CallR X (.builtin "min") (fun xs H Q=>∃i j,xs=[.int i,.int j]/\Q (.int (if j<i then j else i)) H):=by
 intro pins s σ H xs us Q I r h
 obtain ⟨i,j,rfl,q⟩:=h
 obtain ⟨u,w',rfl,⟨t,rfl⟩,⟨t',rfl⟩⟩:=Zm4 r
 refine min_two_ints (I.ok.hd hc) fun h' tk k=>⟨_,H,I.kept k,?_,q⟩
 by_cases hj:j<i
 ·rw [if_pos hj,if_pos hj]; exact ⟨_,rfl⟩
 ·rw [if_neg hj,if_neg hj]; exact ⟨_,rfl⟩
end
structure ObjM (h:Heap) (x dx C:Addr) (mA:Str->Option Value):Prop where
 obj:h.get? x=some (PySem.W.instObj C dx)
 ns:h.Ns1 dx mA
 ne:dx≠x
theorem ZmG {h:Heap} {dx:Addr} {mA:Str->Option Value} (n:h.Ns1 dx mA):∃od,h.get? dx=some od/\∀name,PySem.W.lookIn name od=some (mA name):=by
 obtain ⟨o,es,ep,ho,hd,hk,_,hm⟩:=n
 refine ⟨o,ho,fun name=>?_⟩
 have e:=hm name
 unfold nsFind findBy at e
 rw [<-Array.find?_toList] at e
 unfold PySem.W.lookIn
 rw [hd]
 dsimp only
 split
 ·rename_i y q
  rw [q] at e
  exact congrArg some e
 ·rename_i q
  rw [q] at e
  have a:es.toList.any (·.refKey)=false:=by
   rw [List.any_eq_false]
   intro y hy
   obtain ⟨z,t,hkey⟩:=hk y (Array.mem_toList_iff.mp hy)
   simp [DictEntry.refKey,hkey]
  have a':¬es.toList.any (·.refKey)=true:=by rw [a]; exact Yi
  rw [if_neg a']
  exact congrArg some e
theorem ObjM.look {h:Heap} {x dx C:Addr} {mA:Str->Option Value} (I:ObjM h x dx C mA):∃od,PySem.W.InstAt h x (PySem.W.instObj C dx) C (some od)/\∀name,PySem.W.lookIn name od=some (mA name):=
 let ⟨od,ho,hl⟩:=ZmG I.ns
 ⟨od,⟨I.obj,rfl,rfl,ho⟩,hl⟩
section
variable {prog:Program} {w:World} {A:Around} {E:Value->Shared->Prop} {s:Shared} {K:PySem.W.Frag} {x dx C f:Addr} {mA:Str->Option Value} {name:Str} {v:Value}
theorem Zro {expr:Bool} {Q:Value->Shared->Prop} (X:K.In s.heap) (I:ObjM s.heap x dx C mA) (hg:PySem.W.plainGet K C name=true) (hh:PySem.W.hasDictIn K C=true)
  (ha:PySem.W.findIn K (.ref C) name=some none) (hv:mA name=some v) (hv':PySem.W.handedIn v=true) (h:Q v { s with toks:=s.toks+1 }) :
  wpAny (model prog w) A (getAttr (.ref x) name expr) Q E s:=by
 obtain ⟨od,J,hl⟩:=I.look
 exact PySem.W.get_value X J (PySem.W.plainGet_of hg).1 (PySem.W.findObj_own hh ha rfl (by rw [hl,hv])) hv' h
theorem Zqy {ns:List Str} {Q:Unit->Shared->Prop} (X:K.In s.heap) (I:ObjM s.heap x dx C mA)
  (hs:PySem.W.findIn K (.ref C) "__setattr__"=some (some (.builtin "object.__setattr__"))) (hp:PySem.W.plainOver K C=true) (ht:PySem.W.takerIn K C name=some none) (hh:PySem.W.hasDictIn K C=true)
  (hw:PySem.Within mA ns) (hsz:ns.length<=sizeLine)
  (h:∀h',ObjM h' x dx C (fun y=>if y=name then some v else mA y)->Heap.SameBut dx s.heap h'->Q () { s with heap:=h',toks:=s.toks+2 }) :
  wpAny (model prog w) A (setAttr (.ref x) name v) Q E s:=by
 obtain ⟨od,J,hl⟩:=I.look
 refine PySem.W.set_plain X J hs (PySem.W.osa_open (s:={ s with toks:=s.toks+1 }) (r:=none) X J hp ht fun b=>?_)
 obtain ⟨cd,hc,hd'⟩:=PySem.W.any_some hh
 have hx:s.heap.get? x=some ⟨.ref C,some dx,.plain,#[]⟩:=I.obj
 refine wpAny_bind (wpAny_pure (wpAny_bind (wpAny_bind (wpAny_loadPart hx (wpAny_bind (PySem.W.Looks.here (s:={ s with toks:=s.toks+1 }) (PySem.W.looks_clsIn X hc) ?_))))))
 rw [hd']
 refine wpAny_pure (a:=some dx) (wpAny_bind (wpAny_pure (wpAny_bind ?_)))
 refine wpAny_nsSet1 (s:={ s with toks:=s.toks+1 }) I.ns fun h' hn2 hs2=>?_
 obtain ⟨oD,esD,epD,hoD,hdD,hcD⟩:=hn2.count (PySem.Within.cons name v hw)
 refine wpAny_bind (wpAny_lookBehind hoD (by rw [hdD]; exact pastItsLine_dict (Yu hcD (by rw [Yc]; omega))) ?_)
 exact wpAny_pure (h _ ⟨(hs2.2 _ (Ne.symm I.ne)).trans I.obj,hn2,I.ne⟩ hs2)
theorem Zn8 {R:Result->Shared->Prop} {vs:List Value} {kw:List (Str×Value)} (X:K.In s.heap) (hm:PySem.W.makesIn K C=true)
  (hi:PySem.W.findIn K (.ref C) "__init__"=some (some (.ref f))) (hf:PySem.W.typeIn K (.ref f)=some (.type "function"))
  (h:codeAny (model prog w) (A.under (.builtin "type.__call__" ⟨.ref C::vs,kw⟩)) (.call (.ref f) ⟨.ref (s.heap.objs.size+1)::vs,kw⟩) (PySem.W.InitBack (s.heap.objs.size+1) R)
   { s with heap:=(s.heap.push PySem.W.emptyDict).push (PySem.W.instObj C s.heap.objs.size) }) :
  codeAny (model prog w) A (.call (.ref C) ⟨vs,kw⟩) R s:=by
 obtain ⟨hh,g,d,t,os⟩:=s
 exact PySem.W.make_core (PySem.W.makes_of X hm) (PySem.W.looks_findIn X hi) (fun self=>PySem.W.bind_fn X self hf) (.inl rfl) h
end
noncomputable def ZdU (f:Str) (v:V):List (Str×V)->List (Str×V)
 | []=>[(f,v)]
 | (g,x)::r=>if g=f then (g,v)::r else (g,x)::ZdU f v r
theorem Zg2 (f g:Str) (v:V):∀fs:List (Str×V),(ZdU f v fs).lookup g=if g=f then some v else fs.lookup g
 | []=>by
  show List.lookup g [(f,v)]=_
  by_cases h:g=f
  ·have hb:(g == f)=true:=beq_iff_eq.mpr h
   simp only [List.lookup,hb,if_pos h]
  ·have hb:(g == f)=false:=beq_eq_false_iff_ne.mpr h
   simp only [List.lookup,hb,if_neg h]
 | (k,x)::r=>by
  have ih:=Zg2 f g v r
  rw [show ZdU f v ((k,x)::r)=(if k=f then (k,v)::r else (k,x)::ZdU f v r) from rfl]
  by_cases hk:k=f
  ·rw [if_pos hk]
   by_cases h:g=k
   ·have hb:(g == k)=true:=beq_iff_eq.mpr h
    simp only [List.lookup,hb,if_pos (h.trans hk)]
   ·have hb:(g == k)=false:=beq_eq_false_iff_ne.mpr h
    simp only [List.lookup,hb,if_neg (fun e:g=f=>h (e.trans hk.symm))]
  ·rw [if_neg hk]
   by_cases h:g=k
   ·have hb:(g == k)=true:=beq_iff_eq.mpr h
    simp only [List.lookup,hb,if_neg (fun e:g=f=>hk (h.symm.trans e))]
   ·have hb:(g == k)=false:=beq_eq_false_iff_ne.mpr h
    simp only [List.lookup,hb]
    exact ih
theorem ZgL (f:Str) (v:V):∀fs:List (Str×V),f∈(ZdU f v fs).map (·.1)/\∀g,g∈fs.map (·.1)->g∈(ZdU f v fs).map (·.1)
 | []=>⟨by simp [ZdU],fun g h=>by simp at h⟩
 | (k,x)::r=>by
  obtain ⟨i1,i2⟩:=ZgL f v r
  rw [show ZdU f v ((k,x)::r)=(if k=f then (k,v)::r else (k,x)::ZdU f v r) from rfl]
  by_cases hk:k=f
  ·rw [if_pos hk]
   subst hk
   exact ⟨by simp,fun g h=>by simpa using h⟩
  ·rw [if_neg hk]
   refine ⟨?_,fun g h=>?_⟩
   ·rw [Yf]
    exact Yo _ i1
   ·rw [Yf] at h ⊢
    rcases Yq.mp h with e | e
    ·exact Yq.mpr (.inl e)
    ·exact Yo _ (i2 g e)
theorem Zg3 (f:Str) (v:V):∀fs:List (Str×V),(ZdU f v fs).length<=fs.length+1
 | []=>by simp [ZdU]
 | (k,x)::r=>by
  have ih:=Zg3 f v r
  rw [show ZdU f v ((k,x)::r)=(if k=f then (k,v)::r else (k,x)::ZdU f v r) from rfl]
  by_cases hk:k=f
  ·rw [if_pos hk,Yc,Yc]; omega
  ·rw [if_neg hk,Yc,Yc]; omega
theorem RelO.some_of {v:V} {o:Option Value} (r:RelO (some v) o):∃u,o=some u/\RelV v u:=by
 cases o with
 | none=>exact (show False from r).elim
 | some u=>exact ⟨u,rfl,r⟩
theorem RelO.none_of {o:Option Value} (r:RelO none o):o=none:=by
 cases o with
 | none=>rfl
 | some u=>exact (show False from r).elim
theorem ZmN {v:V} {u:Value} (r:RelV v u):PySem.W.handedIn u=true:=by
 cases v with
 | non=>cases (show u=Value.none from r); rfl
 | bl b=>cases (show u=Value.bool b from r); rfl
 | int i=>obtain ⟨t,e⟩:=(show ∃t,u=Value.int i t from r); cases e; rfl
 | str x=>obtain ⟨t,e⟩:=(show ∃t,u=Value.str x t from r); cases e; rfl
 | byt b=>obtain ⟨t,e⟩:=(show ∃t,u=Value.bytes b t from r); cases e; rfl
 | flt b=>obtain ⟨t,e⟩:=(show ∃t,u=Value.float b t from r); cases e; rfl
 | ref a=>cases (show u=Value.ref a from r); rfl
 | ty n=>cases (show u=Value.type n from r); rfl
section
variable {P:Program} {w:World} {H H':Hp} {h h':Heap} {a C dx:Addr} {fs fs':List (Str×V)}
theorem ZlZ (hok:HOk P w H h) (e:H a=some (.ins C dx fs)):∃mA,ObjM h a dx C mA/\(∀f,RelO (fs.lookup f) (mA f))/\PySem.Within mA (fs.map (·.1))/\fs.length<=1000/\H dx=some (.own a):=by
 obtain ⟨d,z,ne,ob,mA,n,r,q⟩:=(show ObjOk P w H h a (.ins C dx fs) from hok a _ e)
 exact ⟨mA,⟨ob,n,ne⟩,r,q,z,d⟩
end
structure Cls (K:PySem.W.Frag) (C:Addr):Prop where
 pg:PySem.W.plainGet K C Str.empty=true
 hd:PySem.W.hasDictIn K C=true
 po:PySem.W.plainOver K C=true
 sa:PySem.W.findIn K (.ref C) "__setattr__"=some (some (.builtin "object.__setattr__"))
theorem Cls.get {K:PySem.W.Frag} {C:Addr} (c:Cls K C) (f:Str):PySem.W.plainGet K C f=true:=c.pg
def NoAttr (K:PySem.W.Frag) (C:Addr) (f:Str):Prop:=PySem.W.findIn K (.ref C) f=some none
theorem NoAttr.taker {K:PySem.W.Frag} {C:Addr} {f:Str} (n:NoAttr K C f):PySem.W.takerIn K C f=some none:=by
 unfold PySem.W.takerIn
 rw [show PySem.W.findIn K (.ref C) f=some none from n]
 rfl
structure Con (K:PySem.W.Frag) (C:Addr) (f:Str) (v:V) (u:Value):Prop where
 at_:PySem.W.findIn K (.ref C) f=some (some u)
 rel:RelV v u
 get:PySem.W.specialIn K u "__get__"=some none
 cp:PySem.W.copiedNames.contains f=false
structure ZAb (K:PySem.W.Frag) (C:Addr) (m:Str) (f:Addr):Prop where
 at_:PySem.W.findIn K (.ref C) m=some (some (.ref f))
 fn:PySem.W.isFn K (.ref f)=true
 kp:PySem.W.keepIn K (.ref f)=true
section
variable {X:Cx} {pins:List (Addr×Obj)} {σ:St} {H:Hp} {s:Shared} {a C dx:Addr} {fs:List (Str×V)} {f:Str} {v:V} {A:Around} {E:Value->Shared->Prop}
theorem Zlb {b:Bool} {Q:Value->Shared->Prop} (I:Inv X pins σ H s) (e:H a=some (.ins C dx fs)) (c:Cls X.K C) (n:NoAttr X.K C f) (l:fs.lookup f=some v)
  (h:∀u s',Inv X pins σ H s'->RelV v u->Q u s'):wpAny (model X.prog X.w) A (getAttr (.ref a) f b) Q E s:=by
 obtain ⟨mA,O,r,_,_,_⟩:=ZlZ I.hok e
 obtain ⟨u,hu,ru⟩:=RelO.some_of (v:=v) (o:=mA f) (by rw [<-l]; exact r f)
 exact Zro I.kIn O (c.get f) c.hd n hu (ZmN ru) (h u _ (I.tok _) ru)
theorem ZkW {y:V} {u:Value} {Q:Unit->Shared->Prop} (I:Inv X pins σ H s) (e:H a=some (.ins C dx fs)) (c:Cls X.K C) (n:NoAttr X.K C f) (hl:fs.length<1000) (ry:RelV y u)
  (h:∀s',Inv X pins σ (upd H a (.ins C dx (ZdU f y fs))) s'->Q () s'):wpAny (model X.prog X.w) A (setAttr (.ref a) f u) Q E s:=by
 obtain ⟨mA,O,r,wi,_,ho⟩:=ZlZ I.hok e
 have hz:(fs.map (·.1)).length<=sizeLine:=by rw [List.length_map,sizeLine_eq]; omega
 refine Zqy I.kIn O c.sa c.po n.taker c.hd wi hz fun h' O' sb=>h _ ?_
 have hd:∃o,h'.get? dx=some o:=let ⟨o,_,_,e',_⟩:=O'.ns; ⟨o,e'⟩
 refine I.write (x:=a) (e:=dx) (by rw [e]; exact True.intro) (.inr ho) (fun b q hb z=>(sb.2 b hb).trans z) hd ?_
 refine ⟨by rw [ZM O.ne]; exact ho,?_,O.ne,O'.obj,_,O'.ns,fun g=>?_,fun g hg=>?_⟩
 ·have:=Zg3 f y fs; omega
 ·show RelO ((ZdU f y fs).lookup g) (if g=f then some u else mA g)
  rw [Zg2]
  by_cases q:g=f
  ·rw [if_pos q,if_pos q]; exact ry
  ·rw [if_neg q,if_neg q]; exact r g
 ·by_cases q:g=f
  ·rw [q]; exact (ZgL f y fs).1
  ·refine (ZgL f y fs).2 g (wi g fun z=>hg ?_)
   show (if g=f then some u else mA g)=none
   rw [if_neg q]; exact z
theorem Inv.made (I:Inv X pins σ H s):Inv X pins σ (upd (upd H s.heap.objs.size (.own (s.heap.objs.size+1))) (s.heap.objs.size+1) (.ins C s.heap.objs.size []))
  { s with heap:=(s.heap.push PySem.W.emptyDict).push (PySem.W.instObj C s.heap.objs.size) }:=by
 have e1:(s.heap.push PySem.W.emptyDict).get? s.heap.objs.size=some PySem.W.emptyDict:=Heap.get?_push_size s.heap rfl
 have e2:((s.heap.push PySem.W.emptyDict).push (PySem.W.instObj C s.heap.objs.size)).get? (s.heap.objs.size+1)=some (PySem.W.instObj C s.heap.objs.size):=by
  have:=Heap.get?_push_size (s.heap.push PySem.W.emptyDict) (o:=PySem.W.instObj C s.heap.objs.size) rfl
  rwa [Heap.size_push] at this
 have e3:(s.heap.push PySem.W.emptyDict).Ns s.heap.objs.size (fun _=>none):=⟨PySem.W.emptyDict,#[],_,e1,rfl,(fun e he=>absurd he (by simp)),fun _=>rfl⟩
 have I1:=I.laid (a:=s.heap.objs.size) (o:=.own (s.heap.objs.size+1)) (h':=s.heap.push PySem.W.emptyDict) (t':=s.toks) (fun b u q=>Heap.get?_push_of_some _ q) (Yb _) ⟨_,e1⟩
 refine I1.laid (a:=s.heap.objs.size+1) (o:=.ins C s.heap.objs.size []) (t':=s.toks) (fun b u q=>Heap.get?_push_of_some _ q) (Nat.le_of_eq (Heap.size_push _ _)) ?_
 have ne:s.heap.objs.size≠s.heap.objs.size+1:=Yn (YC _)
 refine ⟨by rw [ZM ne,Z9],YG _,ne,e2,fun _=>none,(Heap.Ns1.of_empty e3).at fun o q=>Heap.get?_push_of_some _ q,fun _=>True.intro,fun y hy=>absurd rfl hy⟩
theorem ZrB {prog:Program} {w:World} {env:Env} {e:Expr} {f:Str} {pos:Pos} {s:Shared} {Q:Value->Shared->Prop} (hb:attributeBase e f env (eval e env)=eval e env)
  (h:wpAny (model prog w) A (eval e env) (fun o s₁=>wpAny (model prog w) A (getAttr o f true) Q E s₁) E s):wpAny (model prog w) A (eval (.Attribute e f pos) env) Q E s:=
 Attribute_any_ h (by rw [arm_eval_Attribute,hb])
end
def Zzw (K:PySem.W.Frag) (ta:TE) (f:Str):TE:=fun σ H Q=>ta σ H fun x H1=>∃a C dx fs v,x=.ref a/\H1 a=some (.ins C dx fs)/\Cls K C/\NoAttr K C f/\fs.lookup f=some v/\Q v H1
def ZzD (K:PySem.W.Frag) (ta tv:TE) (f:Str):TS:=fun D σ H=>tv σ H fun y H1=>ta σ H1 fun x H2=>∃a C dx fs,x=.ref a/\H2 a=some (.ins C dx fs)/\Cls K C/\NoAttr K C f/\fs.length<1000/\
 D.nx σ (upd H2 a (.ins C dx (ZdU f y fs)))
section
variable {X:Cx} {o e value:Expr} {f:Str} {pos pos' tpos:Pos} {ta tv:TE}
theorem Zun (he:PE X e ta) (hb:attributeBase e f X.env (eval e X.env)=eval e X.env):PE X (.Attribute e f pos) (Zzw X.K ta f):=by
 intro pins s σ H Q I h
 refine ZrB hb (thn (he pins s σ H _ I h) fun u s1 ⟨x,H1,I1,rx,a,C,dx,fs,v,ex,ea,c,n,l,q⟩=>?_)
 subst ex
 obtain rfl:u=Value.ref a:=rx
 exact Zlb I1 ea c n l fun u' s2 I2 ru=>⟨v,H1,I2,ru,q⟩
theorem Zub (ha:PE X o ta) (hv:PE X value tv) (hs:swapsWith value (some (.Attribute o f pos')) pos.line X.env=pure false):PS X (.Assign [.Attribute o f pos'] value pos) (ZzD X.K ta tv f):=by
 intro pins s σ H D I h
 refine plainObj_wpAny_Assign_Attribute (thn (hv pins s σ H _ I h) fun u s1 ⟨y,H1,I1,ry,q⟩=>thn (ha pins s1 σ H1 _ I1 q) fun ov s2 ⟨x,H2,I2,rx,a,C,dx,fs,ex,ea,c,n,l,q2⟩=>?_) hs
 subst ex
 obtain rfl:ov=Value.ref a:=rx
 exact ZkW I2 ea c n l ry fun s3 I3=>⟨σ,_,I3,q2⟩
end
section
variable {X:Cx} {pins:List (Addr×Obj)} {σ:St} {H:Hp} {s:Shared} {A:Around} {E:Value->Shared->Prop} {Q:Value->Shared->Prop} {c:Value} {b:Bool}
inductive Zih (K:PySem.W.Frag) (H:Hp):V->Value->Prop where
 | non:Zih K H .non (.type "NoneType")
 | bl (x:Bool):Zih K H (.bl x) (.type "bool")
 | int (i:Int):Zih K H (.int i) (.type "int")
 | str (x:Str):Zih K H (.str x) (.type "str")
 | flt (x:UInt64):Zih K H (.flt x) (.type "float")
 | lst {a:Addr} {xs:List V} (e:H a=some (.lst xs)):Zih K H (.ref a) (.type "list")
 | frz {a:Addr} {o:Obj} {xs:List V} (e:H a=some (.frz o (.lst xs))):Zih K H (.ref a) (.type "list")
 | tup {a:Addr} {xs:List V} (e:H a=some (.tup xs)):Zih K H (.ref a) (.type "tuple")
 | dK {a:Addr} {kvs:List (Key×V)} (e:H a=some (.dK kvs)):Zih K H (.ref a) (.type "dict")
 | dT {a:Addr} {kvs:List (List Key×V)} (e:H a=some (.dT kvs)):Zih K H (.ref a) (.type "dict")
 | ins {a C dx:Addr} {fs:List (Str×V)} (e:H a=some (.ins C dx fs)) (cl:Cls K C) (ha:PySem.W.findIn K (.ref C) "__class__"=some (some (.builtin "object.__class__")))
   (hn:PySem.W.specialIn K (.builtin "object.__class__") "__get__"=some (some (.builtin "getset_descriptor.__get__"))) (htk:PySem.W.takesIn K (.builtin "object.__class__")=some true)
   (hm:PySem.W.mroIn K C (.type "object")=some true):Zih K H (.ref a) (.ref C)
end
structure Room (k:Nat) (A:Around):Prop where
 hd:A.handled=none
 dp:A.depth+3*k+5<recursionLimit
 un:A.units+16*k+200<cLine
theorem Room.mono {j k:Nat} {A:Around} (r:Room k A) (h:j<=k):Room j A:=⟨r.hd,by have:=r.dp; omega,by have:=r.un; omega⟩
theorem Room.deeper {k:Nat} {A:Around} (r:Room (k+1) A) (env:Env):Room k (A.deeper env):=
 ⟨r.hd,by have:=r.dp; show A.depth+1+3*k+5<_; omega,by have:=r.un; show A.units+3+16*k+200<_; omega⟩
theorem Zk6 {A:Around} {C:Addr} {us:List Value} {kw:List (Str×Value)}:(A.under (.builtin "type.__call__" ⟨.ref C::us,kw⟩)).depth=A.depth+1:=by
 first | rfl | simp [Around.under,Code.weight,Code.isCreation,Code.isGuard,Code.isCaller,Code.frames,Code.isFrame,guardIds]
theorem Zk5 {A:Around} {C:Addr} {us:List Value} {kw:List (Str×Value)}:(A.under (.builtin "type.__call__" ⟨.ref C::us,kw⟩)).units=A.units+1:=by
 first | rfl | simp [Around.under,Code.cUnits,Code.frames,Code.isFrame]
theorem Room.make {k:Nat} {A:Around} (r:Room (k+1) A) (C:Addr) (us:List Value) (kw:List (Str×Value)):Room k (A.under (.builtin "type.__call__" ⟨.ref C::us,kw⟩)):=
 ⟨r.hd,by have:=r.dp; rw [Zk6]; omega,by have:=r.un; rw [Zk5]; omega⟩
theorem Room.depth {k:Nat} {A:Around} (r:Room k A):A.depth<recursionLimit:=by have:=r.dp; omega
theorem Room.units {k:Nat} {A:Around} (r:Room k A):A.units+64<cLine:=by have:=r.un; omega
def Zni:TA:=fun _ H Q=>Q [] H
def Zlv (ta:TE) (tr:TA):TA:=fun σ H Q=>ta σ H fun x H1=>tr σ H1 fun xs H2=>Q (x::xs) H2
section
variable {X:Cx} {e:Expr} {es:List Expr} {te:TE} {t:TA} {pos:Pos}
theorem Zjh:PA X [] Zni:=fun _ _ _ _ H Q I h=>Calls.spliced_nil ⟨[],H,I,.nil,h⟩
theorem Zhp (ha:PE X e te) (hr:PA X es t) (hs:starEach (e::es) X.env=(false,eval e X.env)::starEach es X.env:=by rfl):PA X (e::es) (Zlv te t):=by
 intro pos pins s σ H Q I h
 rw [hs]
 show wpAny _ _ (spliced ((false,eval e X.env)::backTo pos (starEach es X.env))) _ _ s
 refine Calls.spliced_cons (thn (ha pins s σ H _ I h) fun u s1 ⟨x,H1,I1,r1,q1⟩=>?_)
 exact thn (hr pos pins s1 σ H1 _ I1 q1) fun us s2 ⟨xs,H2,I2,r2,q2⟩=>⟨x::xs,H2,I2,.cons r1 r2,q2⟩
def Zzn (t:TA):TE:=fun σ H Q=>t σ H fun xs H1=>xs.length<=sizeLine/\∀p,H1 p=none->Q (.ref p) (upd H1 p (.tup xs))
def Zzt (t:TA):TE:=fun σ H Q=>t σ H fun xs H1=>xs.length<=sizeLine/\∀p,H1 p=none->Q (.ref p) (upd H1 p (.lst xs))
theorem Zui {x1} (h:PA X es t):PE X (.Tuple es x1 pos) (Zzn t):=by
 intro pins s σ H Q I hq
 refine wpAny_Tuple_spliced (thn (h pos pins s σ H _ I hq) fun us s1 ⟨xs,H1,I1,r,z,q⟩=>⟨by rw [<-r.length]; exact z,?_⟩)
 have hf:H1 s1.heap.objs.size=none:=I1.hok.fresh (Yb _)
 refine ⟨.ref s1.heap.objs.size,upd H1 s1.heap.objs.size (.tup xs),I1.laid (t':=s1.toks) (fun b u e=>Heap.get?_push_of_some _ e) (Yb _) ?_,rfl,q _ hf⟩
 exact ⟨z,us,r,⟨_,Heap.get?_push_size _ rfl,rfl,_,rfl⟩⟩
theorem Zk1 (h:PA X es t):PE X (.List es pos) (Zzt t):=by
 intro pins s σ H Q I hq
 refine wpAny_List_spliced (thn (h pos pins s σ H _ I hq) fun us s1 ⟨xs,H1,I1,r,z,q⟩=>⟨by rw [<-r.length]; exact z,?_⟩)
 have hf:H1 s1.heap.objs.size=none:=I1.hok.fresh (Yb _)
 refine ⟨.ref s1.heap.objs.size,upd H1 s1.heap.objs.size (.lst xs),I1.laid (t':=s1.toks) (fun b u e=>Heap.get?_push_of_some _ e) (Yb _) ?_,rfl,q _ hf⟩
 exact ⟨z,us,0,r,Heap.get?_push_size _ rfl⟩
end
abbrev Sp:=List V->Hp->VK->XK->Prop
abbrev CXT:=List Env->Hp->Shared->XK->Value->Shared->Prop
structure Env0 (P:Program) (w:World) (K:PySem.W.Frag) (mg:Str->Option Value) (base:Heap) (A:Around) (outer:List Env) (s:Shared) (H:Hp):Prop where
 frames:A.frames=some outer
 mod:Mod K mg base
 bs:∀b o,base.get? b=some o->s.heap.get? b=some o/\H b=none
 bsz:base.objs.size<=s.heap.objs.size
 funs:s.heap.FunFrames base outer
 frf:∀b∈frs outer,H b=none
 hok:HOk P w H s.heap
 bare:AllBare s.gens
def CE (outer:List Env) (P:Program) (w:World) (H:Hp) (s:Shared) (Q:VK) (u:Value) (s':Shared):Prop:=
 ∃v H',s'.os=s.os/\AllBare s'.gens/\Un (frs outer) [] H H' s.heap s'.heap/\HOk P w H' s'.heap/\RelV v u/\Q v H'
def CR (CX:CXT) (outer:List Env) (P:Program) (w:World) (H:Hp) (s:Shared) (Q:VK) (E:XK) (r:Result) (s':Shared):Prop:=
 match r with
 | .ok (.ret u)=>CE outer P w H s Q u s'
 | .ok _=>False
 | .error e=>CX outer H s E e s'
structure FnOk (P:Program) (w:World) (K:PySem.W.Frag) (mg:Str->Option Value) (base:Heap) (CX:CXT) (k:Nat) (f:Addr) (fd:FuncData) (ps:List Str) (sp:Sp):Prop where
 len:∀vs H Q E,sp vs H Q E->vs.length=ps.length
 run:∀(A:Around) (outer:List Env) (s:Shared) (H:Hp) (args:Args) (us:List Value) (vs:List V) (Q:VK) (E:XK),Room k A->Env0 P w K mg base A outer s H->BindsTo s fd args (ps.zip us)->Vals vs us->sp vs H Q E->
  codeAny (model P w) A (.call (.ref f) args) (CR CX outer P w H s Q E) s
theorem FnOk.imp {P:Program} {w:World} {K:PySem.W.Frag} {mg:Str->Option Value} {base:Heap} {CX:CXT} {k:Nat} {f:Addr} {fd:FuncData} {ps:List Str} {sp sp':Sp} (F:FnOk P w K mg base CX k f fd ps sp)
  (h:∀vs H Q E,sp' vs H Q E->sp vs H Q E):FnOk P w K mg base CX k f fd ps sp':=
 ⟨fun vs H Q E q=>F.len vs H Q E (h _ _ _ _ q),fun A outer s H args us vs Q E hr he hb hv hs=>F.run A outer s H args us vs Q E hr he hb hv (h _ _ _ _ hs)⟩
theorem Env0.make {P:Program} {w:World} {K:PySem.W.Frag} {mg:Str->Option Value} {base:Heap} {A:Around} {outer:List Env} {s:Shared} {H:Hp} (e:Env0 P w K mg base A outer s H) (C:Addr) (us:List Value) (kw:List (Str×Value)) :
  Env0 P w K mg base (A.under (.builtin "type.__call__" ⟨.ref C::us,kw⟩)) outer s H:=⟨by first | exact e.frames | (simpa [Around.under,Code.envs,Code.isFrame,pushEnvs] using e.frames),e.mod,e.bs,e.bsz,e.funs,e.frf,e.hok,e.bare⟩
section
variable {X:Cx} {pins:List (Addr×Obj)} {σ:St} {H:Hp} {s s':Shared}
theorem Inv.env0 (I:Inv X pins σ H s):Env0 X.prog X.w X.K X.mg X.base X.A X.stack s H:=
 ⟨I.ok.frames,I.ok.mod,I.bs,Yu I.ok.bsz I.sz,I.stack,I.stkFree,I.hok,I.bare⟩
theorem Inv.after {Q:VK} {u:Value} (I:Inv X pins σ H s) (h:CE X.stack X.prog X.w H s Q u s'):EP X pins σ Q u s':=by
 obtain ⟨v,H',os,bare,un,hok,r,q⟩:=h
 obtain ⟨hh,g,d,t,os'⟩:=s'
 obtain rfl:os'=s.os:=os
 exact ⟨v,H',I.call (h':=hh) (g':=g) (d':=d) (t':=t) (ch:=[]) un hok bare (fun b z=>absurd z (by simp)),r,q⟩
end
def ZrV (sp:Sp) (dvs:List V) (E:XK) (t:TA):TE:=fun σ H Q=>t σ H fun vs H1=>sp (vs++dvs) H1 Q E
def ZrT (C:Addr) (sp:Sp) (dvs:List V) (E:XK) (t:TA):TE:=fun σ H Q=>t σ H fun vs H1=>∀x dx,H1 x=none->H1 dx=none->dx≠x->
 sp (.ref x::(vs++dvs)) (upd (upd H1 dx (.own x)) x (.ins C dx [])) (fun v H2=>v=.non/\Q (.ref x) H2) E
def Binds (K:PySem.W.Frag) (fd:FuncData) (ps:List Str) (ds:List Value):Prop:=
 ∀(s:Shared) (us:List Value),K.In s.heap->(us++ds).length=ps.length->BindsTo s fd ⟨us,[]⟩ (ps.zip (us++ds))
theorem Binds.all {K:PySem.W.Frag} {fd:FuncData} {ps:List Str} (h:∀us:List Value,us.length=ps.length->bindArgs fd ⟨us,[]⟩=pure (ps.zip us)):Binds K fd ps []:=fun s us _ hl=>by
 rw [YV] at hl ⊢
 exact .of_eq (h us hl)
def ZgW (CX:CXT) (X:Cx) (E:XK):Prop:=∀(pins:List (Addr×Obj)) (σ:St) (H:Hp) (s:Shared) (e:Value) (s':Shared),Inv X pins σ H s->CX X.stack H s E e s'->X.xe e s'
section
variable {X:Cx} {CX:CXT} {k:Nat} {f C:Addr} {fd:FuncData} {ps:List Str} {sp:Sp} {dvs:List V} {ds:List Value} {E:XK} {x m:Str} {p pos apos:Pos} {e o:Expr} {es:List Expr} {ta:TE} {t:TA}
theorem Zt2 {pins:List (Addr×Obj)} {σ:St} {H:Hp} {s:Shared} {Q:VK} {us:List Value} {vs:List V} (F:FnOk X.prog X.w X.K X.mg X.base CX k f fd ps sp) (hr:Room k X.A) (hb:Binds X.K fd ps ds) (hd:Vals dvs ds) (hx:ZgW CX X E)
  (I:Inv X pins σ H s) (r:Vals vs us) (h:sp (vs++dvs) H Q E):wpAny (model X.prog X.w) X.A (call (.ref f) us) (EP X pins σ Q) X.xe s:=by
 have r2:Vals (vs++dvs) (us++ds):=r.append hd
 have hl:(us++ds).length=ps.length:=by rw [<-r2.length]; exact F.len _ _ _ _ h
 refine wpAny_call (codeAny_mono (F.run X.A X.stack s H ⟨us,[]⟩ (us++ds) (vs++dvs) Q E hr I.env0 (hb s us I.kIn hl) r2 h) fun r s' hq=>?_)
 cases r with
 | error e=>exact hx pins σ H s e s' I hq
 | ok fl=>
  cases fl with
  | ret u=>exact I.after hq
  | next=>exact False.elim hq
  | brk=>exact False.elim hq
  | cont=>exact False.elim hq
theorem ZqX (F:FnOk X.prog X.w X.K X.mg X.base CX k f fd ps sp) (hr:Room k X.A) (hg:Gl X x) (hm:X.mg x=some (.ref f)) (hk:PySem.W.keepIn X.K (.ref f)=true) (hb:Binds X.K fd ps ds) (hd:Vals dvs ds) (hx:ZgW CX X E)
  (ha:PA X (e::es) t) (hdb:(x == ("__debug__":Str))=false:=by decide) (he:starEach (e::es) X.env=(false,eval e X.env)::starEach es X.env:=by rfl) (hpl:(backTo pos (starEach es X.env)).any (·.1)=false:=by rfl) :
  PE X (.Call (.Name x p) (e::es) [] pos) (ZrV sp dvs E t):=by
 intro pins s σ H Q I h
 refine wpAny_Call_Name_kw (Zhr I hg hm ?_ hdb)
 refine PySem.W.callWith_K (h₀:=X.base) I.ok.mod.kin hk (thn (ha pos pins s σ H _ I h) fun us s1 ⟨vs,H1,I1,r,q⟩=>⟨I1.kIn,?_⟩) he hpl
 exact Zt2 F hr hb hd hx I1 r q
structure Mk (K:PySem.W.Frag) (C f:Addr):Prop where
 makes:PySem.W.makesIn K C=true
 init:PySem.W.findIn K (.ref C) "__init__"=some (some (.ref f))
 fn:PySem.W.isFn K (.ref f)=true
 kp:PySem.W.keepIn K (.ref C)=true
theorem Zj1 {pins:List (Addr×Obj)} {σ:St} {H:Hp} {s:Shared} {Q:VK} {us:List Value} {vs:List V} (M:Mk X.K C f) (F:FnOk X.prog X.w X.K X.mg X.base CX k f fd ps sp) (hr:Room (k+1) X.A) (hb:Binds X.K fd ps ds) (hd:Vals dvs ds)
  (hx:ZgW CX X E) (I:Inv X pins σ H s) (r:Vals vs us)
  (h:∀x dx,H x=none->H dx=none->dx≠x->sp (.ref x::(vs++dvs)) (upd (upd H dx (.own x)) x (.ins C dx [])) (fun v H2=>v=.non/\Q (.ref x) H2) E) :
  wpAny (model X.prog X.w) X.A (call (.ref C) us) (EP X pins σ Q) X.xe s:=by
 have hq:=h (s.heap.objs.size+1) s.heap.objs.size (I.hok.fresh (Y7 _)) (I.hok.fresh (Yb _)) (Yn (YC _))
 have I2:=Inv.made (C:=C) I
 have r2:Vals (V.ref (s.heap.objs.size+1)::(vs++dvs)) (Value.ref (s.heap.objs.size+1)::(us++ds)):=.cons rfl (r.append hd)
 have hl:(Value.ref (s.heap.objs.size+1)::us++ds).length=ps.length:=by
  have e:=r2.length
  rw [F.len _ _ _ _ hq] at e
  exact e.symm
 refine wpAny_call (Zn8 (f:=f) I.kIn M.makes M.init (beq_iff_eq.mp M.fn) (codeAny_mono (F.run _ X.stack _ _ ⟨Value.ref (s.heap.objs.size+1)::us,[]⟩ (Value.ref (s.heap.objs.size+1)::(us++ds)) _ _ E (hr.make C us [])
  (I2.env0.make C us []) (hb _ (Value.ref (s.heap.objs.size+1)::us) I2.kIn hl) r2 hq) fun r s' hq'=>?_))
 cases r with
 | error e=>exact hx pins σ _ _ e s' I2 hq'
 | ok fl=>
  cases fl with
  | ret u=>
   obtain ⟨v,H',I3,rv,ev,q3⟩:=I2.after hq'
   subst ev
   exact ⟨rv,⟨V.ref (s.heap.objs.size+1),H',I3,rfl,q3⟩⟩
  | next=>exact False.elim hq'
  | brk=>exact False.elim hq'
  | cont=>exact False.elim hq'
theorem ZqS (M:Mk X.K C f) (F:FnOk X.prog X.w X.K X.mg X.base CX k f fd ps sp) (hr:Room (k+1) X.A) (hg:Gl X x) (hm:X.mg x=some (.ref C)) (hb:Binds X.K fd ps ds) (hd:Vals dvs ds) (hx:ZgW CX X E)
  (ha:PA X (e::es) t) (hdb:(x == ("__debug__":Str))=false:=by decide) (he:starEach (e::es) X.env=(false,eval e X.env)::starEach es X.env:=by rfl) (hpl:(backTo pos (starEach es X.env)).any (·.1)=false:=by rfl) :
  PE X (.Call (.Name x p) (e::es) [] pos) (ZrT C sp dvs E t):=by
 intro pins s σ H Q I h
 refine wpAny_Call_Name_kw (Zhr I hg hm ?_ hdb)
 refine PySem.W.callWith_K (h₀:=X.base) I.ok.mod.kin M.kp (thn (ha pos pins s σ H _ I h) fun us s1 ⟨vs,H1,I1,r,q⟩=>⟨I1.kIn,?_⟩) he hpl
 exact Zj1 M F hr hb hd hx I1 r q
theorem ZnI (M:Mk X.K C f) (F:FnOk X.prog X.w X.K X.mg X.base CX k f fd ps sp) (hr:Room (k+1) X.A) (hg:Gl X x) (hm:X.mg x=some (.ref C)) (hb:Binds X.K fd ps ds) (hd:Vals dvs ds) (hx:ZgW CX X E)
  (hdb:(x == ("__debug__":Str))=false:=by decide):PE X (.Call (.Name x p) [] [] pos) (ZrT C sp dvs E Zni):=by
 intro pins s σ H Q I h
 refine wpAny_Call_Name_kw (Zhr I hg hm ?_ hdb)
 exact PySem.W.callWith_K0 I.kIn M.kp (Zj1 (us:=[]) M F hr hb hd hx I .nil h)
end
section
variable {X:Cx} {CX:CXT} {k:Nat} {f C:Addr} {fd:FuncData} {ps ks:List Str} {sp:Sp} {E:XK} {x m:Str} {p pos apos kpos:Pos} {e o:Expr} {es:List Expr} {kws:List Keyword} {te ta:TE} {t tk:TA} {nm:Option Str}
structure ZAe (K:PySem.W.Frag) (fd:FuncData) (ps ks:List Str) (g:List Value->List Value->List Value) (gV:List V->List V->List V):Prop where
 to:∀(s:Shared) (us ws:List Value),K.In s.heap->(g us ws).length=ps.length->BindsTo s fd ⟨us,ks.zip ws⟩ (ps.zip (g us ws))
 rel:∀{vs:List V} {us:List Value} {zs:List V} {ws:List Value},Vals vs us->Vals zs ws->Vals (gV vs zs) (g us ws)
variable {g:List Value->List Value->List Value} {gV:List V->List V->List V}
end
structure Zp (N P:List Str) (sc:Scope):Prop where
 kind:sc.kind=.function
 co:sc.isCoroutine=false
 gen:sc.isGenerator=false
 nd:N.Nodup
 pre:N.take P.length=P
 par:∀x∈P,sc.names.lookup x=some .local\/sc.names.lookup x=some .cell
 nofree:∀y∈sc.names,y.2≠.free
theorem ZiT {kindOf:Str->Option NameKind} {x:Str}:∀{binds:List (Str×Value)} {m:Str->Option Value},(∀v,(x,v)∉binds)->bindL kindOf binds m x=m x
 | [],_,_=>rfl
 | (n,v)::r,m,h=>by
  unfold bindL
  rw [ZiT fun w hw=>h w (Yo _ hw)]
  split
  ·have:x≠n:=by rintro rfl; exact h v Ys
   simp [this]
  ·rfl
theorem ZiV {kindOf:Str->Option NameKind} {x:Str}:∀{binds:List (Str×Value)} {m:Str->Option Value},(∀v,(x,v)∉binds)->bindC kindOf binds m x=m x
 | [],_,_=>rfl
 | (n,v)::r,m,h=>by
  unfold bindC
  rw [ZiV fun w hw=>h w (Yo _ hw)]
  split
  ·rfl
  ·have:x≠n:=by rintro rfl; exact h v Ys
   simp [this]
theorem ZiU {kindOf:Str->Option NameKind} {x:Str} {v:Value}:∀{P:List Str} {vs:List Value} {i:Nat} {m:Str->Option Value},P.Nodup->P[i]?=some x->vs[i]?=some v->kindOf x=some .local->
  bindL kindOf (P.zip vs) m x=some v
 | [],_,_,_,_,h,_,_=>by simp at h
 | _::_,[],_,_,_,_,h,_=>by simp at h
 | p::P,w::vs,0,m,nd,h1,h2,hk=>by
  simp at h1 h2; subst h1; subst h2
  show bindL kindOf ((p,w)::P.zip vs) m p=_
  unfold bindL
  rw [ZiT fun v hv=>(Ja.mp nd).1 (Jk hv).1,if_pos hk]
  simp
 | p::P,w::vs,i+1,m,nd,h1,h2,hk=>by
  show bindL kindOf ((p,w)::P.zip vs) m x=_
  unfold bindL
  exact ZiU (i:=i) (Ja.mp nd).2 (by simpa using h1) (by simpa using h2) hk
theorem ZiW {kindOf:Str->Option NameKind} {x:Str} {v:Value}:∀{P:List Str} {vs:List Value} {i:Nat} {m:Str->Option Value},P.Nodup->P[i]?=some x->vs[i]?=some v->kindOf x≠some .local->
  bindC kindOf (P.zip vs) m x=some v
 | [],_,_,_,_,h,_,_=>by simp at h
 | _::_,[],_,_,_,_,h,_=>by simp at h
 | p::P,w::vs,0,m,nd,h1,h2,hk=>by
  simp at h1 h2; subst h1; subst h2
  show bindC kindOf ((p,w)::P.zip vs) m p=_
  unfold bindC
  rw [ZiV fun v hv=>(Ja.mp nd).1 (Jk hv).1,if_neg hk]
  simp
 | p::P,w::vs,i+1,m,nd,h1,h2,hk=>by
  show bindC kindOf ((p,w)::P.zip vs) m x=_
  unfold bindC
  exact ZiW (i:=i) (Ja.mp nd).2 (by simpa using h1) (by simpa using h2) hk
noncomputable def Zez (N:List Str) (vs:List V):St:=vs.map some++List.replicate (N.length-vs.length) none
noncomputable def ZhX (CX:CXT) (P:Program) (w:World) (K:PySem.W.Frag) (mg:Str->Option Value) (base:Heap) (N:List Str) (qual:Str) (scope:Scope) (f:Addr) (cd:Value) (A:Around) (outer:List Env) (s:Shared) (H:Hp) (E:XK):Cx where
 prog:=P
 w:=w
 K:=K
 mg:=mg
 base:=base
 A:=A.deeper (envOfC qual scope s.heap.objs.size f cd)
 N:=N
 s₀:=s
 H₀:=H
 env:=envOfC qual scope s.heap.objs.size f cd
 outer:=outer
 stack:=envOfC qual scope s.heap.objs.size f cd::outer
 ex:=[]
 calm:=true
 fn:=fun _=>true
 pn:=[]
 xe:=fun e s'=>wpAny (model P w) (A.deeper (envOfC qual scope s.heap.objs.size f cd)) (leaving (envOfC qual scope s.heap.objs.size f cd) e) (fun _ s''=>CX outer H s E e s'') (fun e' s''=>CX outer H s E e' s'') s'
theorem ZkG {sc:Scope} {n:Nat} {x:Str} (h:sc.names.lookup x=some .cell):∃c,(cellsFrom n sc.names []).lookup x=some c:=by
 have q:=PySem.W.cellsFrom_some sc.names n [] (.inl h)
 exact Option.isSome_iff_exists.mp q
theorem ZmK {CX:CXT} {P:Program} {w:World} {K:PySem.W.Frag} {mg:Str->Option Value} {base:Heap} {N ps:List Str} {qual:Str} {scope:Scope} {f:Addr} {cd:Value} {A:Around} {outer:List Env} {s s1:Shared} {H:Hp} {E:XK} {us:List Value} {vs:List V}
  (S:Zp N ps scope) (hd:A.handled=none) (e0:Env0 P w K mg base A outer s H) (hl:vs.length=ps.length) (r:Vals vs us)
  (x:InCallC s s.heap.objs.size (bindL (envOfC qual scope s.heap.objs.size f cd).kindOf (ps.zip us) fun _=>none) (cellsFrom (s.heap.objs.size+1) scope.names []) (bindC (envOfC qual scope s.heap.objs.size f cd).kindOf (ps.zip us) fun _=>none) s1) :
  Inv (ZhX CX P w K mg base N qual scope f cd A outer s H E) [] (Zez N vs) H s1:=by
 have hpl:ps.length<=N.length:=by have:=congrArg List.length S.pre; rw [Yy] at this; omega
 obtain ⟨h1,tk,rfl,hk⟩:=x.done
 have noA:∀b:Addr,b∉(ZhX CX P w K mg base N qual scope f cd A outer s H E).ex:=fun b z=>absurd (show b∈([]:List Addr) from z) (by simp)
 refine ⟨⟨e0.mod,S.kind,rfl,rfl,Yb _,fun y z c h1 h2=>?_,fun y hy=>?_,fun y c _ h=>?_,fun _=>hd,Around.frames_deeper e0.frames,.inr ⟨rfl,rfl⟩,fun b z=>absurd z (noA b),e0.bs,e0.bsz,fun b _ _=>noA b,fun b z=>absurd z (noA b),e0.funs,e0.frf⟩,
  rfl,e0.bare,Un.kept hk,⟨_,x.toInCall.ns,fun i y v h1 h2 h3=>?_⟩,fun y c h=>⟨_,x.cell y c h⟩,e0.hok.fresh (Yb _),fun y c h=>?_,fun p hp=>absurd (show p∈([]:List (Addr×Obj)) from hp) (by simp),e0.hok.kept hk,?_⟩
 ·exact name_of_addr x.apart (PySem.mem_of_lookup h1) (PySem.mem_of_lookup h2)
 ·have hy:scope.names.lookup y=some .cell\/scope.names.lookup y=some .free:=hy
  rcases hy with hy | hy
  ·exact ZkG hy
  ·exact absurd rfl (S.nofree _ (PySem.mem_of_lookup hy))
 ·exact Nat.le_of_lt (x.above y c (PySem.mem_of_lookup h))
 ·have hi:i<vs.length:=by
   unfold Zez at h2
   by_cases hi:i<vs.length
   ·exact hi
   ·rw [YA (by simpa using hi)] at h2
    rw [List.getElem?_replicate] at h2
    split at h2<;>cases h2
  have ha:vs[i]?=some v:=by
   unfold Zez at h2
   rw [Yp (by simpa using hi),Yr] at h2
   cases e:vs[i]? with
   | none=>rw [e] at h2; cases h2
   | some a=>rw [e] at h2; cases h2; rfl
  obtain ⟨u,hu,rv⟩:=r.get ha
  have hp:ps[i]?=some y:=by
   rw [<-S.pre,List.getElem?_take_of_lt (by omega)]; exact h1
  have ndP:ps.Nodup:=by rw [<-S.pre]; exact S.nd.sublist (List.take_sublist _ _)
  refine ⟨u,rv,?_⟩
  rcases S.par y (List.mem_of_getElem? hp) with k | k
  ·exact .inl ⟨k,ZiU ndP hp hu k⟩
  ·obtain ⟨c,e⟩:=ZkG (n:=s.heap.objs.size+1) k
   refine .inr ⟨.inl k,c,e,?_⟩
   have q:=x.cell y c e
   rw [ZiW ndP hp hu (by show scope.names.lookup y≠_; rw [k]; decide)] at q
   exact q
 ·exact e0.hok.fresh (Nat.le_of_lt (x.above y c (PySem.mem_of_lookup h)))
 ·unfold Zez
  show _=N.length
  rw [Yj,List.length_map,List.length_replicate]
  omega
theorem ZwC {CX:CXT} {P:Program} {w:World} {K:PySem.W.Frag} {mg:Str->Option Value} {base:Heap} {k:Nat} {f:Addr} {name qual:Str} {params:Arguments} {body:List Stmt} {scope:Scope} {dV kV doc pm cdv ct oc:Value} {an od:Option Addr}
  {osl:Array (Option Value)} {N ps:List Str} {sp:Sp} (lk:K.lookup f=some ⟨oc,od,.func (PySem.W.fnOf name qual params body scope dV kV doc pm an cdv ct),osl⟩) (hcd:PySem.W.codeIn K cdv qual=true) (S:Zp N ps scope)
  (len:∀vs H Q E,sp vs H Q E->vs.length=ps.length)
  (hbody:∀(A:Around) (outer:List Env) (s:Shared) (H:Hp) (vs:List V) (Q:VK) (E:XK),Room k (A.deeper (envOfC qual scope s.heap.objs.size f cdv))->sp vs H Q E->
   ∃t,PSs (ZhX CX P w K mg base N qual scope f cdv A outer s H E) body t/\t { nx:=fun _ H'=>Q .non H',rt:=Q } (Zez N vs) H) :
  FnOk P w K mg base CX (k+1) f (PySem.W.fnOf name qual params body scope dV kV doc pm an cdv ct) ps sp:=by
 refine ⟨len,fun A outer s H args us vs Q E hr e0 hb r hsp=>?_⟩
 have hl:=len _ _ _ _ hsp
 have KX:K.In s.heap:=e0.mod.kin.keeps fun b o e=>(e0.bs b o e).1
 have lim:s.heap.NoLimit:=e0.mod.nolimit.keeps fun b o e=>(e0.bs b o e).1
 have hkind:∀y∈ps.zip us,scope.names.lookup y.1=some .local\/(scope.names.lookup y.1=some .cell/\((cellsFrom (s.heap.objs.size+1) scope.names []).lookup y.1).isSome=true):=fun ⟨n,v⟩ hy=>by
  rcases S.par n (Jk hy).1 with q | q
  ·exact .inl q
  ·exact .inr ⟨q,PySem.W.cellsFrom_some _ _ _ (.inl q)⟩
 refine codeAny_call_function hr.depth (KX _ _ lk) rfl S.co S.gen rfl (PySem.W.codeRec_of KX hcd) (hb _ _ _ _ ?_)
 refine wpAny_newFunctionEnv_cells S.kind hkind fun env he s1 x=>?_
 subst he
 refine ⟨lim.keeps x.toInCall.keep,codeAny_func ?_⟩
 obtain ⟨t,ht,hq⟩:=hbody A outer s H vs Q E (hr.deeper _) hsp
 have I:Inv (ZhX CX P w K mg base N qual scope f cdv A outer s H E) [] (Zez N vs) H s1:=ZmK S hr.hd e0 hl r x
 refine wpAny_mono (ht [] s1 (Zez N vs) H _ I hq) (fun fl s' hs=>?_) fun e s' hs=>hs
 have fin:∀{σ':St} {H':Hp} {v:V} {u:Value},Inv (ZhX CX P w K mg base N qual scope f cdv A outer s H E) [] σ' H' s'->RelV v u->Q v H'->CE outer P w H s Q u s':=
  fun {σ' H' v u} J rv q=>⟨v,H',J.os,J.bare,J.base,J.hok,rv,q⟩
 cases fl with
 | ret u=>
  obtain ⟨v,σ',H',J,rv,q⟩:=hs
  exact fin J rv q
 | next=>
  obtain ⟨σ',H',J,q⟩:=hs
  exact fin (v:=V.non) (u:=Value.none) J rfl q
 | brk=>
  obtain ⟨_,_,_,q⟩:=hs
  exact False.elim q
 | cont=>
  obtain ⟨_,_,_,q⟩:=hs
  exact False.elim q
section
variable {X:Cx} {x:Str} {p pos:Pos} {e:Expr} {es:List Expr} {t:TA} {id T:String} {r:List V->Hp->VK->Prop}
def tCB (r:List V->Hp->VK->Prop) (t:TA):TE:=fun σ H Q=>t σ H fun vs H1=>r vs H1 Q
theorem ZnP (hc:CallR X (.builtin id) r) (hg:Gl X x) (hm:X.mg x=none) (hv:bootBuiltins x=some (.builtin id)) (ha:PA X (e::es) t) (hn:x≠"__name__":=by decide) (hdb:(x == ("__debug__":Str))=false:=by decide)
  (he:starEach (e::es) X.env=(false,eval e X.env)::starEach es X.env:=by rfl) (hpl:(backTo pos (starEach es X.env)).any (·.1)=false:=by rfl):PE X (.Call (.Name x p) (e::es) [] pos) (tCB r t):=by
 intro pins s σ H Q I h
 refine wpAny_Call_Name_kw (Zjp I hg hm hv ?_ hn hdb)
 exact PyProof.Rows.callWith_builtin1 (thn (ha pos pins s σ H _ I h) fun us s1 ⟨vs,H1,I1,r1,q1⟩=>hc pins s1 σ H1 vs us Q I1 r1 q1) he hpl
theorem Zmw (hc:CallR X (.type T) r) (hg:Gl X x) (hm:X.mg x=none) (hv:bootBuiltins x=some (.type T)) (ha:PA X (e::es) t) (hn:x≠"__name__":=by decide) (hdb:(x == ("__debug__":Str))=false:=by decide)
  (he:starEach (e::es) X.env=(false,eval e X.env)::starEach es X.env:=by rfl) (hpl:(backTo pos (starEach es X.env)).any (·.1)=false:=by rfl):PE X (.Call (.Name x p) (e::es) [] pos) (tCB r t):=by
 intro pins s σ H Q I h
 refine wpAny_Call_Name_kw (Zjp I hg hm hv ?_ hn hdb)
 exact PyProof.Rows.callWith_type1 (thn (ha pos pins s σ H _ I h) fun us s1 ⟨vs,H1,I1,r1,q1⟩=>hc pins s1 σ H1 vs us Q I1 r1 q1) he hpl
end
end L2
namespace HT
open PySem PyProof.Rows
section
variable {prog:Program} {w:World} {A:Around} {E:Value->Shared->Prop} {s:Shared}
theorem cat_tup {t b:Addr} {vs ws:List Value} {Q:Value->Shared->Prop} (ht:IsTup s.heap t vs.toArray) (hb:IsTup s.heap b ws.toArray) (hv:vs≠[])
  (h1:ws=[]->Q (.ref t) s) (h2:ws≠[]->Q (.ref s.heap.objs.size) { s with heap:=s.heap.push { cls:=.type "tuple",data:=.seq (vs++ws).toArray } })
  (hsz:vs.length+ws.length<=sizeLine):wpAny (model prog w) A (binaryOp .Add (.ref t) (.ref b)) Q E s:=by
 obtain ⟨⟨cls,dd,data,sl⟩,ho,hc,n,hd⟩:=id ht
 obtain ⟨⟨cls2,dd2,data2,sl2⟩,ho2,hc2,n2,hd2⟩:=id hb
 simp only at hc hd hc2 hd2
 subst hc hd hc2 hd2
 have e:vs.toArray++ws.toArray=(vs++ws).toArray:=by simp
 by_cases hw:ws=[]
 ·exact concat_meets ⟨_,ho,rfl⟩ ⟨_,ho2,rfl⟩ noFill_tuple_add seq_tuple_add PySem.F.slot_tuple_add PySem.F.entry_tuple_add (PySem.F.args_tuple_add_2 _ _)
   (tuple_addW1 t b vs.toArray ws.toArray n n2 dd dd2 sl sl2 (by simpa using hv) (by simp [hw])) ⟨ho,ho2,h1 hw⟩
 ·refine concat_meets ⟨_,ho,rfl⟩ ⟨_,ho2,rfl⟩ noFill_tuple_add seq_tuple_add PySem.F.slot_tuple_add PySem.F.entry_tuple_add (PySem.F.args_tuple_add_2 _ _)
   (tuple_addW2 t b vs.toArray ws.toArray n n2 dd dd2 sl sl2 (by simpa using hv) (by simpa using hw) (by rw [Yd,Yd]; exact hsz)) ⟨ho,ho2,?_⟩
  rw [e]
  exact h2 hw
noncomputable def sIx (n d:Nat):Option Int->Nat
 | none=>d
 | some v=>if v<0 then (v+(n:Int)).toNat else min v.toNat n
theorem sIx_none (n d:Nat):sIx n d none=d:=rfl
theorem sIx_nat (n d k:Nat):sIx n d (some (k:Int))=min k n:=by
 show (if (k:Int)<0 then ((k:Int)+(n:Int)).toNat else min (k:Int).toNat n)=min k n
 rw [if_neg (by omega),Int.toNat_natCast]
theorem Zt1 (n d:Nat) (hd:d<=n) (o:Option Int):sIx n d o<=n:=by
 cases o with
 | none=>exact hd
 | some v=>
  show (if v<0 then (v+(n:Int)).toNat else min v.toNat n)<=n
  by_cases hv:v<0
  ·rw [if_pos hv]; omega
  ·rw [if_neg hv]; exact Nat.min_le_right _ _
theorem Zl3 (v:Int) (n d:Nat):(if v<0 then max (v+(n:Int)) 0 else min v (n:Int))=((sIx n d (some v):Nat):Int):=by
 show (if v<0 then max (v+(n:Int)) 0 else min v (n:Int))=(((if v<0 then (v+(n:Int)).toNat else min v.toNat n):Nat):Int)
 by_cases hv:v<0
 ·simp only [if_pos hv]; omega
 ·simp only [if_neg hv]; omega
theorem Zlg (lo hi:Option Int) (n:Nat):Builtin.Slice.sliceAdjust lo hi 1 (n:Int)=(((sIx n 0 lo:Nat):Int),((sIx n n hi:Nat):Int)):=by
 have h1:¬((1:Int)<0):=by omega
 unfold Builtin.Slice.sliceAdjust
 simp only [h1,if_false]
 refine Prod.ext ?_ ?_
 ·cases lo with
  | none=>rfl
  | some v=>exact Zl3 v n 0
 ·cases hi with
  | none=>rfl
  | some v=>exact Zl3 v n n
theorem Zk0 (i j:Nat):Builtin.Slice.slicePlaces (i:Int) (j:Int) 1=j-i:=by
 unfold Builtin.Slice.slicePlaces
 have h1:(1:Int) > 0:=by omega
 simp only [h1,if_true,Int.ediv_one]
 split<;>omega
theorem ZhF {v:Value} {o:Option Int} {Q:Option Int->Shared->Prop} (p:IsPart v o) (h:Q o s):wpAny (model prog w) A (Builtin.Slice.slicePartIndex v) Q E s:=by
 cases p with
 | none=>exact slicePart_none h
 | int i t=>exact slicePart_int h
theorem Zgy {sl:Addr} {vl vu:Value} {lo hi:Option Int} {n:Nat} {Q:Int×Int×Nat->Shared->Prop} (hs:s.heap.IsSliceOf sl vl vu .none) (pl:IsPart vl lo) (pu:IsPart vu hi)
  (h:Q (((sIx n 0 lo:Nat):Int),1,sIx n n hi-sIx n 0 lo) s):wpAny (model prog w) A (Builtin.Slice.sliceApplied (.ref sl) (pure (n:Int))) Q E s:=by
 obtain ⟨os,hos,hcs,hds⟩:=id hs
 unfold Builtin.Slice.sliceApplied Builtin.Slice.sliceFields
 refine wpAny_bind (wpAny_bind (wpAny_field hos hds (x:=vl) rfl (wpAny_bind (wpAny_field hos hds (x:=vu) rfl (wpAny_bind (wpAny_field hos hds (x:=.none) rfl (wpAny_pure ?_)))))))
 refine wpAny_bind (slicePart_none ?_)
 show wpAny _ _ (if ((1:Int) == 0)=true then _ else _) _ _ s
 rw [if_neg (by decide)]
 refine wpAny_bind (ZhF pl (wpAny_bind (ZhF pu (wpAny_bind (wpAny_pure ?_)))))
 show wpAny _ _ (match Builtin.Slice.sliceAdjust lo hi 1 (n:Int) with | (lo,hi)=>pure (lo,(1:Int),Builtin.Slice.slicePlaces lo hi 1)) _ _ s
 rw [Zlg lo hi n]
 show wpAny _ _ (pure (((sIx n 0 lo:Nat):Int),(1:Int),Builtin.Slice.slicePlaces ((sIx n 0 lo:Nat):Int) ((sIx n n hi:Nat):Int) 1)) _ _ s
 rw [Zk0]
 exact wpAny_pure h
theorem ZnE (xs:Array Value) (i k:Nat):((List.range k).filterMap fun (m:Nat)=>xs[((i:Int)+(m:Int)*1).toNat]?).toArray=((xs.toList.drop i).take k).toArray:=by
 have e:(fun (m:Nat)=>xs[((i:Int)+(m:Int)*1).toNat]?)=fun m=>xs[i+m]?:=by
  funext m
  have:((i:Int)+(m:Int)*1).toNat=i+m:=by omega
  rw [this]
 rw [e]
 have:=pick_run xs i k
 rw [List.filterMap_map] at this
 have e2:((fun x=>xs[x]?)∘fun x=>i+x)=fun m=>xs[i+m]?:=rfl
 rw [e2] at this
 rw [this]
theorem getItem_tuple_cut {t sl:Addr} {items:Array Value} {vl vu:Value} {lo hi:Option Int} {Q:Value->Shared->Prop} (ht:IsTup s.heap t items) (hs:s.heap.IsSliceOf sl vl vu .none) (pl:IsPart vl lo) (pu:IsPart vu hi)
  (hw:¬(sIx items.size 0 lo=0/\sIx items.size items.size hi=items.size))
  (h:Q (.ref s.heap.objs.size) { s with heap:=s.heap.push { cls:=.type "tuple",data:=.seq ((items.toList.drop (sIx items.size 0 lo)).take (sIx items.size items.size hi-sIx items.size 0 lo)).toArray } })
  (hsz:items.size<=sizeLine):wpAny (model prog w) A (getItem (.ref t) (.ref sl)) Q E s:=by
 have htake:sizeOk (.seq ((items.toList.drop (sIx items.size 0 lo)).take (sIx items.size items.size hi-sIx items.size 0 lo)).toArray):=by
  show ((items.toList.drop (sIx items.size 0 lo)).take (sIx items.size items.size hi-sIx items.size 0 lo)).toArray.size<=sizeLine
  rw [Yd,Yy,Yv,Array.length_toList]
  omega
 have hj:sIx items.size items.size hi<=items.size:=Zt1 _ _ (Yb _) hi
 obtain ⟨os,hos,hcs,hds⟩:=id hs
 have hTs:s.TypeIs (.ref sl) "slice":=⟨os,hos,hcs⟩
 unfold getItem
 try with_reducible refine wpAny_holding ?_
 first | refine wpAny_bind (wpAny_pure ?_) | skip
 refine wpAny_bind (wpAny_sequenceKey ht.typeIs (by decide) ?_)
 refine wpAny_bind (wpAny_callSpecial?_slot (name:=Str.ofString "__getitem__") ht.typeIs PyProof.Rows.slot_tuple_getitem
  (wpAny_call_entry PyProof.Rows.slot_tuple_getitem ht.typeIs entry_tuple_getitem ?_ (args_tuple_getitem _ _)))
 show wpAny _ _ (Builtin.Tuple.tupleItemsOf (.ref t) >>= _) _ _ s
 refine wpAny_bind (tupleItemsOf_ ht ?_)
 refine wpAny_bind (wpAny_typeOf hTs ?_)
 rw [if_pos (by decide)]
 refine wpAny_bind (Zgy hs pl pu ?_)
 have hno:¬((((sIx items.size 0 lo:Nat):Int) == 0 && (1:Int) == 1 && (sIx items.size items.size hi-sIx items.size 0 lo) == items.size)=true):=by
  intro q
  rw [Yt,Yt] at q
  have q1:((sIx items.size 0 lo:Nat):Int)=0:=eq_of_beq q.1.1
  have q2:sIx items.size items.size hi-sIx items.size 0 lo=items.size:=eq_of_beq q.2
  exact hw ⟨by omega,by omega⟩
 show wpAny _ _ (if (((sIx items.size 0 lo:Nat):Int) == 0 && (1:Int) == 1 && (sIx items.size items.size hi-sIx items.size 0 lo) == items.size)=true then _ else _) _ _ s
 rw [if_neg hno,ZnE]
 first
  | exact wpAny_bind (m:=Builtin.Tuple.tupleExact _) (wpAny_newObj_type (wpAny_pure ⟨_,rfl,wpAny_pure h⟩) htake)
  | exact wpAny_bind (m:=Builtin.Tuple.tupleExact _) (wpAny_newObj_type (wpAny_bind (wpAny_pure (wpAny_pure ⟨_,rfl,wpAny_pure h⟩))) htake)
  | exact wpAny_bind (wpAny_bind (m:=Builtin.Tuple.tupleExact _) (wpAny_newObj_type (wpAny_pure (wpAny_pure ⟨_,rfl,wpAny_pure h⟩)) htake))
  | exact wpAny_bind (wpAny_bind (m:=Builtin.Tuple.tupleExact _) (wpAny_newObj_type (wpAny_pure ⟨_,rfl,wpAny_pure h⟩) htake))
end
end HT
namespace L2
open PySem PySem.Spec PyProof.Rows
abbrev TO:=St->Hp->(Option Int->Hp->Prop)->Prop
def PO (X:Cx) (e:Option Expr) (t:TO):Prop:=
 ∀(pins:List (Addr×Obj)) (s:Shared) (σ:St) (H:Hp) (Q:Option Int->Hp->Prop),Inv X pins σ H s->t σ H Q->
  wpAny (model X.prog X.w) X.A (evalPart e X.env) (fun u s'=>∃o H',Inv X pins σ H' s'/\IsPart u o/\Q o H') X.xe s
def Zqv:TO:=fun _ H Q=>Q none H
def ZvF (t:TE):TO:=fun σ H Q=>t σ H fun x H1=>∃i,x=.int i/\Q (some i) H1
section
variable {X:Cx} {e:Expr} {te:TE} {lo hi:Option Expr} {tl th:TO} {pos p2:Pos}
theorem ZqP:PO X none Zqv:=by
 intro pins s σ H Q I h
 rw [evalPart_none]
 exact wpAny_pure ⟨none,H,I,.none,h⟩
theorem ZqO (h:PE X e te):PO X (some e) (ZvF te):=by
 intro pins s σ H Q I hw
 rw [evalPart_some]
 refine thn (h pins s σ H _ I hw) fun u s1 ⟨x,H1,I1,r1,q1⟩=>?_
 obtain ⟨i,rfl,q⟩:=q1
 obtain ⟨t,rfl⟩:=r1
 exact ⟨some i,H1,I1,.int i t,q⟩
def SlR (X:Cx) (r:V->Option Int->Option Int->Hp->VK->Prop):Prop:=
 ∀(pins:List (Addr×Obj)) (s:Shared) (σ:St) (H:Hp) (x:V) (v vl vu:Value) (lo hi:Option Int) (sl:Addr) (Q:VK),Inv X pins σ H s->RelV x v->s.heap.IsSliceOf sl vl vu .none->IsPart vl lo->IsPart vu hi->r x lo hi H Q->
  ∃T id,typeLookup (.type T) "__getitem__"=pure (some (.builtin id))/\s.TypeIs v T/\wpAny (model X.prog X.w) X.A (getItem v (.ref sl)) (EP X pins σ Q) X.xe s
theorem SlR.or {r r':V->Option Int->Option Int->Hp->VK->Prop} (h:SlR X r) (h':SlR X r'):SlR X (fun x lo hi H Q=>r x lo hi H Q\/r' x lo hi H Q):=by
 intro pins s σ H x v vl vu lo hi sl Q I rx hs pl pu q
 rcases q with q | q
 ·exact h pins s σ H x v vl vu lo hi sl Q I rx hs pl pu q
 ·exact h' pins s σ H x v vl vu lo hi sl Q I rx hs pl pu q
def tSl (r:V->Option Int->Option Int->Hp->VK->Prop) (te:TE) (tl th:TO):TE:=fun σ H Q=>te σ H fun x H1=>tl σ H1 fun l H2=>th σ H2 fun u H3=>r x l u H3 Q
theorem ZnH {r:V->Option Int->Option Int->Hp->VK->Prop} (hr:SlR X r) (he:PE X e te) (hl:PO X lo tl) (hu:PO X hi th):PE X (.Subscript e (.Slice lo hi none p2) pos) (tSl r te tl th):=by
 intro pins s σ H Q I h
 refine Subscript_ (thn (he pins s σ H _ I h) fun v s1 ⟨x,H1,I1,r1,q1⟩=>?_)
 refine wpAny_Slice (thn (hl pins s1 σ H1 _ I1 q1) fun vl s2 ⟨l,H2,I2,pl,q2⟩=>thn (hu pins s2 σ H2 _ I2 q2) fun vu s3 ⟨u,H3,I3,pu,q3⟩=>?_)
 rw [evalPart_none]
 refine wpAny_pure ?_
 have I4:Inv X pins σ H3 { s3 with heap:=s3.heap.push { cls:=.type "slice",data:=.fields #[vl,vu,.none] } }:=I3.kept (t':=s3.toks) fun b ob q=>Heap.get?_push_of_some _ q
 obtain ⟨T,id,hT,ht,hg⟩:=hr pins { s3 with heap:=s3.heap.push { cls:=.type "slice",data:=.fields #[vl,vu,.none] } } σ H3 x v vl vu l u s3.heap.objs.size Q I4 r1 (Heap.IsSliceOf.new ..) pl pu q3
 show wpAny (model X.prog X.w) X.A (subscriptTail e (.Slice lo hi none p2) v (.ref s3.heap.objs.size)) (EP X pins σ Q) X.xe { s3 with heap:=s3.heap.push { cls:=.type "slice",data:=.fields #[vl,vu,.none] } }
 exact tail_any (ops:=[.ref s3.heap.objs.size,v]) ht hT hg (by with_unfolding_all rfl)
noncomputable def ZkE (xs:List V) (lo hi:Option Int):List V:=(xs.drop (HT.sIx xs.length 0 lo)).take (HT.sIx xs.length xs.length hi-HT.sIx xs.length 0 lo)
theorem Zg6 (xs:List V) (lo hi:Option Int):(ZkE xs lo hi).length<=xs.length:=by
 unfold ZkE
 rw [Yy,Yv]
 omega
def ZzE (K:PySem.W.Frag):V->Option Int->Option Int->Hp->VK->Prop:=fun x lo hi H Q=>∃a xs,x=.ref a/\SqT K H a xs/\
 ¬(HT.sIx xs.length 0 lo=0/\HT.sIx xs.length xs.length hi=xs.length)/\∀p,H p=none->Q (.ref p) (upd H p (.tup (ZkE xs lo hi)))
theorem ZtY:SlR X (ZzE X.K):=by
 intro pins s σ H x v vl vu lo hi sl Q I rx hs pl pu h
 obtain ⟨a,xs,rfl,hx,hw,q⟩:=h
 cases rx
 obtain ⟨its,r,ht,hz⟩:=I.tuple hx
 have hlen:its.toArray.size=xs.length:=by rw [Yd]; exact r.length.symm
 refine ⟨"tuple",_,PyProof.Rows.slot_tuple_getitem.lookup,ht.typeIs,?_⟩
 refine HT.getItem_tuple_cut ht hs pl pu (by rw [hlen]; exact hw) ?_ (by rw [hlen]; exact hz)
 rw [hlen]
 refine ⟨.ref s.heap.objs.size,_,I.laid (t':=s.toks) (o:=.tup (ZkE xs lo hi)) (fun b ob q=>Heap.get?_push_of_some _ q) (Yb _) ?_,rfl,q _ (I.hok.fresh (Yb _))⟩
 exact ⟨Yu (Zg6 xs lo hi) hz,_,(r.drop (HT.sIx xs.length 0 lo)).take (HT.sIx xs.length xs.length hi-HT.sIx xs.length 0 lo),IsTup.new _ _⟩
def ZvZ (K:PySem.W.Frag):R2:=fun x y H Q=>∃a b xs ys,x=.ref a/\y=.ref b/\SqT K H a xs/\SqT K H b ys/\xs≠[]/\xs.length+ys.length<=sizeLine/\
 (ys=[]->Q (.ref a) H)/\(ys≠[]->∀p,H p=none->Q (.ref p) (upd H p (.tup (xs++ys))))
theorem Vals.nil_iff {xs:List V} {us:List Value} (r:Vals xs us):us=[]↔xs=[]:=by
 cases r with
 | nil=>simp
 | cons _ _=>simp
theorem op_catT:OpR X (binaryOp .Add) (ZvZ X.K):=by
 intro pins s σ H x y v u Q I rx ry h
 obtain ⟨a,b,xs,ys,rfl,rfl,ha,hb,hx,hz,q1,q2⟩:=h
 cases rx
 cases ry
 obtain ⟨its,r1,p1,_⟩:=I.tuple ha
 obtain ⟨its2,r2,p2,_⟩:=I.tuple hb
 refine HT.cat_tup p1 p2 (fun z=>hx (r1.nil_iff.mp z)) (fun z=>⟨.ref a,H,I,rfl,q1 (r2.nil_iff.mp z)⟩) (fun z=>?_) (by rw [<-r1.length,<-r2.length]; exact hz)
 refine ⟨.ref s.heap.objs.size,_,I.laid (t':=s.toks) (o:=.tup (xs++ys)) (fun b ob q=>Heap.get?_push_of_some _ q) (Yb _) ?_,rfl,q2 (fun w=>z (r2.nil_iff.mpr w)) _ (I.hok.fresh (Yb _))⟩
 exact ⟨by rw [Yj]; exact hz,_,r1.append r2,IsTup.new _ _⟩
end
noncomputable def ixN (n:Nat) (i:Int):Option Nat:=if 0<=i then (if i<n then some i.toNat else none) else if -(n:Int)<=i then some (i+n).toNat else none
noncomputable def atI {α:Type} (xs:List α) (i:Int):Option α:=(ixN xs.length i).bind fun j=>xs[j]?
theorem ZlX {n:Nat} {i:Int} {j:Nat} (h:ixN n i=some j):seqIndex? i n=some j/\j<n/\-(n:Int)<=i/\i<n:=by
 unfold ixN at h
 by_cases h0:0<=i
 ·rw [if_pos h0] at h
  by_cases h1:i<n
  ·rw [if_pos h1] at h
   have e:i.toNat=j:=Option.some.inj h
   exact ⟨by rw [seqIndex_of h0 h1,e],by omega,by omega,h1⟩
  ·rw [if_neg h1] at h; cases h
 ·rw [if_neg h0] at h
  by_cases h1 : -(n:Int)<=i
  ·rw [if_pos h1] at h
   have e:(i+n).toNat=j:=Option.some.inj h
   exact ⟨by rw [seqIndex_neg (by omega) h1,e],by omega,h1,by omega⟩
  ·rw [if_neg h1] at h; cases h
theorem ZjH {α:Type} {xs:List α} {i:Int} {v:α} (h:atI xs i=some v):∃j,seqIndex? i xs.length=some j/\xs[j]?=some v/\j<xs.length/\-(xs.length:Int)<=i/\i<xs.length:=by
 unfold atI at h
 cases e:ixN xs.length i with
 | none=>rw [e] at h; cases h
 | some j=>
  rw [e] at h
  obtain ⟨h1,h2,h3,h4⟩:=ZlX e
  exact ⟨j,h1,h,h2,h3,h4⟩
theorem Zgr {α:Type} {xs:List α} {j:Nat} {v:α} (h:xs[j]?=some v):atI xs (j:Int)=some v:=by
 have hj:j<xs.length:=(Ye.mp h).1
 have e:ixN xs.length (j:Int)=some j:=by
  unfold ixN
  rw [if_pos (by omega),if_pos (by omega)]; simp
 unfold atI; rw [e]; exact h
def Zmc (b:Expr):Prop:=∀o i,subscripted b false o i=operate [o,i] (getItem o i)
def IxR (X:Cx) (r:R2):Prop:=
 ∀(value slice:Expr) (pins:List (Addr×Obj)) (s:Shared) (σ:St) (H:Hp) (x y:V) (v u:Value) (Q:VK),Inv X pins σ H s->RelV x v->RelV y u->r x y H Q->
  subscripted slice false v u=operate [v,u] (getItem v u)->wpAny (model X.prog X.w) X.A (subscriptTail value slice v u) (EP X pins σ Q) X.xe s
def MtR (X:Cx) (id:String) (r:V->List V->Hp->VK->Prop):Prop:=
 ∀(pins:List (Addr×Obj)) (s:Shared) (σ:St) (H:Hp) (x:V) (xs:List V) (v:Value) (us:List Value) (Q:VK),Inv X pins σ H s->RelV x v->Vals xs us->r x xs H Q->
  wpAny (model X.prog X.w) X.A (call (.builtin id) (v::us)) (EP X pins σ Q) X.xe s
section
variable {X:Cx} {a b:Expr} {ta tb:TE} {pos:Pos}
theorem IxR.or {r r':R2} (h:IxR X r) (h':IxR X r'):IxR X (fun x y H Q=>r x y H Q\/r' x y H Q):=by
 intro value slice pins s σ H x y v u Q I rx ry q hs
 rcases q with q | q
 ·exact h value slice pins s σ H x y v u Q I rx ry q hs
 ·exact h' value slice pins s σ H x y v u Q I rx ry q hs
theorem Zv7 {r:R2} (hr:IxR X r) (ha:PE X a ta) (hb:PE X b tb) (hs:Zmc b):PE X (.Subscript a b pos) (tOp r ta tb):=by
 intro pins s σ H Q I h
 exact Subscript_ (ZuP ha hb I h fun v u s2 x y H2 I2 rx ry q=>hr a b pins s2 σ H2 x y v u Q I2 rx ry q (hs _ _))
def ZvY (K:PySem.W.Frag):R2:=fun x y H Q=>∃p xs i v,x=.ref p/\y=.int i/\SqL K H p xs/\atI xs i=some v/\Q v H
def ZvW (K:PySem.W.Frag):R2:=fun x y H Q=>∃p xs i v,x=.ref p/\y=.int i/\SqT K H p xs/\atI xs i=some v/\Q v H
def ZvX:R2:=fun x y H Q=>∃z i c,x=.str z/\y=.int i/\z.length<=sizeLine/\atI z.cps.toList i=some c/\Q (.str ⟨#[c]⟩) H
theorem ix_list:IxR X (ZvY X.K):=by
 intro value slice pins s σ H x y v u Q I rx ry h hs
 obtain ⟨p,xs,i,z,rfl,rfl,hq,he,q⟩:=h
 cases rx
 obtain ⟨t,rfl⟩:=ry
 obtain ⟨its,r,pl,hz⟩:=I.list hq
 obtain ⟨j,h1,h2,h3,h4,h5⟩:=ZjH he
 obtain ⟨w,ew,rw'⟩:=r.get h2
 have hl:=r.length
 have hn:=ZfK
 have fin:EP X pins σ Q w s:=⟨z,H,I,rw',q⟩
 by_cases h0:0<=i
 ·have hj:i.toNat=j:=by
   rw [seqIndex_of h0 h5] at h1
   exact Option.some.inj h1
  exact item_listR pl.isList h0 (by omega) (by rw [hj]; simpa using ew) fin hs
 ·have hj:(i+(its.toArray.size:Int)).toNat=j:=by
   rw [seqIndex_neg (by omega) h4] at h1
   rw [Yd,<-hl]
   exact Option.some.inj h1
  exact subscriptTail_builtinR (x:=w) pl.isList.typeIs slot_list_getitem.lookup
   (wpAny_getItem_list_neg (Q:=fun r s'=>r=w/\EP X pins σ Q r s') pl.isList (by omega) (by rw [Yd]<;>omega) (by omega) (by rw [hj]; simpa using ew) ⟨rfl,fin⟩) hs
theorem ix_tup:IxR X (ZvW X.K):=by
 intro value slice pins s σ H x y v u Q I rx ry h hs
 obtain ⟨p,xs,i,z,rfl,rfl,hq,he,q⟩:=h
 cases rx
 obtain ⟨t,rfl⟩:=ry
 obtain ⟨its,r,pl,hz⟩:=I.tuple hq
 obtain ⟨j,h1,h2,h3,h4,h5⟩:=ZjH he
 obtain ⟨w,ew,rw'⟩:=r.get h2
 have hl:=r.length
 have hn:=ZfK
 have fin:EP X pins σ Q w s:=⟨z,H,I,rw',q⟩
 exact subscriptTail_builtinR (x:=w) pl.typeIs slot_tuple_getitem.lookup
  (getItem_tuple (j:=j) (Q:=fun r s'=>r=w/\EP X pins σ Q r s') pl (by omega) (by omega) (by rw [Yd,<-hl]; exact h1) (by simpa using ew) ⟨rfl,fin⟩) hs
theorem ZuJ:IxR X ZvX:=by
 intro value slice pins s σ H x y v u Q I rx ry h hs
 obtain ⟨z,i,c,rfl,rfl,hz,he,q⟩:=h
 obtain ⟨t,rfl⟩:=rx
 obtain ⟨t',rfl⟩:=ry
 obtain ⟨j,h1,h2,h3,h4,h5⟩:=ZjH he
 have hl:z.cps.toList.length=z.length:=by simp [Str.length]
 rw [hl] at h1 h4 h5
 have hn:=ZfK
 exact tail_any (typeIs_str s z t) slot_str_getitem.lookup (getItem_str (c:=c) (by
  have e1:decide (i < -(2 ^ 63:Int))=false:=decide_eq_false (by omega)
  have e2:decide (i≥2 ^ 63)=false:=decide_eq_false (by omega)
  rw [e1,e2,Bool.or_false]) (by rw [h1]; simpa using h2) ⟨.str ⟨#[c]⟩,H,I.tok _,⟨_,rfl⟩,q⟩) hs
def rIx (K:PySem.W.Frag):R2:=fun x y H Q=>ZvY K x y H Q\/ZvW K x y H Q\/ZvX x y H Q
theorem ZuK:IxR X (rIx X.K):=ix_list.or (ix_tup.or ZuJ)
theorem Zk4 (its:List Value) (n j:Nat) (u:Value):Obj.mapSeq (·.setIfInBounds j u) { cls:=.type "list",data:=.seq its.toArray n }={ cls:=.type "list",data:=.seq (its.set j u).toArray n }:=by
 simp [Obj.mapSeq]
theorem Inv.lst {pins:List (Addr×Obj)} {σ:St} {H:Hp} {s:Shared} {p:Addr} {xs:List V} (I:Inv X pins σ H s) (h:H p=some (.lst xs)) :
  ∃(its:List Value) (n:Nat),Vals xs its/\s.heap.get? p=some { cls:=.type "list",data:=.seq its.toArray n }/\xs.length<=sizeLine:=by
 obtain ⟨z,its,n,r,e⟩:=I.hok p _ h
 exact ⟨its,n,r,e,z⟩
theorem Inv.lstUpd {pins:List (Addr×Obj)} {σ:St} {H:Hp} {s:Shared} {p:Addr} {xs ys:List V} {its its':List Value} {n n':Nat} {f:Obj->Obj} (I:Inv X pins σ H s) (h:H p=some (.lst xs))
  (ho:s.heap.get? p=some { cls:=.type "list",data:=.seq its.toArray n }) (hf:f { cls:=.type "list",data:=.seq its.toArray n }={ cls:=.type "list",data:=.seq its'.toArray n' }) (r:Vals ys its') (hz:ys.length<=sizeLine) (t:Nat) :
  Inv X pins σ (upd H p (.lst ys)) { s with heap:=s.heap.update p f,toks:=t }:=by
 have e:(s.heap.update p f).get? p=some { cls:=.type "list",data:=.seq its'.toArray n' }:=by
  rw [Heap.get?_update_self f ho (by rw [hf]<;>rfl),hf]
 refine I.write (x:=p) (e:=p) (by rw [h]; trivial) (.inl rfl) (fun b u hb q=>(Heap.get?_update_other _ _ (Ne.symm hb)).trans q) ⟨_,e⟩ ?_
 exact ⟨hz,its',n',r,e⟩
def Zr0:V->V->V->Hp->(Hp->Prop)->Prop:=fun o i v H Q=>∃p xs k j,o=.ref p/\i=.int k/\H p=some (.lst xs)/\ixN xs.length k=some j/\Q (upd H p (.lst (xs.set j v)))
theorem ZeM:ZwN X Zr0:=by
 intro pins s σ H o i v ov iv u Q I ro ri rv h
 obtain ⟨p,xs,k,j,rfl,rfl,hp,hj,q⟩:=h
 cases ro
 obtain ⟨t,rfl⟩:=ri
 obtain ⟨its,n,r,ho,hz⟩:=I.lst hp
 obtain ⟨h1,h2,h3,h4⟩:=ZlX hj
 have hl:=r.length
 have hn:=ZfK
 have I':Inv X pins σ (upd H p (.lst (xs.set j v))) { s with heap:=s.heap.update p (Obj.mapSeq (·.setIfInBounds j u)) }:=
  I.lstUpd hp ho (Zk4 its n j u) (r.set rv j) (by rw [Yx]; exact hz) s.toks
 by_cases h0:0<=k
 ·have hk:k.toNat=j:=by
   rw [seqIndex_of h0 h4] at h1
   exact Option.some.inj h1
  exact PySem.W.ki_setAt ho h0 (by omega) (by rw [Yd,<-hl]; exact h4) (by rw [hk]; exact ⟨_,I',q⟩)
 ·have hk:(k+(its.toArray.size:Int)).toNat=j:=by
   rw [seqIndex_neg (by omega) h3] at h1
   rw [Yd,<-hl]
   exact Option.some.inj h1
  exact PySem.W.ki_setBack ho (by omega) (by rw [Yd,<-hl]; exact h3) (by omega) (by rw [hk]; exact ⟨_,I',q⟩)
theorem Zjc (lo hi:Option Int) (n:Nat):(sliceBounds lo hi none n).1=((HT.sIx n 0 lo:Nat):Int)/\(sliceBounds lo hi none n).2.1=((HT.sIx n n hi:Nat):Int)/\(sliceBounds lo hi none n).2.2=1:=by
 refine ⟨?_,?_,rfl⟩
 ·cases lo with
  | none=>simp [sliceBounds,HT.sIx]
  | some i=>
   simp only [sliceBounds,HT.sIx,Option.getD_none,show (1:Int) > 0 by decide,if_true]
   by_cases h:i<0
   ·simp only [h,if_true]<;>omega
   ·simp only [h,if_false]<;>omega
 ·cases hi with
  | none=>simp [sliceBounds,HT.sIx]
  | some i=>
   simp only [sliceBounds,HT.sIx,Option.getD_none,show (1:Int) > 0 by decide,if_true]
   by_cases h:i<0
   ·simp only [h,if_true]<;>omega
   ·simp only [h,if_false]<;>omega
theorem Zik (its:List Value) (lo hi:Option Int):slicePick its.toArray lo hi none=((its.drop (HT.sIx its.length 0 lo)).take (HT.sIx its.length its.length hi-HT.sIx its.length 0 lo)).toArray:=by
 obtain ⟨h1,h2,h3⟩:=Zjc lo hi its.toArray.size
 unfold slicePick
 rw [h1,h2,h3]
 simp only [sliceRange_one,pick_run,Yd]<;>rfl
def ZvU (K:PySem.W.Frag):V->Option Int->Option Int->Hp->VK->Prop:=fun x lo hi H Q=>∃a xs,x=.ref a/\SqL K H a xs/\∀p,H p=none->Q (.ref p) (upd H p (.lst (ZkE xs lo hi)))
theorem sl_list:SlR X (ZvU X.K):=by
 intro pins s σ H x v vl vu lo hi sl Q I rx hs pl pu h
 obtain ⟨a,xs,rfl,hx,q⟩:=h
 cases rx
 obtain ⟨its,r,ht,hz⟩:=I.list hx
 have hlen:=r.length
 refine ⟨"list",_,slot_list_getitem.lookup,ht.isList.typeIs,?_⟩
 refine wpAny_getItem_list_slice ht.isList hs pl pu .none (by simp) ?_ (by rw [Yd]<;>omega)
 rw [Zik,<-hlen]
 refine ⟨.ref s.heap.objs.size,_,I.laid (t':=s.toks) (o:=.lst (ZkE xs lo hi)) (fun b ob q=>Heap.get?_push_of_some _ q) (Yb _) ?_,rfl,q _ (I.hok.fresh (Yb _))⟩
 exact ⟨Yu (Zg6 xs lo hi) hz,_,0,(r.drop (HT.sIx xs.length 0 lo)).take (HT.sIx xs.length xs.length hi-HT.sIx xs.length 0 lo),Heap.get?_push_size _ rfl⟩
noncomputable def ZdA:V->Bool
 | .non=>true
 | .bl _=>true
 | .int _=>true
 | .str _=>true
 | _=>false
noncomputable def eqV:V->V->Bool
 | .non,.non=>true
 | .bl a,.bl b=>a == b
 | .bl a,.int b=>(if a then 1 else 0) == b
 | .int a,.bl b=>a == (if b then 1 else 0)
 | .int a,.int b=>a == b
 | .str a,.str b=>a == b
 | _,_=>false
theorem ZuM {A:Around} {s:Shared} {y x:V} {u v:Value} (ry:RelV y u) (rx:RelV x v) (fy:ZdA y=true) (fx:ZdA x=true):SeqAt.EqAt A s u v (eqV y x):=by
 cases y with
 | non=>
  cases ry
  cases x with
  | non=>cases rx; exact SeqAt.EqAt.same _
  | bl b=>cases rx; exact SeqAt.EqAt.none_bool b
  | int b=>obtain ⟨t,rfl⟩:=rx; exact SeqAt.EqAt.none_int b t
  | str b=>obtain ⟨t,rfl⟩:=rx; exact SeqAt.EqAt.none_str b t
  | _=>exact absurd (show false=true from fx) Yi
 | bl a=>
  cases ry
  cases x with
  | non=>cases rx; exact SeqAt.EqAt.bool_none a
  | bl b=>cases rx; exact SeqAt.EqAt.bool_bool a b
  | int b=>obtain ⟨t,rfl⟩:=rx; exact SeqAt.EqAt.bool_int a b t
  | str b=>obtain ⟨t,rfl⟩:=rx; exact SeqAt.EqAt.bool_str a b t
  | _=>exact absurd (show false=true from fx) Yi
 | int a=>
  obtain ⟨t',rfl⟩:=ry
  cases x with
  | non=>cases rx; exact SeqAt.EqAt.int_none a t'
  | bl b=>cases rx; exact SeqAt.EqAt.int_bool a t' b
  | int b=>obtain ⟨t,rfl⟩:=rx; exact SeqAt.EqAt.int_int a t' b t
  | str b=>obtain ⟨t,rfl⟩:=rx; exact SeqAt.EqAt.int_str a t' b t
  | _=>exact absurd (show false=true from fx) Yi
 | str a=>
  obtain ⟨t',rfl⟩:=ry
  cases x with
  | non=>cases rx; exact SeqAt.EqAt.str_none a t'
  | bl b=>cases rx; exact SeqAt.EqAt.str_bool a t' b
  | int b=>obtain ⟨t,rfl⟩:=rx; exact SeqAt.EqAt.str_int a t' b t
  | str b=>obtain ⟨t,rfl⟩:=rx; exact SeqAt.EqAt.str_str a t' b t
  | _=>exact absurd (show false=true from fx) Yi
 | _=>exact absurd (show false=true from fy) Yi
noncomputable def eqU (x:V) (u:Value):Bool:=match u with
 | .none=>eqV .non x
 | .bool b=>eqV (.bl b) x
 | .int i _=>eqV (.int i) x
 | .str z _=>eqV (.str z) x
 | _=>false
theorem Zot {x y:V} {u:Value} (r:RelV y u) (f:ZdA y=true):eqU x u=eqV y x:=by
 cases y with
 | non=>cases r; rfl
 | bl b=>cases r; rfl
 | int i=>obtain ⟨t,rfl⟩:=r; rfl
 | str z=>obtain ⟨t,rfl⟩:=r; rfl
 | _=>exact absurd (show false=true from f) Yi
theorem Zgs {x:V}:∀{xs:List V} {us:List Value},Vals xs us->xs.all ZdA=true->us.any (eqU x)=xs.any fun y=>eqV y x
 | _,_,.nil,_=>rfl
 | y::xs,u::us,.cons r t,f=>by
  rw [List.all_cons,Yt] at f
  rw [YK,YK,Zot r f.1,Zgs t f.2]
theorem ZeU {A:Around} {s:Shared} {x:V} {v:Value} (rx:RelV x v) (fx:ZdA x=true):∀{xs:List V} {us:List Value},Vals xs us->xs.all ZdA=true->∀u∈us,SeqAt.EqAt A s u v (eqU x u)
 | _,_,.nil,_=>fun u hu=>by cases hu
 | y::xs,u::us,.cons r t,f=>fun u' hu=>by
  rw [List.all_cons,Yt] at f
  rcases Yq.mp hu with rfl | hu
  ·rw [Zot r f.1]; exact ZuM r rx f.1 fx
  ·exact ZeU rx fx t f.2 u' hu
noncomputable def inV (x:V) (xs:List V):Bool:=xs.any fun y=>eqV y x
def rIn (K:PySem.W.Frag) (neg:Bool):R2:=fun x y H Q=>∃p xs,y=.ref p/\(SqL K H p xs\/SqT K H p xs)/\ZdA x=true/\xs.all ZdA=true/\Q (.bl (if neg then !inV x xs else inV x xs)) H
theorem Zmy:OpR X (compareOp .In) (rIn X.K false):=by
 intro pins s σ H x y v u Q I rx ry h
 obtain ⟨p,xs,rfl,hq,fx,fs,q⟩:=h
 cases ry
 rcases hq with hq | hq
 ·obtain ⟨its,r,pl,hz⟩:=I.list hq
  refine SeqAt.in_listAt (eqU x) pl.isList (fun w hw=>ZeU rx fx r fs w (by simpa using hw)) ⟨.bl _,H,I,rfl,?_⟩
  rw [show its.toArray.any (eqU x)=its.any (eqU x) by simp,Zgs r fs]
  exact q
 ·obtain ⟨its,r,pl,hz⟩:=I.tuple hq
  refine SeqAt.in_tupleAt (eqU x) pl (fun w hw=>ZeU rx fx r fs w (by simpa using hw)) ⟨.bl _,H,I,rfl,?_⟩
  rw [show its.toArray.any (eqU x)=its.any (eqU x) by simp,Zgs r fs]
  exact q
theorem Zji:OpR X (compareOp .NotIn) (rIn X.K true):=by
 intro pins s σ H x y v u Q I rx ry h
 obtain ⟨p,xs,rfl,hq,fx,fs,q⟩:=h
 cases ry
 rcases hq with hq | hq
 ·obtain ⟨its,r,pl,hz⟩:=I.list hq
  refine SeqAt.notIn_listAt (eqU x) pl.isList (fun w hw=>ZeU rx fx r fs w (by simpa using hw)) ⟨.bl _,H,I,rfl,?_⟩
  rw [show its.toArray.any (eqU x)=its.any (eqU x) by simp,Zgs r fs]
  exact q
 ·obtain ⟨its,r,pl,hz⟩:=I.tuple hq
  refine SeqAt.notIn_tupleAt (eqU x) pl (fun w hw=>ZeU rx fx r fs w (by simpa using hw)) ⟨.bl _,H,I,rfl,?_⟩
  rw [show its.toArray.any (eqU x)=its.any (eqU x) by simp,Zgs r fs]
  exact q
theorem ZjB:CallR X (.builtin "len") (fun xs H Q=>∃p ys,xs=[.ref p]/\(SqL X.K H p ys\/SqT X.K H p ys)/\Q (.int ys.length) H):=by
 intro pins s σ H xs us Q I r h
 obtain ⟨p,ys,rfl,hq,q⟩:=h
 obtain ⟨u,rfl,rx⟩:=Ziq r
 cases rx
 have hn:=ZfK
 rcases hq with hq | hq
 ·obtain ⟨its,r',pl,hz⟩:=I.list hq
  have hlen:=r'.length
  exact Calls.call_len_list pl.isList (by simp only [Yd]<;>omega) ⟨.int ys.length,H,I.tok _,⟨s.toks+1,by rw [Yd,hlen]⟩,q⟩
 ·obtain ⟨its,r',pl,hz⟩:=I.tuple hq
  have hlen:=r'.length
  exact len_tuple pl (by simp only [Yd]<;>omega) ⟨.int ys.length,H,I.tok _,⟨s.toks+1,by rw [Yd,hlen]⟩,q⟩
theorem call_len_str:CallR X (.builtin "len") (fun xs H Q=>∃z,xs=[.str z]/\z.length<=sizeLine/\Q (.int z.length) H):=by
 intro pins s σ H xs us Q I r h
 obtain ⟨z,rfl,hz,q⟩:=h
 obtain ⟨u,rfl,t,rfl⟩:=Ziq r
 have hn:=ZfK
 exact len_str (by omega) ⟨.int z.length,H,I.tok _,⟨_,rfl⟩,q⟩
theorem CallR.or {f:Value} {r r':List V->Hp->VK->Prop} (h:CallR X f r) (h':CallR X f r'):CallR X f (fun xs H Q=>r xs H Q\/r' xs H Q):=by
 intro pins s σ H xs us Q I rs q
 rcases q with q | q
 ·exact h pins s σ H xs us Q I rs q
 ·exact h' pins s σ H xs us Q I rs q
theorem ZjA:CallR X (.type "list") (fun xs H Q=>∃p ys,xs=[.ref p]/\(SqL X.K H p ys\/SqT X.K H p ys)/\∀l,H l=none->Q (.ref l) (upd H l (.lst ys))):=by
 intro pins s σ H xs us Q I r h
 obtain ⟨p,ys,rfl,hq,q⟩:=h
 obtain ⟨u,rfl,rx⟩:=Ziq r
 cases rx
 have fin:∀(its:List Value),Vals ys its->ys.length<=sizeLine->∀(h':Heap) (c':Nat),(∀b o',s.heap.get? b=some o'->h'.get? b=some o')->
   h'.get? s.heap.objs.size=some { cls:=.type "list",dict:=none,data:=.seq its.toArray c',slots:=#[] }->EP X pins σ Q (.ref s.heap.objs.size) { s with heap:=h' }:=fun its r' hz h' c' kp e=>
  ⟨.ref s.heap.objs.size,_,I.laid (t':=s.toks) kp (Yb _) (show ObjOk X.prog X.w _ h' _ (.lst ys) from ⟨hz,its,c',r',e⟩),rfl,q _ (I.hok.fresh (Yb _))⟩
 rcases hq with hq | hq
 ·obtain ⟨its,r',pl,hz⟩:=I.list hq
  have hlen:=r'.length
  obtain ⟨o,ho,hc,n,hd⟩:=pl.isList
  exact call_list_seq p (.inl rfl) ho hc hd (fun h' c' kp e=>fin its r' hz h' c' kp e) (by simp only [Yd]<;>omega)
 ·obtain ⟨its,r',pl,hz⟩:=I.tuple hq
  have hlen:=r'.length
  obtain ⟨o,ho,hc,n,hd⟩:=pl
  exact call_list_seq p (.inr rfl) ho hc hd (fun h' c' kp e=>fin its r' hz h' c' kp e) (by simp only [Yd]<;>omega)
theorem Zio:CallR X (.type "tuple") (fun xs H Q=>∃p ys,xs=[.ref p]/\((SqL X.K H p ys/\∀l,H l=none->Q (.ref l) (upd H l (.tup ys)))\/(SqT X.K H p ys/\Q (.ref p) H))):=by
 intro pins s σ H xs us Q I r h
 obtain ⟨p,ys,rfl,h⟩:=h
 obtain ⟨u,rfl,rx⟩:=Ziq r
 cases rx
 rcases h with ⟨hq,q⟩ | ⟨hq,q⟩
 ·obtain ⟨its,r',pl,hz⟩:=I.list hq
  have hlen:=r'.length
  refine call_tuple_list pl.isList (fun h' kp=>?_) (by simp only [Yd]<;>omega)
  have I1:Inv X pins σ H { s with heap:=h' }:=I.kept (t':=s.toks) kp
  have I2:Inv X pins σ (upd H h'.objs.size (.tup ys)) { s with heap:=h'.push { cls:=.type "tuple",data:=.seq its.toArray } }:=
   I1.laid (t':=s.toks) (fun b o e=>Heap.get?_push_of_some _ e) (Yb _) (show ObjOk X.prog X.w _ _ _ (.tup ys) from ⟨hz,its,r',IsTup.new _ _⟩)
  exact ⟨.ref h'.objs.size,_,I2,rfl,q _ (I1.hok.fresh (Yb _))⟩
 ·obtain ⟨its,r',pl,hz⟩:=I.tuple hq
  exact call_tuple_same pl ⟨.ref p,H,I,rfl,q⟩
def tyV (K:PySem.W.Frag) (T:String) (x:V) (H:Hp):Prop:=match x with
 | .str _=>T = "str"
 | .int _=>T = "int"
 | .ref p=>(T = "list"/\∃xs,SqL K H p xs)\/(T = "tuple"/\∃o,K.lookup p=some o/\o.cls=.type "tuple"/\o.dict=none)\/
   (T = "dict"/\((∃kvs,H p=some (.dK kvs))\/∃kvs,H p=some (.dT kvs)))\/(T = "set"/\∃S n,H p=some (.set S n))
 | _=>False
theorem ZtF {pins:List (Addr×Obj)} {σ:St} {H:Hp} {s:Shared} {T:String} {x:V} {v:Value} (I:Inv X pins σ H s) (r:RelV x v) (ty:tyV X.K T x H) :
  s.TypeIs v T/\∀a,v=.ref a->∃ob,s.heap.get? a=some ob/\ob.dict=none:=by
 cases x with
 | str z=>
  obtain ⟨t,rfl⟩:=r
  cases (show T = "str" from ty)
  exact ⟨typeIs_str s z t,fun _ e=>nomatch e⟩
 | int i=>
  obtain ⟨t,rfl⟩:=r
  cases (show T = "int" from ty)
  exact ⟨typeIs_int s i t,fun _ e=>nomatch e⟩
 | ref p=>
  cases r
  rcases ty with ⟨rfl,xs,hq⟩ | ⟨rfl,o,hk,hc,hd⟩ | ⟨rfl,hk⟩ | ⟨rfl,S,n,hk⟩
  ·obtain ⟨its,_,pl,_⟩:=I.list hq
   refine ⟨pl.isList.typeIs,fun a e=>?_⟩
   cases e
   obtain ⟨o,n,e,c,hd,_⟩:=pl
   exact ⟨o,e,hd⟩
  ·refine ⟨⟨o,I.kIn p o hk,hc⟩,fun a e=>?_⟩
   cases e
   exact ⟨o,I.kIn _ o hk,hd⟩
  ·have z:∃o,s.heap.get? p=some o/\o.ExactDict:=by
    rcases hk with ⟨kvs,hk⟩ | ⟨kvs,hk⟩
    ·obtain ⟨_,_,_,_,o,_,_,e,ex,_⟩:=I.hok p _ hk
     exact ⟨o,e,ex⟩
    ·obtain ⟨_,_,_,_,o,_,_,e,ex,_⟩:=I.hok p _ hk
     exact ⟨o,e,ex⟩
   obtain ⟨o,e,ex⟩:=z
   refine ⟨⟨o,e,ex.1⟩,fun a e2=>?_⟩
   cases e2
   exact ⟨o,e,ex.2.1⟩
  ·obtain ⟨o,_,_,_,e,ex,_⟩:=I.hok p _ hk
   refine ⟨⟨o,e,ex.1⟩,fun a e2=>?_⟩
   cases e2
   exact ⟨o,e,ex.2.1⟩
 | _=>exact False.elim ty
def tBM (K:PySem.W.Frag) (T:String) (r:V->List V->Hp->VK->Prop) (to:TE) (t:TA):TE:=fun σ H Q=>to σ H fun x H1=>tyV K T x H1/\t σ H1 fun xs H2=>r x xs H2 Q
variable {o e:Expr} {es:List Expr} {to:TE} {t:TA} {name:Str} {apos cpos:Pos} {T id:String} {r:V->List V->Hp->VK->Prop}
theorem ZnQ (pa:PlainAttrs T) (slot:Slot T name id) (hty:typeOf (.builtin id)=pure (.type "method_descriptor")) (hm:MtR X id r) (ho:PE X o to) (ha:PA X (e::es) t)
  (hbase:attributeBase o name X.env (eval o X.env)=eval o X.env:=by rfl)
  (hfew:((backTo cpos (starEach (e::es) X.env)).all (fun x=>!x.1) && (backToKw cpos (keywordEach [] X.env)).all (fun x=>x.1.isSome)
   && decide ((e::es).length+([]:List Keyword).length+(if ([]:List Keyword).isEmpty then 0 else 1)<30))=true:=by rfl)
  (hline:(apos.endLine == cpos.line)=true:=by rfl) (hs:starEach (e::es) X.env=(false,eval e X.env)::starEach es X.env:=by rfl) (hplain:(backTo cpos (starEach es X.env)).any (·.1)=false:=by rfl) :
  PE X (.Call (.Attribute o name apos) (e::es) [] cpos) (tBM X.K T r to t):=by
 intro pins s σ H Q I h
 refine wpAny_Call_method_late hbase hfew hline rfl (thn (ho pins s σ H _ I h) fun v s1 ⟨x,H1,I1,r1,ty,q1⟩=>?_)
 obtain ⟨h1,h2⟩:=ZtF I1 r1 ty
 refine ⟨T,id,pa,slot,hty,h1,h2,?_⟩
 have hA:=ha cpos pins s1 σ H1 _ I1 q1
 rw [hs] at hA ⊢
 refine Calls.callWith_builtin (by show (false || (backTo cpos (starEach es X.env)).any (·.1))=false; rw [hplain]<;>rfl) (Calls.evalArgs_plain ?_)
 exact thn hA fun us s2 ⟨vs,H2,I2,r2,q2⟩=>hm pins s2 σ H2 x vs v us Q I2 r1 r2 q2
end
def MtM (X:Cx) (id:String) (r:V->List V->Hp->VK->Prop):Prop:=
 ∀(pins:List (Addr×Obj)) (s:Shared) (σ:St) (H:Hp) (x:V) (xs:List V) (v:Value) (us:List Value) (Q:VK),Inv X pins σ H s->RelV x v->Vals xs us->r x xs H Q->
  wpAny (model X.prog X.w) X.A (call (.builtin id) (v::us)) (EP X pins σ Q) X.xe s
theorem Vals.one:∀{x:V} {us:List Value},Vals [x] us->∃u,us=[u]/\RelV x u
 | _,_,.cons r .nil=>⟨_,rfl,r⟩
theorem Vals.eraseIdx:∀{xs:List V} {us:List Value} (i:Nat),Vals xs us->Vals (xs.eraseIdx i) (us.eraseIdx i)
 | _,_,_,.nil=>.nil
 | _,_,0,.cons _ t=>t
 | _,_,i+1,.cons r t=>.cons r (Vals.eraseIdx i t)
theorem Vals.rep {xs:List V} {us:List Value} (h:Vals xs us):∀k:Nat,Vals (List.replicate k xs).flatten (List.replicate k us).flatten
 | 0=>.nil
 | k+1=>by
  rw [YH,YH,YR,YR]
  exact Vals.append h (Vals.rep h k)
theorem ZiI {α:Type}:∀(l:List α) (i:Nat),(l.eraseIdx i).length<=l.length
 | [],_=>Yb _
 | _::_,0=>Y7 _
 | _::r,i+1=>Nat.succ_le_succ (ZiI r i)
theorem Zfr (its:List Value):∀(k:Nat) (acc:List Value),
  List.foldl (fun x1 x2=>x1++x2) acc.toArray (List.replicate k its.toArray)=(acc++(List.replicate k its).flatten).toArray
 | 0,acc=>by simp
 | k+1,acc=>by
  have e:acc.toArray++its.toArray=(acc++its).toArray:=by simp
  have e2:(acc++its)++(List.replicate k its).flatten=acc++(List.replicate (k+1) its).flatten:=by
   rw [YH,YR,YF]
  rw [<-e2,<-Zfr its k (acc++its),<-e,YH,List.foldl_cons]
section
variable {X:Cx} {pins:List (Addr×Obj)} {σ:St} {H:Hp} {s:Shared} {l b:Addr} {xs ys zs:List V}
theorem Inv.lset {its its':List Value} {n:Nat} {f:Array Value->Array Value} {t':Nat} (I:Inv X pins σ H s) (hH:H l=some (.lst xs))
  (e:s.heap.get? l=some { cls:=.type "list",data:=.seq its.toArray n }) (hf:f its.toArray=its'.toArray) (hv:Vals ys its') (hz:ys.length<=sizeLine) :
  Inv X pins σ (upd H l (.lst ys)) { s with heap:=s.heap.update l (Obj.mapSeq f),toks:=t' }:=by
 have q:=PySem.IsL.update e f
 rw [hf] at q
 refine I.write (x:=l) (e:=l) (by rw [hH]; exact trivial) (.inl rfl) (fun b' u hb hu=>(Heap.get?_update_other s.heap (Obj.mapSeq f) (Ne.symm hb)).trans hu) ⟨_,q⟩ ?_
 exact ⟨hz,its',_,hv,q⟩
theorem Inv.lnew {its:List Value} {t':Nat} (I:Inv X pins σ H s) (hv:Vals ys its) (hz:ys.length<=sizeLine) :
  Inv X pins σ (upd H s.heap.objs.size (.lst ys)) { s with heap:=s.heap.push { cls:=.type "list",data:=.seq its.toArray },toks:=t' }:=
 I.laid (fun _ _ q=>Heap.get?_push_of_some _ q) (Yb _) ⟨hz,its,0,hv,Heap.get?_push_size _ rfl⟩
theorem Inv.fresh (I:Inv X pins σ H s):H s.heap.objs.size=none:=I.hok.fresh (Yb _)
theorem Inv.lstM (I:Inv X pins σ H s) (hH:H l=some (.lst xs)):xs.length<=sizeLine/\∃(its:List Value) (n:Nat),Vals xs its/\xs.length=its.length/\s.heap.get? l=some { cls:=.type "list",data:=.seq its.toArray n }:=by
 obtain ⟨z,its,n,r,e⟩:=I.hok l _ hH
 exact ⟨z,its,n,r,r.length,e⟩
theorem Zf4 {n:Nat} (h:n<=sizeLine):Builtin.List.listTooLong n=false:=by
 unfold Builtin.List.listTooLong
 exact decide_eq_false (by omega)
end
section
variable {X:Cx}
def Zjf:V->List V->Hp->VK->Prop:=fun x vs H Q=>∃l xs y,x=.ref l/\vs=[y]/\H l=some (.lst xs)/\xs.length<sizeLine/\Q .non (upd H l (.lst (xs++[y])))
theorem ZiE:MtM X "list.append" Zjf:=by
 intro pins s σ H x vs v us Q I rx rv h
 obtain ⟨l,xs,y,rfl,rfl,hH,hz,q⟩:=h
 cases rx
 obtain ⟨u,rfl,ru⟩:=rv.one
 obtain ⟨z,its,n,r,hl,e⟩:=I.lstM hH
 refine call_meets F.slot_list_append ⟨_,e,rfl⟩ F.entry_list_append (F.args_list_append_2 _ _) (PySem.list_append l its.toArray n u (by rw [Yd]; omega)) ⟨e,?_⟩
 refine ⟨.non,_,I.lset (its':=its++[u]) hH e (by simp) (r.append (.cons ru .nil)) ?_,rfl,q⟩
 rw [Yj,YX]
 omega
def ZqE:V->List V->Hp->VK->Prop:=fun x vs H Q=>∃l b xs zs,x=.ref l/\vs=[.ref b]/\H l=some (.lst xs)/\H b=some (.lst zs)/\xs.length+zs.length<=sizeLine/\Q .non (upd H l (.lst (xs++zs)))
theorem Zvd:MtM X "list.extend" ZqE:=by
 intro pins s σ H x vs v us Q I rx rv h
 obtain ⟨l,b,xs,zs,rfl,rfl,hH,hB,hz,q⟩:=h
 cases rx
 obtain ⟨u,rfl,ru⟩:=rv.one
 cases ru
 obtain ⟨z,its,n,r,hl,e⟩:=I.lstM hH
 obtain ⟨z2,its2,n2,r2,hl2,e2⟩:=I.lstM hB
 have hsz:its.toArray.size+its2.toArray.size<=sizeLine:=by rw [Yd,Yd]; omega
 have hlong:¬(!its.toArray.isEmpty && Builtin.List.listTooLong (its.toArray.size+its2.toArray.size))=true:=by
  rw [Zf4 hsz,Bool.and_false]
  exact Yi
 refine call_meets F.slot_list_extend ⟨_,e,rfl⟩ F.entry_list_extend (F.args_list_extend_2 _ _)
  (AutoSeq1.list_extend_list_list_0 l its.toArray n b its2.toArray n2 hlong (by rw [Yd]; omega) (by omega)) ⟨e,e2,?_⟩
 refine ⟨.non,_,I.lset (its':=its++its2) hH e (by simp) (r.append r2) ?_,rfl,q⟩
 rw [Yj]
 omega
def Znu:V->List V->Hp->VK->Prop:=fun x vs H Q=>∃l xs i k y,x=.ref l/\vs=[.int i]/\H l=some (.lst xs)/\-(2 ^ 63)<=i/\i<2 ^ 63/\seqIndex? i xs.length=some k/\xs[k]?=some y/\Q y (upd H l (.lst (xs.eraseIdx k)))
theorem Zn2:MtM X "list.pop" Znu:=by
 intro pins s σ H x vs v us Q I rx rv h
 obtain ⟨l,xs,i,k,y,rfl,rfl,hH,h1,h2,hk,hy,q⟩:=h
 cases rx
 obtain ⟨u,rfl,ru⟩:=rv.one
 obtain ⟨t,rfl⟩:=ru
 obtain ⟨z,its,n,r,hl,e⟩:=I.lstM hH
 obtain ⟨w,hw,rw'⟩:=r.get hy
 refine call_meets F.slot_list_pop ⟨_,e,rfl⟩ F.entry_list_pop (F.args_list_pop_2 _ _)
  (MeetsSeq.list_pop_at l its.toArray n i t k w (fitsIndex_both h1 h2) (by rw [Yd,<-hl]; exact hk) (by rw [<-Array.getElem?_toList]; exact hw) (by rw [Yd]; omega)) ⟨e,?_⟩
 refine ⟨y,_,I.lset (its':=its.eraseIdx k) hH e ?_ (r.eraseIdx k) ?_,rw',q⟩
 ·show its.toArray.eraseIdxIfInBounds k=(its.eraseIdx k).toArray
  rw [List.eraseIdxIfInBounds_toArray]
 ·have:=ZiI xs k
  omega
def ZzG:R2:=fun x y H Q=>∃l b xs zs,x=.ref l/\y=.ref b/\H l=some (.lst xs)/\H b=some (.lst zs)/\xs.length+zs.length<=sizeLine/\∀p,H p=none->Q (.ref p) (upd H p (.lst (xs++zs)))
theorem Zuw:OpR X (binaryOp .Add) ZzG:=by
 intro pins s σ H x y v u Q I rx ry h
 obtain ⟨l,b,xs,zs,rfl,rfl,hH,hB,hz,q⟩:=h
 cases rx
 cases ry
 obtain ⟨z,its,n,r,hl,e⟩:=I.lstM hH
 obtain ⟨z2,its2,n2,r2,hl2,e2⟩:=I.lstM hB
 refine PySem.P.add_list e e2 ?_ (by rw [Yd,Yd]; omega)
 have ea:its.toArray++its2.toArray=(its++its2).toArray:=by simp
 rw [ea]
 exact ⟨.ref _,_,I.lnew (t':=s.toks) (r.append r2) (by rw [Yj]; omega),rfl,q _ I.fresh⟩
def ZzF:R2:=fun x y H Q=>∃l k xs,x=.ref l/\y=.int k/\H l=some (.lst xs)/\-(2 ^ 63)<=k/\k<2 ^ 63/\xs.length*k.toNat<=sizeLine/\
 ∀p,H p=none->Q (.ref p) (upd H p (.lst (List.replicate k.toNat xs).flatten))
theorem Zjo {α:Type} (xs:List α) (k:Nat):(List.replicate k xs).flatten.length=k*xs.length:=by
 induction k with
 | zero=>simp
 | succ k ih=>rw [YH,YR,Yj,ih,Nat.succ_mul,Nat.add_comm]
theorem Zur:OpR X (binaryOp .Mult) ZzF:=by
 intro pins s σ H x y v u Q I rx ry h
 obtain ⟨l,k,xs,rfl,rfl,hH,h1,h2,hz,q⟩:=h
 cases rx
 obtain ⟨t,rfl⟩:=ry
 obtain ⟨z,its,n,r,hl,e⟩:=I.lstM hH
 have hlen:its.toArray.size*k.toNat<=sizeLine:=by rw [Yd,<-hl]; exact hz
 have hcap:¬its.toArray.size*k.toNat > (2 ^ 63-1)/8:=by
  have:(sizeLine:Nat)<=(2 ^ 63-1)/8:=by decide
  omega
 have hfit:¬(!Builtin.List.listFitsIndex k)=true:=by
  rw [fitsIndex_both h1 h2]
  exact Yi
 have hlong:¬Builtin.List.listTooLong (its.toArray.size*k.toNat)=true:=by
  rw [Zf4 hlen]
  exact Yi
 have hnew:List.foldl (fun x1 x2=>x1++x2) #[] (List.replicate (if its.toArray.isEmpty=true then 0 else k.toNat) its.toArray)=(List.replicate k.toNat its).flatten.toArray:=by
  have f0:∀m:Nat,List.foldl (fun x1 x2=>x1++x2) #[] (List.replicate m its.toArray)=(List.replicate m its).flatten.toArray:=fun m=>by
   have:=Zfr its m []
   rw [YW] at this
   exact this
  rw [f0]
  cases its with
  | nil=>simp
  | cons a r'=>rw [if_neg (by simp)]
 refine wpAny_binaryOp_repeat_ref (T:="list") (U:="int") (by decide) ⟨_,e,rfl⟩ (fun s'=>typeIs_int s' k t) noFill_list_mul F.fills_int_mul F.slot_int_rmul repeat_list F.slot_int_index.lookup
  (call_meets F.slot_int_rmul (typeIs_int s k t) F.entry_int_rmul (F.args_int_rmul_2 _ _) (int___rmul___int_list k t l its.toArray n)
   ⟨e,rfl,⟨_,e,rfl⟩,call_meets F.slot_list_mul ⟨_,e,rfl⟩ F.entry_list_mul (F.args_list_mul_2 _ _) (AutoListH.list___mul___list_int_3 l its.toArray n k t hfit hcap hlong) ⟨e,?_⟩⟩)
 rw [hnew]
 exact ⟨.ref _,_,I.lnew (t':=s.toks) (r.rep k.toNat) (by rw [Zjo,Nat.mul_comm]; exact hz),rfl,q _ I.fresh⟩
end
section
variable {prog:Program} {w:World} {A:Around} {E:Value->Shared->Prop} {s:Shared}
theorem Zlf {a c n:Nat} (hac:a<=c) (hc:c<=n):sliceBounds (some (a:Int)) (some (c:Int)) none n=((a:Int),(c:Int),1):=by
 simp only [sliceBounds,Option.getD_none]
 have h1:¬((a:Int)<0):=by omega
 have h2:¬((c:Int)<0):=by omega
 simp only [h1,h2,if_false,show (1:Int) > 0 by decide,if_true]
 congr 1
 ·omega
 ·congr 1; omega
set_option maxRecDepth 100000 in
theorem ZoV {l b sl:Addr} {items new:Array Value} {n n2:Nat} {vl vu:Value} {a c:Nat} {Q:Unit->Shared->Prop}
  (e:s.heap.get? l=some { cls:=.type "list",data:=.seq items n }) (e2:s.heap.get? b=some { cls:=.type "list",data:=.seq new n2 }) (hne:l≠b)
  (hs:s.heap.IsSliceOf sl vl vu .none) (pl:IsPart vl (some (a:Int))) (pu:IsPart vu (some (c:Int))) (hac:a<=c) (hc:c<=items.size)
  (hsz:items.size+new.size<=sizeLine) (h:Q () { s with heap:=s.heap.update l (Obj.mapSeq fun xs=>xs.extract 0 a++new++xs.extract c xs.size) }) :
  wpAny (model prog w) A (setItem (.ref l) (.ref sl) (.ref b)) Q E s:=by
 have hl:s.heap.IsList l items:=PySem.IsL.isList e
 have hb:s.heap.IsList b new:=PySem.IsL.isList e2
 obtain ⟨os,hos,hcs,hds⟩:=id hs
 have hTs:s.TypeIs (.ref sl) "slice":=⟨os,hos,hcs⟩
 have hstep:¬((rawPart none == rawInt 0)=true):=Yi
 have hsame:Builtin.List.listSameRef (.ref l) (.ref b)=false:=by
  unfold Builtin.List.listSameRef
  exact beq_eq_false_iff_ne.mpr hne
 have hmax:(max (a:Int) (c:Int)).toNat=c:=by omega
 have hz':((fun xs:Array Value=>xs.extract 0 a++new++xs.extract c xs.size) items).size<=sizeLine+1:=by
  simp only [Array.size_append,Array.size_extract]
  omega
 unfold setItem
 try with_reducible refine wpAny_holding ?_
 first | refine wpAny_bind (wpAny_pure ?_) | skip
 refine wpAny_bind (wpAny_sequenceKey hl.typeIs (by decide) ?_)
 refine wpAny_bind (wpAny_callSpecial?_slot (name:=Str.ofString "__setitem__") hl.typeIs slot_list_setitem
  (wpAny_call_entry slot_list_setitem hl.typeIs entry_list_setitem ?_ (args_list_setitem _ _ _)))
 show wpAny _ _ (Builtin.List.listSubscript? (.ref sl) >>= _) _ _ s
 refine wpAny_bind ?_
 unfold Builtin.List.listSubscript?
 refine wpAny_bind (wpAny_specialOf hTs slice_no_index ?_)
 simp only [Option.isNone_none,if_true]
 refine wpAny_pure ?_
 show wpAny _ _ (typeOf (.ref sl) >>= _) _ _ s
 refine wpAny_bind (wpAny_typeOf hTs ?_)
 first
  | rw [if_neg (by decide)]
  | refine PySem.W.KFB.if_not (by decide) ?_
 rw [listSliceParts_eq]
 refine wpAny_bind (wpAny_bind (wpAny_field hos hds (x:=.none) rfl (wpAny_bind (wpAny_listPart .none ?_))))
 rw [if_neg hstep]
 refine wpAny_bind (wpAny_field hos hds (x:=vl) rfl (wpAny_bind (wpAny_listPart pl ?_)))
 refine wpAny_bind (wpAny_field hos hds (x:=vu) rfl (wpAny_bind (wpAny_listPart pu (wpAny_pure ?_))))
 first
  | simp only [hsame,Y1,if_false]
  | refine PySem.W.KFB.if_not hsame ?_
  | (dsimp only
     rw [if_neg (by rw [hsame]; exact Yi)])
 refine wpAny_bind (m:=Builtin.List.listAllItems (.ref b) "must assign iterable to extended slice") ?_
 unfold Builtin.List.listAllItems
 refine wpAny_bind (wpAny_typeOf hb.typeIs ?_)
 first
  | refine PySem.W.KFB.if_so (by decide) ?_
  | rw [if_pos (by decide)]
  | simp only [beq_self_eq_true,Bool.true_or,if_true]
 unfold Builtin.List.listItems
 refine wpAny_bind (wpAny_seqItems e2 rfl (wpAny_pure ?_))
 refine wpAny_bind (wpAny_bind (wpAny_seqItems e rfl (wpAny_pure ?_)))
 refine wpAny_bind (wpAny_of_eq ((sliceIndices_raw (some (a:Int)) (some (c:Int)) none items.size (by simp)).trans (congrArg (pure:Int×Int×Int->Sem (Int×Int×Int)) (Zlf hac hc))) ?_)
 show wpAny _ _ (if ((1:Int) == 1)=true then _ else _) _ _ s
 rw [if_pos (by decide)]
 refine wpAny_bind (wpAny_rule ?_)
 first
  | simp only [Zf4 hsz,Y1,if_false]
  | refine PySem.W.KFB.if_not (Zf4 hsz) ?_
 first | refine wpAny_bind (wpAny_pure ?_) | skip
 show wpAny _ _ (updateSeq l (fun xs=>xs.extract 0 ((a:Int)).toNat++new++xs.extract (max (a:Int) (c:Int)).toNat xs.size) >>= _) _ _ s
 rw [hmax,Int.toNat_natCast]
 refine wpAny_bind (wpAny_updateSeq (hz:=Yu (Nat.le_add_right _ _) hsz) (_hz':=hz') e rfl ?_)
 refine wpAny_bind (wpAny_letGo ?_)
 first
  | exact wpAny_bind (wpAny_pure (wpAny_pure ⟨.none,rfl,wpAny_pure h⟩))
  | exact wpAny_pure ⟨.none,rfl,wpAny_pure h⟩
end
end L2
namespace Att
open PySem PySem.W PySem.Calls PyProof.Rows
theorem Zhm {P:Params} {h:Heap}:∀(ns:List Int) (vs:List Value),WellAll P h vs (ns.map WData.int)->IntsAre vs ns:=by
 intro ns
 induction ns with
 | nil=>
  intro vs w
  rw [Ym] at w
  cases w
  exact .nil
 | cons n ns ih=>
  intro vs w
  rw [Yf] at w
  cases w with
  | cons a b=>
   cases a
   exact .cons _ _ (ih _ b)
theorem Zmq {l:OpenLaw} {n:Nat} (hn:l.most=some n) {P:Params} {h:Heap} {args:List WData} {vals:List Value}
  (hpre:l.row.toRowW.claim.pre args=true) (hwl:WellAll P h vals args) :
  ∃a vs ns,vals=[Value.ref a]/\args=[WData.list (ns.map WData.int)]/\h.get? a=some { cls:=.type "list",data:=.seq vs.toArray }/\IntsAre vs ns/\ns.length<=n:=by
 have hsh:WShape.hasAll [] args [.list .int]=true:=(pre_splitW hpre).1
 have hc:l.pre.holds [] { args:=args }=true:=(pre_splitW hpre).2
 obtain ⟨d,r,rfl,h1,h2⟩:=hasAllW_cons hsh
 obtain rfl:=hasAllW_nil h2
 obtain ⟨xs,rfl,h3⟩:=hasW_list h1
 obtain ⟨ns,rfl⟩:=items_int h3
 have hlen:ns.length<=n:=by
  unfold OpenLaw.pre at hc
  have h4:(WTm.not (.lt (.lit (.int (n:Int))) (.len (.arg 0)))).holds [] { args:=[.list (ns.map .int)] }=true:=by
   have h4:=(holds_andW hc).1
   rw [hn] at h4
   exact h4
  have h5:=condW_of h4 (w_not (w_lt w_lit (w_len_list (w_arg rfl))))
  rw [List.length_map] at h5
  refine Nat.le_of_not_lt fun q=>?_
  have q':(n:Int)<((ns.length:Nat):Int):=by omega
  first
   | (rw [decide_eq_true q'] at h5; exact absurd h5 (by decide))
   | (simp at h5; omega)
 cases hwl with
 | cons w1 w2=>
  cases w2
  cases w1 with
  | list ho hall=>exact ⟨_,_,ns,rfl,rfl,ho,Zhm ns _ hall,hlen⟩
theorem Zmt (l:OpenLaw) (args:List WData):l.row.toRowW.claim.post args (.bool true) args=true:=
 postW_of (r:=l.row.toRowW) (X:=(true == true))
  (show WShape.has [] (.bool true) .bool=true by first | rfl | decide | simp [WShape.has,WShape.arms,WShape.armsAll])
  (show (WTm.eq .res (.lit (.bool true))).value [] { args:=args,res:=some (.bool true),after:=args }=some (.bool (true == true)) from w_eq_bool (w_res rfl) w_lit) rfl
theorem attach_call {l:OpenLaw} {n:Nat} {q:Program} {loose:List Str} {XP:(Str->Option Value)->Heap->Prop} {YP:World->Heap->Prop} {d:DefRec}
  (hn:l.most=some n) (hdf:d.params.defaults=[])
  (call:∀(w:World) (s₀ s₁:Shared) (mg mb:Str->Option Value) (fa:Addr) (o:Obj) (pm cd doc:Value) (a:Addr) (vs:List Value) (ns:List Int),
   Ground q loose [] XP w s₀ mg mb s₁.heap->YP w s₁.heap->
   s₁.heap.get? fa=some o->o.data=.func (docDef d.name d.params d.body d.scope pm cd doc)->s₁.heap.CodeRec cd d.name->mg d.name=some (.ref fa)->
   s₁.heap.get? a=some { cls:=.type "list",data:=.seq vs.toArray }->IntsAre vs ns->ns.length<=n->s₁.gens=#[]->
   codeAny (model l.prog w) callerA (.call (.ref fa) ⟨[.ref a],[]⟩) (fun r s'=>r=.ok (.ret (.bool true))/\OldK s₁.heap s'.heap/\s'.os=s₁.os/\AllBare s'.gens) s₁) :
  WalkO q loose XP YP l.row.toRowW d [] (fun f vs=>PySem.call f vs):=by
 intro w s₀ s₁ mg mb G Y fa o pm cd doc dV kV ho hd hcd hD hmg hg args vals as hpre hlay hrd hwl hlo
 obtain rfl:dV=.none:=Dflts.none hD hdf
 obtain rfl:kV=.none:=Dflts.noKw hD
 obtain ⟨a,vs,ns,rfl,rfl,hobj,hints,hlen⟩:=Zmq hn hpre hwl
 refine enter_call (codeAny_mono (call w s₀ s₁ mg mb fa o pm cd doc a vs ns G Y ho (fd_plain hd) hcd hmg hobj hints hlen hg) fun r s' hq=>?_)
 obtain ⟨rfl,h2,h3,h4⟩:=hq
 exact ⟨.inl ⟨.bool true,.bool true,[],rfl,fun _=>rfl,.bool true,Zmt l _,fun _=>⟨List.Pairwise.nil,fun _ hm=>(nomatch hm)⟩⟩,h2,h3,h4⟩
end Att
namespace L2
open PySem PySem.Spec PyProof.Rows
theorem Zip:∀{vs:List Value} {ns:List Int},IntsAre vs ns->Vals (ns.map V.int) vs
 | _,_,.nil=>.nil
 | _,_,.cons n t h=>.cons ⟨t,rfl⟩ (Zip h)
def ZrI (H:Hp):Prop:=∀b,H b=none\/∃o xs,H b=some (.frz o (.lst xs))
theorem Zod {P:Program} {w:World} {K:PySem.W.Frag} {mg mb:Str->Option Value} {CX:CXT} {k:Nat} {fa a:Addr} {fd:FuncData} {x:Str} {sp:Sp} {s₁:Shared} {vs:List Value} {ns:List Int}
  (KX:K.In s₁.heap) (hns:s₁.heap.Ns mainGlobals mg) (hb:s₁.heap.Ns builtinsNs mb) (hbb:∀x:Str,x≠"__name__"->mb x=bootBuiltins x) (hlim:s₁.heap.NoLimit) (hg:s₁.gens=#[])
  (ha:s₁.heap.get? a=some { cls:=.type "list",data:=.seq vs.toArray }) (hi:IntsAre vs ns) (hl:ns.length<=sizeLine) (hr:Room k callerA)
  (F:∀base:Heap,K.In base->base.Ns mainGlobals mg->FnOk P w K mg base CX k fa fd [x] sp) (hbind:∀(s:Shared) (u:Value),BindsTo s fd ⟨[u],[]⟩ [(x,u)])
  (hsp:∀H:Hp,ZrI H->SqL K H a (ns.map V.int)->sp [.ref a] H (fun v _=>v=.bl true) fun _ _ _=>False)
  (hCX:∀H e s',CX [] H s₁ (fun _ _ _=>False) e s'->False) :
  codeAny (model P w) callerA (.call (.ref fa) ⟨[.ref a],[]⟩) (fun r s'=>r=.ok (.ret (.bool true))/\OldK s₁.heap s'.heap/\s'.os=s₁.os/\AllBare s'.gens) s₁:=by
 have rv:=Zip hi
 have lenV:=hi.length
 have core:∀H:Hp,ZrI H->SqL K H a (ns.map V.int)->HOk P w H s₁.heap->(∀b,H b≠none->b=a)->(H a≠none->K.lookup a=none)->
   codeAny (model P w) callerA (.call (.ref fa) ⟨[.ref a],[]⟩) (fun r s'=>r=.ok (.ret (.bool true))/\OldK s₁.heap s'.heap/\s'.os=s₁.os/\AllBare s'.gens) s₁:=by
  intro H hO hS hok hA hK
  have base_of:∀{b:Addr} {o:Obj},s₁.heap.get? b=some o->H b=none->(Zjv s₁.heap H).get? b=some o:=fun e n=>Zok e n
  have noA:∀{b:Addr} {o:Obj} {es:Array DictEntry} {ep:Nat},s₁.heap.get? b=some o->o.data=.dict es ep->H b=none:=fun {b o es ep} e d=>by
   cases q:H b with
   | none=>rfl
   | some u=>
    have e':b=a:=hA b (by rw [q]; simp)
    subst e'
    rw [ha] at e; cases e
    have d':Data.seq vs.toArray _=Data.dict es ep:=d
    cases d'
  have nsK:∀{b:Addr} {m:Str->Option Value},s₁.heap.Ns b m->(Zjv s₁.heap H).Ns b m:=fun {b m} ⟨o,es,ep,e,d,r⟩=>⟨o,es,ep,base_of e (noA e d),d,r⟩
  have hKb:K.In (Zjv s₁.heap H):=fun b o e=>base_of (KX b o e) (by
   cases q:H b with
   | none=>rfl
   | some u=>
    have e':b=a:=hA b (by rw [q]; simp)
    subst e'
    rw [hK (by rw [q]; simp)] at e; cases e)
  have hM:Mod K mg (Zjv s₁.heap H):=⟨hKb,nsK hns,⟨mb,nsK hb,hbb⟩,let ⟨mc,h1,h2⟩:=hlim; ⟨mc,nsK h1,h2⟩⟩
  have e0:Env0 P w K mg (Zjv s₁.heap H) callerA [] s₁ H:=⟨rfl,hM,fun b o e=>Zq1 e,Nat.le_of_eq (ZmM _ _),trivial,fun b hb=>absurd (show b∈([]:List Addr) from hb) (by simp),hok,.of_eq hg⟩
  refine codeAny_mono ((F _ hKb (nsK hns)).run callerA [] s₁ H ⟨[.ref a],[]⟩ [.ref a] [.ref a] _ _ hr e0 (hbind s₁ (.ref a)) (.cons rfl .nil) (hsp H hO hS)) fun r s' h=>?_
  cases r with
  | error e=>exact (hCX H e s' h).elim
  | ok fl=>
   cases fl with
   | next=>exact False.elim h
   | brk=>exact False.elim h
   | cont=>exact False.elim h
   | ret u=>
    obtain ⟨v,H',os,bare,un,hok',r',q⟩:=h
    have q':v=.bl true:=q
    subst q'
    obtain rfl:u=Value.bool true:=r'
    refine ⟨rfl,OldK.of_keep fun b o e=>?_,os,bare⟩
    cases q:H b with
    | none=>exact un.keep b o e q (by intro z; exact absurd (show b∈([]:List Addr) from z) (by simp)) (by simp)
    | some u=>
     rcases hO b with z | ⟨ob,xs,z⟩
     ·rw [q] at z; cases z
     ·have z2:=un.frzs b ob _ z
      obtain ⟨e1,_⟩:=hok b _ z
      obtain ⟨e2,_⟩:=hok' b _ z2
      rw [e] at e1; cases e1
      exact e2
 cases hk:K.lookup a with
 | some o=>
  have e:=KX a o hk
  rw [ha] at e
  cases e
  refine core (fun _=>none) (fun _=>.inl rfl) (.inr ⟨_,vs.toArray,_,hk,rfl,rfl,rfl,by rw [Yd,lenV]; exact hl,by simpa using rv⟩) (fun b u z=>by have z':(none:Option HO)=some u:=z; cases z') (fun b z=>absurd rfl z) fun z=>absurd rfl z
 | none=>
  refine core (fun b=>if b=a then some (.frz { cls:=.type "list",data:=.seq vs.toArray } (.lst (ns.map V.int))) else none) (fun b=>?_) (.inl (.inr ⟨{ cls:=.type "list",data:=.seq vs.toArray },if_pos rfl⟩)) (fun b u z=>?_) (fun b z=>?_) fun _=>hk
  ·by_cases hb:b=a
   ·exact .inr ⟨_,_,if_pos hb⟩
   ·exact .inl (if_neg hb)
  ·by_cases hb:b=a
   ·have z':=(if_pos hb).symm.trans z
    cases z'
    subst hb
    exact ⟨ha,by rw [List.length_map]; exact hl,vs,_,rv,ha⟩
   ·have z':=(if_neg hb).symm.trans z
    cases z'
  ·by_cases hb:b=a
   ·exact hb
   ·exact absurd (if_neg hb) z
theorem Zqd {l:PySem.W.OpenLaw} {n k:Nat} {q:Program} {loose:List Str} {XP:(Str->Option Value)->Heap->Prop} {YP:World->Heap->Prop} {d:DefRec} {K:Params->PySem.W.Frag} {CX:World->CXT} {sp:World->Sp} {x:Str}
  (hn:l.most=some n) (hn2:n<=sizeLine) (hdf:d.params.defaults=[]) (hr:Room k callerA)
  (hY:∀(w:World) (h:Heap),YP w h->(K w.params).In h)
  (F:∀(w:World) (mg:Str->Option Value) (fa:Addr) (h:Heap),(K w.params).In h->h.Ns mainGlobals mg->mg d.name=some (.ref fa)->
   ∃fd:FuncData,(∀(s:Shared) (u:Value),BindsTo s fd ⟨[u],[]⟩ [(x,u)])/\
    ∀base:Heap,(K w.params).In base->base.Ns mainGlobals mg->FnOk l.prog w (K w.params) mg base (CX w) k fa fd [x] (sp w))
  (hsp:∀(w:World) (H:Hp) (a:Addr) (ns:List Int),ns.length<=n->ZrI H->SqL (K w.params) H a (ns.map V.int)->sp w [.ref a] H (fun v _=>v=.bl true) fun _ _ _=>False)
  (hCX:∀(w:World) (H:Hp) (s:Shared) (e:Value) (s':Shared),CX w [] H s (fun _ _ _=>False) e s'->False) :
  PySem.W.WalkO q loose XP YP l.row.toRowW d [] (fun f vs=>PySem.call f vs):=by
 refine Att.attach_call hn hdf fun w s₀ s₁ mg mb fa o pm cd doc a vs ns G Y ho hd hcd hmg hobj hints hlen hg=>?_
 have KX:=hY w _ Y
 obtain ⟨fd,hb,hF⟩:=F w mg fa _ KX G.T.g hmg
 exact Zod KX G.T.g G.T.b G.T.builtins G.T.nolimit hg hobj hints (Yu hlen hn2) hr hF hb (fun H hO hS=>hsp w H a ns hlen hO hS) fun H e s'=>hCX w H s₁ e s'
noncomputable def Zl0 (s:Stmt) (j:Nat):Stmt:=match s with
 | .ClassDef _ _ _ body _ _ _ _ _ _ _=>body.getD j (.Pass ⟨0,0,0,0⟩)
 | _=>.Pass ⟨0,0,0,0⟩
noncomputable def Zeo (s:Stmt):Arguments:=match s with
 | .FunctionDef _ a _ _ _ _ _ _ _ _=>a
 | _=>{ posonlyargs:=[],args:=[],vararg:=none,kwonlyargs:=[],kw_defaults:=[],kwarg:=none,defaults:=[] }
noncomputable def Zbz (s:Stmt):List Stmt:=match s with
 | .FunctionDef _ _ b _ _ _ _ _ _ _=>b
 | _=>[]
noncomputable def Zk (s:Stmt):Scope:=match s with
 | .FunctionDef _ _ _ _ _ _ sc _ _ _=>sc
 | _=>{ kind:=.function,names:=[],isGenerator:=false,isCoroutine:=false }
abbrev CX0:CXT:=fun _ _ _ _ _ _=>False
abbrev E0:XK:=fun _ _ _=>False
theorem ZnR {X:Cx}:ZgW CX0 X E0:=fun _ _ _ _ _ _ _ h=>h.elim
structure Fun (K:PySem.W.Frag) (x qual:Str) (st:Stmt) (f:Addr) (fd:FuncData):Prop where
 ex:∃(oc:Value) (od:Option Addr) (kV doc pm:Value) (an:Option Addr) (cdv ct:Value) (osl:Array (Option Value)),
  fd=PySem.W.fnOf x qual (Zeo st) (Zbz st) (Zk st) .none kV doc pm an cdv ct/\K.lookup f=some ⟨oc,od,.func fd,osl⟩/\PySem.W.codeIn K cdv qual=true
 kp:PySem.W.keepIn K (.ref f)=true
section
variable {P:Program} {w:World} {K:PySem.W.Frag} {mg:Str->Option Value} {base:Heap}
theorem Fun.ok {x qual:Str} {st:Stmt} {f:Addr} {fd:FuncData} {N ps:List Str} {k:Nat} {sp:Sp} (F:Fun K x qual st f fd) (S:Zp N ps (Zk st)) (len:∀vs H Q E,sp vs H Q E->vs.length=ps.length)
  (hbody:∀(cdv:Value) (A:Around) (outer:List Env) (s:Shared) (H:Hp) (vs:List V) (Q:VK) (E:XK),Room k (A.deeper (envOfC qual (Zk st) s.heap.objs.size f cdv))->sp vs H Q E->
   ∃t,PSs (ZhX CX0 P w K mg base N qual (Zk st) f cdv A outer s H E).nox (Zbz st) t/\t { nx:=fun _ H'=>Q .non H',rt:=Q } (Zez N vs) H):FnOk P w K mg base CX0 (k+1) f fd ps sp:=by
 obtain ⟨oc,od,kV,doc,pm,an,cdv,ct,osl,rfl,lk,hcd⟩:=F.ex
 refine ZwC lk hcd S len fun A outer s H vs Q E hr hsp=>?_
 obtain ⟨t,h,q⟩:=hbody cdv A outer s H vs Q E hr hsp
 exact ⟨t,h.nox,q⟩
theorem Fun.binds {x qual:Str} {st:Stmt} {f:Addr} {fd:FuncData} {ps:List Str} (F:Fun K x qual st f fd)
  (h:∀(kV doc pm:Value) (an:Option Addr) (cdv ct:Value) (us:List Value),us.length=ps.length->bindArgs (PySem.W.fnOf x qual (Zeo st) (Zbz st) (Zk st) .none kV doc pm an cdv ct) ⟨us,[]⟩=pure (ps.zip us)):Binds K fd ps []:=by
 obtain ⟨oc,od,kV,doc,pm,an,cdv,ct,osl,rfl,lk,hcd⟩:=F.ex
 exact .all (h kV doc pm an cdv ct)
theorem ZhT {x qual:Str} {st:Stmt} {f:Addr} {oc:Value} {od an:Option Addr} {osl:Array (Option Value)} {kV doc pm cdv ct:Value} (l:K.lookup f=some ⟨oc,od,.func (PySem.W.fnOf x qual (Zeo st) (Zbz st) (Zk st) .none kV doc pm an cdv ct),osl⟩)
  (c:PySem.W.codeIn K cdv qual=true) (k:PySem.W.keepIn K (.ref f)=true):Fun K x qual st f (PySem.W.fnOf x qual (Zeo st) (Zbz st) (Zk st) .none kV doc pm an cdv ct):=⟨⟨oc,od,kV,doc,pm,an,cdv,ct,osl,rfl,l,c⟩,k⟩
end
section
variable {P:Program} {w:World} {K:PySem.W.Frag} {mg:Str->Option Value} {base:Heap}
def Zv (K:PySem.W.Frag) (mg:Str->Option Value) (x:Str) (st:Stmt) (ps:List Str):Prop:=
 ∃(f:Addr) (fd:FuncData),Fun K x x st f fd/\Binds K fd ps []/\mg x=some (.ref f)
def Def (P:Program) (w:World) (K:PySem.W.Frag) (mg:Str->Option Value) (base:Heap) (k:Nat) (x:Str) (ps:List Str) (sp:Sp):Prop:=
 ∃(f:Addr) (fd:FuncData),FnOk P w K mg base CX0 k f fd ps sp/\Binds K fd ps []/\PySem.W.keepIn K (.ref f)=true/\mg x=some (.ref f)
end
section
variable {X:Cx} {k:Nat} {x:Str} {ps:List Str} {sp:Sp} {p pos:Pos} {e:Expr} {es:List Expr} {t:TA}
theorem ZnO {j:Nat} (D:Def X.prog X.w X.K X.mg X.base k x ps sp) (hr:Room j X.A) (hj:k<=j) (ha:PA X (e::es) t) (hg:Gl X x:=by rfl) (hdb:(x == ("__debug__":Str))=false:=by decide)
  (he:starEach (e::es) X.env=(false,eval e X.env)::starEach es X.env:=by rfl) (hpl:(backTo pos (starEach es X.env)).any (·.1)=false:=by rfl):PE X (.Call (.Name x p) (e::es) [] pos) (ZrV sp [] E0 t):=by
 obtain ⟨f,fd,F,b,kp,m⟩:=D
 exact ZqX F (hr.mono hj) hg m kp b .nil ZnR ha hdb he hpl
theorem ZqT {i:Int} (h:∃t,X.mg x=some (.int i t)) (hg:Gl X x:=by rfl) (hd:(x == ("__debug__":Str))=false:=by decide):PE X (.Name x pos) (tC (.int i)):=by
 obtain ⟨t,h⟩:=h
 exact ZlD hg h ⟨t,rfl⟩ hd
def ZwO (_ j:Int):Prop:=0<j/\j.natAbs.log2<9000
theorem ZnS:OpR X (binaryOp .FloorDiv) (rI ZwO fun i j=>.int (i/j)):=opI fun i j _ _ _ _ _ hc q=>by
 have h1:(0:Int)<j:=hc.1
 exact floordiv_int (by omega) (by rw [Int.fdiv_eq_ediv_of_nonneg i (by omega)]; exact q) (.inl (PyProof.noPylong_of_log2 hc.2))
end
end L2
set_option maxHeartbeats 4000000
namespace L2
open PySem PySem.Spec PyProof.Rows
theorem Zep {scope:Scope} {env:Env} (h:∀x∈scope.names,x.2=.free->∃c,env.cells.lookup x.1=some c) :
  ∃cl:List (Str×Addr),closureFor scope env=pure cl/\(∀n c,(n,c)∈cl->env.cells.lookup n=some c)/\∀x∈scope.names,x.2=.free->∃c,(x.1,c)∈cl:=by
 have key:∀(names:List (Str×NameKind)) (acc:List (Str×Addr)),(∀x∈names,x.2=.free->∃c,env.cells.lookup x.1=some c)->(∀n c,(n,c)∈acc->env.cells.lookup n=some c)->
   ∃cl:List (Str×Addr),(forIn names acc fun (x:Str×NameKind) (cs:List (Str×Addr))=>if (x.2 == NameKind.free)=true then (do let c <-cellOf env x.1; pure (ForInStep.yield ((x.1,c)::cs)):Sem _) else pure (ForInStep.yield cs))=(pure cl:Sem _)/\
    (∀n c,(n,c)∈cl->env.cells.lookup n=some c)/\(∀p∈acc,p∈cl)/\∀x∈names,x.2=.free->∃c,(x.1,c)∈cl:=by
  intro names
  induction names with
  | nil=>intro acc _ ha; exact ⟨acc,rfl,ha,fun _ p=>p,fun x hx=>nomatch hx⟩
  | cons y r ih=>
   intro acc hx ha
   obtain ⟨n,k⟩:=y
   by_cases hk:k=.free
   ·subst hk
    obtain ⟨c,hc⟩:=hx (n,.free) Ys rfl
    obtain ⟨cl,e,h1,h2,h3⟩:=ih ((n,c)::acc) (fun x z=>hx x (Yo _ z)) (fun m d z=>by
     rcases Yq.mp z with z | z
     ·cases z; exact hc
     ·exact ha m d z)
    refine ⟨cl,?_,h1,fun p z=>h2 p (Yo _ z),fun x z zf=>?_⟩
    ·have ec:cellOf env n=pure c:=by unfold cellOf; rw [hc]
     rw [List.forIn_cons]
     simp only [beq_self_eq_true,if_true,ec,pure_bind]
     exact e
    ·rcases Yq.mp z with z | z
     ·cases z; exact ⟨c,h2 _ Ys⟩
     ·exact h3 x z zf
   ·obtain ⟨cl,e,h1,h2,h3⟩:=ih acc (fun x z=>hx x (Yo _ z)) ha
    refine ⟨cl,?_,h1,h2,fun x z zf=>?_⟩
    ·have hb:(k == NameKind.free)=false:=by simpa using hk
     rw [List.forIn_cons]
     simp only [hb,Y1,if_false,pure_bind]
     exact e
    ·rcases Yq.mp z with z | z
     ·cases z; exact absurd zf hk
     ·exact h3 x z zf
 obtain ⟨cl,e,h1,_,h3⟩:=key scope.names [] h (fun n c z=>nomatch z)
 refine ⟨cl,?_,h1,h3⟩
 simp only [closureFor]
 rw [e]
 rfl
noncomputable def Cx.comp (X:Cx) (scope:Scope) (N':List Str) (cl:List (Str×Addr)) (C:Addr) (s₀:Shared) (H₀:Hp) (fp:List Addr):Cx where
 prog:=X.prog
 w:=X.w
 K:=X.K
 mg:=X.mg
 base:=X.base
 A:=X.A
 N:=N'
 s₀:=s₀
 H₀:=H₀
 env:=compEnvC scope cl C X.env
 outer:=X.stack
 stack:=X.stack
 ex:=fp
 fn:=fun _=>false
 calm:=X.calm
 pn:=[]
 xe:=fun _ _=>False
noncomputable def inner (src:List Nat) (σ:St) (x:Option V):St:=x::src.map fun j=>(σ[j]?).join
theorem ZhQ {α:Type} {l:List (Str×α)} {n:Str} {c:α} (h:(n,c)∈l):∃d,l.lookup n=some d:=by
 induction l with
 | nil=>cases h
 | cons y r ih=>
  obtain ⟨m,d⟩:=y
  by_cases e:n == m
  ·exact ⟨d,by rw [YD,e]⟩
  ·rcases Yq.mp h with z | z
   ·cases z; exact absurd (beq_self_eq_true n) e
   ·obtain ⟨d',q⟩:=ih z
    exact ⟨d',by rw [YD,Bool.eq_false_iff.mpr e]; exact q⟩
theorem Zea {env:Env} {n:Str}:∀{names:List (Str×NameKind)} {k:NameKind},(∀y∈names,y.2≠.cell)->
  (names.map fun (n,k)=>if (k == NameKind.free && env.scope.kind == .function && env.kindOf n == some .cell) then (n,NameKind.cell) else (n,k)).lookup n=some k->(k=.cell\/k=.free)->(n,NameKind.free)∈names
 | [],_,_,h,_=>by simp at h
 | (m,j)::r,k,hc,h,hk=>by
  have nc:j≠.cell:=hc (m,j) Ys
  rw [Yf] at h
  by_cases e:n == m
  ·have en:n=m:=by simpa using e
   subst en
   by_cases cnd:(j == NameKind.free && env.scope.kind == .function && env.kindOf n == some .cell)=true
   ·have:j=.free:=by
     simp only [Yt,beq_iff_eq] at cnd
     exact cnd.1.1
    rw [this]
    exact Ys
   ·simp only [cnd] at h
    rw [if_neg (by simp),YD,beq_self_eq_true] at h
    cases h
    rcases hk with rfl | rfl
    ·exact absurd rfl nc
    ·exact Ys
  ·refine Yo _ (Zea (env:=env) (k:=k) (fun y hy=>hc y (Yo _ hy)) ?_ hk)
   rw [YD] at h
   have e2:(n == (if (j == NameKind.free && env.scope.kind == .function && env.kindOf m == some .cell)=true then (m,NameKind.cell) else (m,j)).1)=false:=by
    split<;>exact Bool.eq_false_iff.mpr e
   rw [e2] at h
   exact h
theorem Zf0 {env:Env}:∀{names:List (Str×NameKind)} {x:Str},names.lookup x=some .free->
  (names.map fun (n,k)=>if (k == NameKind.free && env.scope.kind == .function && env.kindOf n == some .cell) then (n,NameKind.cell) else (n,k)).lookup x=some .cell\/
  (names.map fun (n,k)=>if (k == NameKind.free && env.scope.kind == .function && env.kindOf n == some .cell) then (n,NameKind.cell) else (n,k)).lookup x=some .free
 | [],_,h=>by simp at h
 | (n,k)::r,x,h=>by
  have ih:=@Zf0 env r x
  rw [Yf]
  cases hx:x == n with
  | true=>
   simp only [YD,hx] at h
   cases h
   by_cases hc:(NameKind.free == NameKind.free && env.scope.kind == .function && env.kindOf n == some .cell)=true
   ·left
    show List.lookup x ((if (NameKind.free == NameKind.free && env.scope.kind == .function && env.kindOf n == some .cell)=true then (n,NameKind.cell) else (n,NameKind.free))::_)=_
    rw [if_pos hc,YD,hx]
   ·right
    show List.lookup x ((if (NameKind.free == NameKind.free && env.scope.kind == .function && env.kindOf n == some .cell)=true then (n,NameKind.cell) else (n,NameKind.free))::_)=_
    rw [if_neg hc,YD,hx]
  | false=>
   simp only [YD,hx] at h
   have e:∀t,List.lookup x ((if (k == NameKind.free && env.scope.kind == .function && env.kindOf n == some .cell)=true then (n,NameKind.cell) else (n,k))::t)=List.lookup x t:=fun t=>by
    split<;>rw [YD,hx]
   rcases ih h with q | q
   ·exact .inl ((e _).trans q)
   ·exact .inr ((e _).trans q)
section
variable {X:Cx} {x:Str} {px:Pos} {iter elt:Expr} {scope:Scope} {pos:Pos} {N':List Str} {src:List Nat} {wi:TI} {te:TE}
structure Zam (scope sc:Scope) (x:Str) (N N':List Str) (src:List Nat):Prop where
 kind:scope.kind=.function
 cell:∀y∈scope.names,y.2≠.cell
 loc:∀y∈scope.names,y.2=.local->scope.names.lookup y.1=some .local
 own:scope.names.lookup x=some .local
 free:∀y∈scope.names,y.2=.free->sc.names.lookup y.1=some .cell
 nd:N'.Nodup
 names:N'=x::src.map fun j=>N.getD j x
 all:∀j∈src,j<N.length
 fr:∀j∈src,sc.names.lookup (N.getD j x)=some .cell/\scope.names.lookup (N.getD j x)=some .free
theorem ZhY {pins:List (Addr×Obj)} {σ:St} {H:Hp} {s s':Shared} {C:Addr} {cl:List (Str×Addr)} {fp:List Addr} (I:Inv X pins σ H s) (S:Zam scope X.env.scope x X.N N' src)
  (hcl:∀n c,(n,c)∈cl->X.env.cells.lookup n=some c) (hcl2:∀y∈scope.names,y.2=.free->∃c,(y.1,c)∈cl) (hC:s.heap.objs.size<=C) (hfp:∀b∈fp,ZgX X pins H b) (hfl:∀b∈fp,b<s.heap.objs.size)
  (hn:∃m,s'.heap.Ns C m) (hk:∀b o,s.heap.get? b=some o->s'.heap.get? b=some o) (ho:s'.os=s.os) (hg:s'.gens=s.gens) :
  Inv (X.comp scope N' cl C s H fp) [] (inner src σ none) H s':=by
 have cll:∀n c,cl.lookup n=some c->X.env.cells.lookup n=some c:=fun n c e=>hcl n c (PySem.mem_of_lookup e)
 refine ⟨⟨I.ok.mod,S.kind,I.ok.glob,I.ok.blt,hC,fun y z c h1 h2=>I.ok.inj y z c (cll _ _ h1) (cll _ _ h2),fun y hy=>?_,fun y c h=>absurd (show false=true from h) (by decide),I.ok.hd,I.ok.frames,.inl rfl,fun b hb=>⟨Yn (Yl (hfl b hb) hC),fun y c e=>(hfp b hb).2.2.2.2.1 y c (cll y c e)⟩,
  I.bs,Yu I.ok.bsz I.sz,fun b o e hb=>?_,fun b hb=>?_,I.stack,I.stkFree⟩,ho,?_,Un.kept hk,?_,fun y c e=>?_,I.hok.fresh hC,fun y c e=>I.freeC y c (cll y c e),fun p hp=>absurd (show p∈([]:List (Addr×Obj)) from hp) (by simp),I.hok.kept hk,?_⟩
 ·have hy':(relabel scope X.env).names.lookup y=some .cell\/(relabel scope X.env).names.lookup y=some .free:=hy
  have:(y,NameKind.free)∈scope.names:=by
   rcases hy' with h | h
   ·exact Zea S.cell h (.inl rfl)
   ·exact Zea S.cell h (.inr rfl)
  obtain ⟨c,hc⟩:=hcl2 _ this rfl
  exact ZhQ hc
 ·rcases (hfp b hb).2.2.2.1 with z | z
  ·exact I.ok.noex b o e z
  ·exact absurd (Yl (Heap.lt_size e) (Yu I.ok.bsz z)) (YB _)
 ·intro hs
  rcases Yq.mp (I.stkSub b hs) with z | z
  ·exact (hfp b hb).2.1 z
  ·exact (hfp b hb).2.2.1 z
 ·rw [hg]; exact I.bare
 ·obtain ⟨m,hm⟩:=hn
  refine ⟨m,hm,fun i y v h1 h2 h3=>?_⟩
  have h1':N'[i]?=some y:=h1
  rw [S.names] at h1'
  cases i with
  | zero=>cases (show (some none:Option (Option V))=some (some v) from h2)
  | succ k=>
   rw [Y2,Yr] at h1'
   have h2':(src.map fun j=>(σ[j]?).join)[k]?=some (some v):=h2
   rw [Yr] at h2'
   cases e:src[k]? with
   | none=>rw [e] at h1'; cases h1'
   | some j=>
    rw [e] at h1' h2'
    have hj:=List.mem_of_getElem? e
    have ey:X.N.getD j x=y:=Option.some.inj h1'
    have ev:(σ[j]?).join=some v:=Option.some.inj h2'
    have eN:X.N[j]?=some y:=by
     have:=S.all j hj
     rw [List.getElem?_eq_getElem this]
     rw [List.getD_eq_getElem?_getD,List.getElem?_eq_getElem this] at ey
     exact congrArg some ey
    have eσ:σ[j]?=some (some v):=by
     cases q:σ[j]? with
     | none=>rw [q] at ev; cases ev
     | some z=>rw [q] at ev; exact congrArg some ev
    obtain ⟨k1,k2⟩:=S.fr j hj
    rw [ey] at k1 k2
    obtain ⟨mo,hmo,hl⟩:=I.loc
    obtain ⟨u,r,l⟩:=hl j y v eN eσ (.inr (.inl k1))
    refine ⟨u,r,?_⟩
    rcases l with ⟨z,_⟩ | ⟨_,c,hc,hcell⟩
    ·have z':X.env.scope.names.lookup y=some .local:=z
     rw [k1] at z'; cases z'
    ·obtain ⟨c',hc'⟩:=hcl2 _ (PySem.mem_of_lookup k2) rfl
     obtain ⟨d,hd⟩:=ZhQ hc'
     have ed:d=c:=by
      have:=cll _ _ hd
      rw [hc] at this
      exact (Option.some.inj this).symm
     subst ed
     obtain ⟨o,e1,e2⟩:=hcell
     refine .inr ⟨?_,d,hd,o,hk _ _ e1,e2⟩
     rcases h3 with z | z | z
     ·have z':(relabel scope X.env).names.lookup y=some .local:=z
      rcases Zf0 (env:=X.env) k2 with w | w
      ·have w':(relabel scope X.env).names.lookup y=some .cell:=w
       rw [w'] at z'; cases z'
      ·have w':(relabel scope X.env).names.lookup y=some .free:=w
       rw [w'] at z'; cases z'
     ·exact .inl z
     ·exact .inr z
 ·obtain ⟨v,o,e1,e2⟩:=I.cell y c (cll y c e)
  exact ⟨v,o,hk _ _ e1,e2⟩
 ·show (inner src σ none).length=N'.length
  rw [S.names]
  unfold inner
  rw [Yc,Yc,List.length_map,List.length_map]
theorem ZkF {prog:Program} {w:World} {A:Around} {R:Result->Shared->Prop} {s:Shared} {elt target iter:Expr} {scope:Scope} {pos:Pos} {it acc:Value} {env:Env} (I:Nat->Shared->Prop)
  (turn:∀n s,I n s->wpAny (model prog w) A (pyNext it) (fun r s₁=>match r with
   | none=>R (.ok .next) s₁
   | some v=>wpAny (model prog w) A (letOwnedTupleGo target it v) (fun _ s₂=>wpAny (model prog w) A (assign target env v) (fun _ s₃=>wpAny (model prog w) A (eval elt env) (fun x s₄=>
     wpAny (model prog w) A (call (.builtin "list.append") [acc,x]) (fun _ s₅=>∃m,m<n/\I m s₅) (notedBy (model prog w) A env fun e s'=>R (.error e) s') s₄) (notedBy (model prog w) A env fun e s'=>R (.error e) s') s₃)
     (notedBy (model prog w) A env fun e s'=>R (.error e) s') s₂) (notedBy (model prog w) A env fun e s'=>R (.error e) s') s₁) (notedBy (model prog w) A env fun e s'=>R (.error e) s') s)
  (n:Nat) (h:I n s):codeAny (model prog w) A (.compLoop (.ListComp elt [⟨target,iter,[],0⟩] scope pos) 0 it acc env) R s:=by
 refine codeAny_loop rfl I (fun n s hI=>?_) n h
 show wpAny _ A ((compTurn (.ListComp elt [⟨target,iter,[],0⟩] scope pos) 0 it acc env).onRaise (fun x=>do noteFrame x env; theTreesLotGoes x)) _ _ s
 refine wpAny_noted ?_
 rw [compTurn_list1]
 refine wpAny_bind (wpAny_standAt (wpAny_bind (thn (turn n s hI) fun r s₁ h₁=>?_)))
 cases r with
 | none=>exact wpAny_pure h₁
 | some v=>
  refine wpAny_bind (thn h₁ fun _ s₂ h₂=>wpAny_bind (thn h₂ fun _ s₃ h₃=>?_))
  exact wpAny_bind (wpAny_bind (thn h₃ fun x s₄ h₄=>wpAny_bind (thn h₄ fun _ s₅ h₅=>wpAny_pure (wpAny_pure ⟨rfl,h₅⟩))))
def lcR (J:It) (src:List Nat) (σ:St) (te:TE) (H1:Hp) (Q:VK):Prop:=∃(n:Nat) (Pv:Nat->List V->Hp->Prop),n<=sizeLine/\Pv 0 [] H1/\
 (∀i ys H,i<n->Pv i ys H->J.go i H/\∀y H',J.yld i H y H'->te (inner src σ (some y)) H' fun z H2=>Pv (i+1) (ys++[z]) H2)/\
 ∀ys H,Pv n ys H->J.stop n H/\∀p,H p=none->Q (.ref p) (upd H p (.lst ys))
def tLc (wi:TI) (src:List Nat) (te:TE):TE:=fun σ H Q=>wi σ H fun J H1=>lcR J src σ te H1 Q
theorem HOk.lay {P:Program} {w:World} {H:Hp} {h:Heap} {a:Addr} {o:HO} (x:HOk P w H h) (hn:H a=none) (new:ObjOk P w (upd H a o) h a o):HOk P w (upd H a o) h:=fun b u e=>by
 by_cases hb:b=a
 ·subst hb; rw [Z9] at e; cases e; exact new
 ·rw [ZM hb] at e
  exact (x b u e).stay (fun c v _ q=>q) (fun c q=>by rw [ZM (zq q hn)]; exact q) fun c xs q=>by rw [ZM (zq q hn)]; exact q
theorem Un.lay {fs ex:List Addr} {H H1:Hp} {h h1:Heap} {a:Addr} {o:HO} (u:Un fs ex H H1 h h1) (hn:H1 a=none) (hh:h.get? a=none):Un fs ex H (upd H1 a o) h h1 where
 keep:=u.keep
 slot:=u.slot
 free:=fun b ob q n hx=>by rw [ZM (fun z=>by rw [z,hh] at q; cases q)]; exact u.free b ob q n hx
 there:=u.there
 tups:=fun b xs q=>by rw [ZM (zq (u.tups b xs q) hn)]; exact u.tups b xs q
 frzs:=fun b ob xs q=>by rw [ZM (zq (u.frzs b ob xs q) hn)]; exact u.frzs b ob xs q
 tbls:=fun b ps q=>by
  obtain ⟨m,e⟩:=u.tbls b ps q
  exact ⟨m,by rw [ZM (zq e hn)]; exact e⟩
theorem Zoc {pins:List (Addr×Obj)} {σ:St} {H:Hp} {s:Shared} {cl:List (Str×Addr)} {it:Addr} {fp:List Addr} {tn:Nat->Heap->Prop} {J:It} {n:Nat} {Pv:Nat->List V->Hp->Prop} {RR:Value->Addr->Result->Shared->Prop} {E:Value->Shared->Prop}
  (I:Inv X pins σ H s) (hcm:X.calm=true) (S:Zam scope X.env.scope x X.N N' src) (hcl:∀n c,(n,c)∈cl->X.env.cells.lookup n=some c) (hcl2:∀y∈scope.names,y.2=.free->∃c,(y.1,c)∈cl)
  (T:Zlh X.prog X.w X.K (.Name x px) J fp it tn) (t0:tn 0 s.heap) (hfp:∀b∈fp,ZgX X pins H b)
  (helt:∀(cl:List (Str×Addr)) (C:Addr) (s₀:Shared) (H₀:Hp) (fp:List Addr),PE (X.comp scope N' cl C s₀ H₀ fp) elt te)
  (hn:n<=sizeLine) (p0:Pv 0 [] H) (turn:∀i ys H,i<n->Pv i ys H->J.go i H/\∀y H',J.yld i H y H'->te (inner src σ (some y)) H' fun z H2=>Pv (i+1) (ys++[z]) H2) (stop:∀ys H,Pv n ys H->J.stop n H)
  (hR:∀(D C:Addr) (o:Obj) (ys:List V) (H':Hp) (s':Shared),Pv n ys H'->H' D=none->Inv X (pins++[(C,o)]) σ (upd H' D (.lst ys)) s'->(∃m,s'.heap.Ns C m)->ZgX X pins (upd H' D (.lst ys)) C->RR (.ref D) C (.ok .next) s') :
  wpAny (model X.prog X.w) X.A (newList []) (fun acc s₃=>wpAny (model X.prog X.w) X.A (newFunctionEnv scope X.env.globals cl [] X.env.qual none .none (some X.env)) (fun cenv s₄=>
   codeAny (model X.prog X.w) X.A (.compStart (.ListComp elt [⟨.Name x px,iter,[],0⟩] scope pos) 0 (.ref it) acc { cenv with scope:=relabel scope X.env }) (RR acc cenv.locals) s₄) E s₃) E s:=by
 refine wpAny_newObj_type (wpAny_newFunctionEnv S.cell (by intro y hy; simp at hy) (fun h₁ hns₁ hsb₁=>?_) S.kind)
 dsimp only at hns₁ hsb₁ ⊢
 generalize hH2:s.heap.push { cls:=.type "list",dict:=none,data:=.seq ([]:List Value).toArray }=H2 at hns₁ hsb₁ ⊢
 have hC:H2.objs.size=s.heap.objs.size+1:=by rw [<-hH2,Heap.size_push]
 have hDC:s.heap.objs.size≠H2.objs.size:=by rw [hC]; exact Yn (YC _)
 have hCle:s.heap.objs.size<=H2.objs.size:=by rw [hC]; exact Y7 _
 have below:∀b,b<s.heap.objs.size->b≠H2.objs.size/\b≠s.heap.objs.size:=fun b hb=>⟨by rw [hC]; exact Yn (Y5 hb),Yn hb⟩
 have old:∀b o,s.heap.get? b=some o->h₁.get? b=some o:=fun b o e=>hsb₁.extBut b o (below b (Heap.lt_size e)).1 (Heap.get?_push_of_some _ (hH2 ▸ Heap.get?_push_of_some _ e))
 have hacc:h₁.PlainList s.heap.objs.size #[]:=⟨_,hsb₁.extBut _ _ hDC (Heap.get?_push_of_some _ (hH2 ▸ Heap.get?_push_size _ rfl))⟩
 have hfl:∀b∈fp,b<s.heap.objs.size:=fun b hb=>by
  obtain ⟨o,e,_⟩:=T.obj 0 _ t0 b hb
  exact Heap.lt_size e
 have fresh:∀a,s.heap.objs.size<=a->s.heap.get? a=none:=fun a ha=>by
  cases e:s.heap.get? a with
  | none=>rfl
  | some o'=>exact absurd (Heap.lt_size e) (YI.mpr ha)
 generalize eD:s.heap.objs.size=D at hDC hacc hCle below fresh hfl hC ⊢
 generalize eC:H2.objs.size=C at hDC hCle below hC hns₁ hsb₁ ⊢
 have I1:Inv (X.comp scope N' cl C s H fp) [] (inner src σ none) H { s with heap:=h₁,toks:=s.toks+([]:List (Str×Value)).length }:=
  ZhY I S hcl hcl2 (by rw [eD]; exact hCle) hfp (by rw [eD]; exact hfl) ⟨_,hns₁⟩ old rfl rfl
 have stat:∀{H':Hp} {pl:List (Addr×Obj)},(∀p∈pl,p.1=D)->(∀b∈fp,H' b=none)->∀b∈fp,ZgX (X.comp scope N' cl C s H fp) pl H' b:=fun {H' pl} hp hn b hb=>
  ⟨hn b hb,(below b (hfl b hb)).1,fun z=>by
   rcases Yq.mp (I.stkSub b z) with q | q
   ·exact (hfp b hb).2.1 q
   ·exact (hfp b hb).2.2.1 q,.inl hb,fun y c e=>(hfp b hb).2.2.2.2.1 y c (hcl y c (PySem.mem_of_lookup e)),fun p hq=>by
   rw [hp p (by rcases Yw.mp hq with z | z; exact absurd (show p∈([]:List (Addr×Obj)) from z) (by simp); exact z)]
   exact Ne.symm (below b (hfl b hb)).2⟩
 have nD:D∉frs X.stack:=fun z=>by
  rcases Yq.mp (I.stkSub D z) with q | q
  ·have:=I.lt; rw [<-q,eD] at this; exact YB _ this
  ·exact I.nofs (a:=D) (by rw [eD]; exact Yb _) q
 have nC:C∉X.fs:=I.nofs (by rw [eD]; exact hCle)
 have cellD:∀y c,cl.lookup y=some c->c<D:=fun y c e=>by
  obtain ⟨v,q⟩:=I.cell y c (hcl y c (PySem.mem_of_lookup e))
  have:=q.lt
  rw [eD] at this
  exact this
 have loop:∀s₃:Shared,s₃={ s with heap:=h₁,toks:=s.toks+([]:List (Str×Value)).length }->
   codeAny (model X.prog X.w) X.A (.compLoop (.ListComp elt [⟨.Name x px,iter,[],0⟩] scope pos) 0 (.ref it) (.ref D) (compEnvC scope cl C X.env)) (RR (.ref D) C) s₃:=by
  rintro s₃ rfl
  refine ZkF (fun k s'=>∃(i:Nat) (ys:List V) (its:List Value) (H':Hp) (xo:Option V),Inv (X.comp scope N' cl C s H fp) [] (inner src σ xo) H' s'/\tn i s'.heap/\(∀b∈fp,H' b=none)/\s'.heap.PlainList D its.toArray/\Vals ys its/\H' D=none/\
   Pv i ys H'/\ys.length=i/\i<=n/\k=n+1-i) ?_ (n+1) ⟨0,[],[],H,none,I1,T.keep _ _ _ t0 (fun b _ o e=>old b o e),fun b hb=>(hfp b hb).1,hacc,.nil,I.hok.fresh (by rw [eD]; exact Yb _),p0,rfl,YG _,rfl⟩
  rintro k s' ⟨i,ys,its,H',xo,I3,t3,f3,l3,v3,d3,p3,e3,le3,rfl⟩
  by_cases hlt:i<n
  ·obtain ⟨go,step⟩:=turn i ys H' hlt p3
   obtain ⟨nn,oD⟩:=id l3
   have I3p:Inv (X.comp scope N' cl C s H fp) [(D,{ cls:=.type "list",data:=.seq its.toArray nn })] (inner src σ xo) H' s':=
    I3.pins_of fun p hp=>by
     have ep:p=(D,{ cls:=.type "list",data:=.seq its.toArray nn }):=by simpa using hp
     subst ep
     exact ⟨oD,d3,hDC,nD,fun v z=>by cases z⟩
   refine thn (T.item (X.comp scope N' cl C s H fp) rfl rfl rfl hcm i _ s' _ H' _ I3p (stat (by simp) f3) t3 go) fun r s4 ⟨u,hr,h4⟩=>?_
   subst hr
   refine thn h4 fun _ s5 ⟨y,H5,I5,r5,y5,st5,fr5⟩=>?_
   have I5':=I5.pinned (stat (by simp) fr5) (T.obj _ _ st5)
   have hg:PG (X.comp scope N' cl C s H fp) (.Name x px) (ZiN 0):=
    Zfn S.nd (by show N'[0]?=some x; rw [S.names]; rfl) (.inl (lookup_relabel_local S.own)) (.inr (lookup_relabel_local S.own))
   refine wpAny_mono (hg _ s5 _ H5 y u (fun σ2 H2=>σ2=inner src σ (some y)/\H2=H5) I5' r5 ⟨rfl,rfl⟩) (fun _ s6 ⟨σ6,H6,I6,e6,e6'⟩=>?_) fun _ _ z=>False.elim z
   subst e6 e6'
   refine wpAny_mono (helt cl C s H fp _ s6 _ _ _ I6 (step y _ y5)) (fun v s7 ⟨z,H7,I7,r7,q7⟩=>?_) fun _ _ z=>False.elim z
   have o7:=I7.pin (D,{ cls:=.type "list",data:=.seq its.toArray nn }) (by simp)
   have hys:its.toArray.size<=sizeLine:=by
    have:=v3.length
    rw [Yd]
    omega
   refine wpAny_list_append_plain (hsz:=hys) (items:=its.toArray) (s:=s7) ⟨nn,o7.1⟩ fun h8 hl8 hs8=>?_
   refine ⟨n+1-(i+1),by omega,i+1,ys++[z],its++[v],H7,some y,?_,?_,?_,?_,v3.append (.cons r7 .nil),o7.2.1,q7,by rw [Yj,e3]<;>rfl,hlt,rfl⟩
   ·have I7':Inv (X.comp scope N' cl C s H fp) [] (inner src σ (some y)) H7 s7:=I7.pins_of fun p hp=>absurd hp (by simp)
    exact I7'.turned (t':=s7.toks) (it:=D) (fun b o hb e=>(hs8.2 b hb).trans e) o7.2.1 hDC (.inr (by show s.heap.objs.size<=D; rw [eD]; exact Yb _)) (fun y c e=>Yn (cellD y c e)) fun p hp=>absurd (show p∈([]:List (Addr×Obj)) from hp) (by simp)
   ·refine T.keep _ _ _ st5 fun b hb o e=>(hs8.2 b (below b (hfl b hb)).2).trans ?_
    exact (I7.pin (b,o) (Yh _ (Yh _ (Zbn hb e)))).1
   ·intro b hb
    obtain ⟨o,e,_⟩:=T.obj _ _ st5 b hb
    exact (I7.pin (b,o) (Yh _ (Yh _ (Zbn hb e)))).2.1
   ·have:(its++[v]).toArray=its.toArray.push v:=by simp
    rw [this]; exact hl8
  ·have ein:i=n:=by omega
   subst ein
   obtain ⟨nn,oD⟩:=id l3
   have I3p:Inv (X.comp scope N' cl C s H fp) [(D,{ cls:=.type "list",data:=.seq its.toArray nn })] (inner src σ xo) H' s':=
    I3.pins_of fun p hp=>by
     have ep:p=(D,{ cls:=.type "list",data:=.seq its.toArray nn }):=by simpa using hp
     subst ep
     exact ⟨oD,d3,hDC,nD,fun v z=>by cases z⟩
   refine thn (T.done (X.comp scope N' cl C s H fp) rfl rfl rfl hcm i _ s' _ H' _ I3p (stat (by simp) f3) t3 (stop ys H' p3)) fun r s4 ⟨hr,I4⟩=>?_
   subst hr
   have o4:=I4.pin (D,{ cls:=.type "list",data:=.seq its.toArray nn }) (by simp)
   have newI:Inv X pins σ (upd H' D (.lst ys)) s4:=I.call' (ch:=fp) I4.os (I4.base.lay d3 (fresh D (Yb _))) (I4.hok.lay d3 ⟨by omega,its,nn,v3,o4.1⟩) I4.bare (fun b hb=>
    ⟨(hfp b hb).2.2.2.1,(hfp b hb).2.1,(hfp b hb).2.2.2.2.1,(hfp b hb).2.2.2.2.2⟩)
   obtain ⟨m,hm,_⟩:=I4.loc
   obtain ⟨o,es,ep,ho,hd,_⟩:=id hm
   refine hR D C o ys H' s4 p3 d3 (newI.pins_of fun p hp=>?_) ⟨m,hm⟩ (I.fpOk (by rw [eD]; exact hCle) (by rw [ZM (Ne.symm hDC)]; exact I4.free))
   rcases Yw.mp hp with z | z
   ·exact newI.pin p (Yh _ z)
   ·have ep:p=(C,o):=by simpa using z
    subst ep
    refine ⟨ho,by rw [ZM (Ne.symm hDC)]; exact I4.free,fun z=>?_,nC,fun v z=>?_⟩
    ·have:=I.lt
     rw [eD,<-z] at this
     exact absurd (Yl this hCle) (YB _)
    ·have z':o.data=.cell v:=z
     rw [hd] at z'; cases z'
 exact codeAny_compStart_list (loop _ rfl) (T.self _ 0 _ _ _ (T.keep _ _ _ t0 (fun b _ o e=>old b o e)) (loop _ rfl))
theorem Zv6 {sc:Scope} {N:List Str} (S:Zam scope sc x N N' src) (hsc:X.env.scope=sc) (hN:X.N=N) (hi:PI X (.Name x px) iter wi)
  (helt:∀(cl:List (Str×Addr)) (C:Addr) (s₀:Shared) (H₀:Hp) (fp:List Addr),PE (X.comp scope N' cl C s₀ H₀ fp) elt te) (hcm:X.calm=true:=by rfl) (hs:∀v,foldedSetIterable iter X.env v=pure v:=by intro _; rfl) :
  PE X (.ListComp elt [⟨.Name x px,iter,[],0⟩] scope pos) (tLc wi src te):=by
 subst hsc hN
 intro pins s σ H Q I h
 obtain ⟨cl,hclos,hcl,hcl2⟩:=Zep (scope:=scope) (env:=X.env) fun y hy hf=>I.ok.has y.1 (.inl (S.free y hy hf))
 rw [eval_ListComp]
 refine wpAny_comprehension_free (use:=none) rfl hs hclos S.kind S.loc ?_
 refine thn (hi pins s σ H _ I h) fun v s1 h1=>thn h1 fun itv s2 h2=>?_
 obtain ⟨it,fp,tn,J,H2,e,I2,T,st2,f2,n,Pv,hn,p0,turn,done⟩:=h2
 subst e
 refine Zoc I2 hcm S hcl hcl2 T st2 f2 helt hn p0 turn (fun ys H p=>(done ys H p).1) fun D C o ys H' s' p d J' hm ho=>?_
 obtain ⟨m,hm⟩:=hm
 refine ⟨m,hm,fun h' hs'=>?_⟩
 have J2:Inv X pins σ (upd H' D (.lst ys)) s':=J'.pins_of fun q hq=>J'.pin q (Yh _ (YQ _ hq))
 obtain ⟨f0,f1,f2,f3,f4,f5⟩:=ho
 exact ⟨.ref D,_,J2.turned (t':=s'.toks) (it:=C) (fun b o hb e=>(hs'.2 b hb).trans e) f0 f1 f3 f4 f5,rfl,(done ys H' p).2 D d⟩
theorem Zv1 {sc:Scope} {N:List Str} {i:Nat} {y:Str} {py spos:Pos} (hnd:X.N.Nodup) (hi':X.N[i]?=some y) (S:Zam scope sc x N N' src) (hsc:X.env.scope=sc) (hN:X.N=N) (hi:PI X (.Name x px) iter wi)
  (helt:∀(cl:List (Str×Addr)) (C:Addr) (s₀:Shared) (H₀:Hp) (fp:List Addr),PE (X.comp scope N' cl C s₀ H₀ fp) elt te) (hsw:swapsWith (.ListComp elt [⟨.Name x px,iter,[],0⟩] scope pos) (some (.Name y py)) spos.line X.env=pure true:=by rfl)
  (hy:X.env.scope.names.lookup y=some .local:=by rfl) (hcm:X.calm=true:=by rfl) (hs:∀v,foldedSetIterable iter X.env v=pure v:=by intro _; rfl) :
  PS X (.Assign [.Name y py] (.ListComp elt [⟨.Name x px,iter,[],0⟩] scope pos) spos) (Zqw (tLc wi src te) (ZiN i)):=by
 subst hsc hN
 intro pins s σ H Dn I h
 obtain ⟨cl,hclos,hcl,hcl2⟩:=Zep (scope:=scope) (env:=X.env) fun y hy hf=>I.ok.has y.1 (.inl (S.free y hy hf))
 rw [exec_Assign_Name_used _ _ _ _ hsw]
 refine wpAny_bind (wpAny_standAt (wpAny_bind ?_))
 show wpAny _ X.A (do let _ <-comprehension (.ListComp elt [⟨.Name x px,iter,[],0⟩] scope pos) scope X.env _ (newList []) false (eval iter X.env) (some (assign (.Name y py) X.env))) _ _ s
 refine wpAny_bind (wpAny_mono (wpAny_comprehension_free (use:=some (assign (.Name y py) X.env)) (Q:=fun _ s'=>SP X pins Dn .next s') rfl hs hclos S.kind S.loc ?_) (fun _ s' hq=>wpAny_pure (wpAny_pure hq)) fun _ _ e=>e)
 refine thn (hi pins s σ H _ I h) fun v s1 h1=>thn h1 fun itv s2 h2=>?_
 obtain ⟨it,fp,tn,J,H2,e,I2,T,st2,f2,n,Pv,hn,p0,turn,done⟩:=h2
 subst e
 refine Zoc I2 hcm S hcl hcl2 T st2 f2 helt hn p0 turn (fun ys H p=>(done ys H p).1) fun D C o ys H' s' p d J' hm ho=>?_
 show wpAny _ X.A (assign (.Name y py) X.env (.ref D)) _ _ _
 obtain ⟨m,hm⟩:=hm
 have hg:PG X (.Name y py) (ZiN i):=Zfn hnd hi' (.inl hy) (.inr hy)
 refine thn (hg _ s' σ _ (.ref D) (.ref D) (fun σ2 H3=>σ2=σ.set i (some (.ref D))/\H3=upd H' D (.lst ys)) J' rfl ⟨rfl,rfl⟩) fun _ s6 ⟨σ6,H6,I6,e6,e7⟩=>?_
 subst e6 e7
 have pc:=I6.pin (C,o) (by simp)
 have pc':=J'.pin (C,o) (by simp)
 refine ⟨m,hm.at fun q e=>?_,fun h' hs'=>?_⟩
 ·rw [pc'.1] at e; cases e; exact pc.1
 have J2:Inv X pins (σ.set i (some (.ref D))) (upd H' D (.lst ys)) s6:=I6.pins_of fun q hq=>I6.pin q (Yh _ (YQ _ hq))
 obtain ⟨f0,f1,f2,f3,f4,f5⟩:=ho
 exact ⟨_,_,J2.turned (t':=s6.toks) (it:=C) (fun b o hb e=>(hs'.2 b hb).trans e) f0 f1 f3 f4 f5,(done ys H' p).2 D d⟩
end
end L2
namespace L2
open PySem PySem.Spec PyProof.Rows PySem.SeqAt
section
variable {X:Cx}
theorem Ziy {ns:List Int}:∀k,k<=ns.length->preSum (fun i=>ns.getD i 0) k=(ns.take k).sum
 | 0,_=>by simp [preSum]
 | k+1,h=>by
  have hk:k<ns.length:=by omega
  rw [preSum,Ziy k (by omega),List.take_add_one,List.getElem?_eq_getElem hk,List.getD_eq_getElem?_getD,List.getElem?_eq_getElem hk]
  show _=(ns.take k++[ns[k]]).sum
  rw [List.sum_append,List.sum_cons,List.sum_nil,Int.add_zero]
  rfl
theorem ZoF (hc:X.calm=true):CallR X (.builtin "sum") (fun xs H Q=>∃(p:Addr) (ns:List Int),xs=[.ref p]/\SqL X.K H p (ns.map V.int)/\Q (.int ns.sum) H):=by
 intro pins s σ H xs us Q I r h
 obtain ⟨p,ns,rfl,hq,q⟩:=h
 obtain ⟨u,rfl,rx⟩:=Ziq r
 cases rx
 obtain ⟨its,r',pl,hz⟩:=I.list hq
 have hl:=r'.length
 rw [List.length_map] at hl
 refine call_sum_walkG (wpAny_pyIter_list pl.isList ?_)
 have hne:p≠s.heap.objs.size:=by
  obtain ⟨o,n,e,_⟩:=pl
  exact Yn (Heap.lt_size e)
 refine ⟨s.heap.objs.size,_,_,_,_,_,fun i=>ns.getD i 0,rfl,Walks.list (A:=X.A.in1) (I.ok.hd hc) _ p hne its.toArray,⟨⟨_,Heap.get?_push_size _ rfl,rfl,rfl⟩,?_⟩,?_,?_,fun h' tk t' hk=>?_⟩
 ·obtain ⟨o,n,e,hc',hd,hs⟩:=pl
  exact ⟨o,Heap.get?_push_of_some _ e,hc',n,hs⟩
 ·intro b hb
  have hb':b=s.heap.objs.size\/b=p:=by simpa using hb
  rcases hb' with rfl | rfl
  ·show _<(s.heap.push _).objs.size
   rw [Heap.size_push]; exact YC _
  ·obtain ⟨o,n,e,_⟩:=pl
   show _<(s.heap.push _).objs.size
   rw [Heap.size_push]; exact Y5 (Heap.lt_size e)
 ·intro i v hp
  have hp':its[i]?=some v:=by simpa using hp
  have hi:i<ns.length:=by rw [hl]; exact (Ye.mp hp').1
  obtain ⟨u,hu,ru⟩:=r'.get (i:=i) (x:=.int (ns.getD i 0)) (by rw [Yr,List.getElem?_eq_getElem hi,List.getD_eq_getElem?_getD,List.getElem?_eq_getElem hi]; rfl)
  rw [hp'] at hu; cases hu
  exact ru
 ·refine ⟨.int ns.sum,H,(I.kept (t':=s.toks) fun b o e=>Heap.get?_push_of_some _ e).turned (it:=s.heap.objs.size) (fun b o hb e=>hk b o (by simpa using hb) e) (I.hok.fresh (Yb _)) (Jj I.lt) (.inr I.sz) (fun x c e z=>?_) (fun q hq z=>?_),⟨t',?_⟩,q⟩
  ·obtain ⟨v,w'⟩:=I.cell x c e
   exact absurd w'.lt (by rw [z]; exact YB _)
  ·exact absurd (Heap.lt_size (I.pin q hq).1) (by rw [z]; exact YB _)
  ·rw [Yd,<-hl,Ziy _ (Yb _),List.take_length]
mutual
inductive RdV (K:PySem.W.Frag) (H:Hp):V->PyData->Prop
 | non:RdV K H .non .none
 | bl (b:Bool):RdV K H (.bl b) (.bool b)
 | int (i:Int):RdV K H (.int i) (.int i)
 | str (x:Str):RdV K H (.str x) (.str x)
 | lst {a:Addr} {xs:List V} {ds:List PyData}:SqL K H a xs->RdVs K H xs ds->RdV K H (.ref a) (.list ds)
 | tup {a:Addr} {xs:List V} {ds:List PyData}:SqT K H a xs->RdVs K H xs ds->RdV K H (.ref a) (.tuple ds)
inductive RdVs (K:PySem.W.Frag) (H:Hp):List V->List PyData->Prop
 | nil:RdVs K H [] []
 | cons {x:V} {xs:List V} {d:PyData} {ds:List PyData}:RdV K H x d->RdVs K H xs ds->RdVs K H (x::xs) (d::ds)
end
mutual
theorem RdV.reads {pins:List (Addr×Obj)} {σ:St} {H:Hp} {s:Shared} (I:Inv X pins σ H s):∀{x:V} {d:PyData} {u:Value},RdV X.K H x d->RelV x u->∃as,Reads s.heap u d as
 | _,_,_,.non,r=>by cases r; exact ⟨_,.none⟩
 | _,_,_,.bl b,r=>by cases r; exact ⟨_,.bool b⟩
 | _,_,_,.int i,r=>by obtain ⟨t,rfl⟩:=r; exact ⟨_,.int i t⟩
 | _,_,_,.str x,r=>by obtain ⟨t,rfl⟩:=r; exact ⟨_,.str x t⟩
 | _,_,_,.lst h hs,r=>by
  cases r
  obtain ⟨its,rv,⟨o,n,e,hc,hd,hq⟩,_⟩:=I.list h
  obtain ⟨as,q⟩:=RdVs.reads I hs rv
  exact ⟨_,.list e hc hq (by simpa using q)⟩
 | _,_,_,.tup h hs,r=>by
  cases r
  obtain ⟨its,rv,⟨o,e,hc,n,hq⟩,_⟩:=I.tuple h
  obtain ⟨as,q⟩:=RdVs.reads I hs rv
  exact ⟨_,.tuple e hc hq (by simpa using q)⟩
theorem RdVs.reads {pins:List (Addr×Obj)} {σ:St} {H:Hp} {s:Shared} (I:Inv X pins σ H s):∀{xs:List V} {ds:List PyData} {us:List Value},RdVs X.K H xs ds->Vals xs us->∃as,ReadsAll s.heap us ds as
 | _,_,_,.nil,r=>by cases r; exact ⟨_,.nil⟩
 | _,_,_,.cons h hs,r=>by
  cases r with
  | cons r rr=>
   obtain ⟨as,q⟩:=RdV.reads I h r
   obtain ⟨bs,q2⟩:=RdVs.reads I hs rr
   exact ⟨_,.cons q q2⟩
end
theorem Zuv (hu:X.A.units+64<cLine):OpR X (compareOp .Eq) (fun x y H Q=>∃d e:PyData,RdV X.K H x d/\RdV X.K H y e/\shaped d=true/\shaped e=true/\noMix d e=true/\Q (.bl (same d e)) H):=by
 intro pins s σ H x y v u Q I rx ry h
 obtain ⟨d,e,hd,he,sd,se,hm,q⟩:=h
 obtain ⟨as,ra⟩:=hd.reads I rx
 obtain ⟨bs,rb⟩:=he.reads I ry
 exact eq_dataH_same ra rb sd se hu hm ⟨.bl _,H,I,rfl,q⟩
theorem Zus (hu:X.A.units+64<cLine):OpR X (compareOp .NotEq) (fun x y H Q=>∃d e:PyData,RdV X.K H x d/\RdV X.K H y e/\shaped d=true/\shaped e=true/\noMix d e=true/\Q (.bl (!same d e)) H):=by
 intro pins s σ H x y v u Q I rx ry h
 obtain ⟨d,e,hd,he,sd,se,hm,q⟩:=h
 obtain ⟨as,ra⟩:=hd.reads I rx
 obtain ⟨bs,rb⟩:=he.reads I ry
 exact ne_dataH_same ra rb sd se hu hm ⟨.bl _,H,I,rfl,q⟩
theorem ZqZ:OpR X (compareOp .IsNot) (fun x y H Q=>∃b c:Bool,x=.bl b/\y=.bl c/\Q (.bl (!(b == c))) H):=by
 intro pins s σ H x y v u Q I rx ry h
 obtain ⟨b,c,rfl,rfl,q⟩:=h
 cases rx
 cases ry
 have e:(Value.bool b == Value.bool c)=(b == c):=by cases b<;>cases c<;>rfl
 exact wpAny_isNot_plain rfl ⟨.bl _,H,I,rfl,by rw [e]; exact q⟩
noncomputable def ZeN (xs:List V) (lo hi st:Option Int):List V:=(sliceRange (sliceBounds lo hi st xs.length).1 (sliceBounds lo hi st xs.length).2.1 (sliceBounds lo hi st xs.length).2.2).filterMap (xs[·]?)
theorem Vals.pick {xs:List V} {us:List Value} (r:Vals xs us):∀ks:List Nat,Vals (ks.filterMap (xs[·]?)) (ks.filterMap (us[·]?))
 | []=>.nil
 | k::ks=>by
  cases e:xs[k]? with
  | none=>
   have e':=r.none_of e
   rw [List.filterMap_cons_none e,List.filterMap_cons_none e']
   exact r.pick ks
  | some x=>
   obtain ⟨u,e',q⟩:=r.get e
   rw [List.filterMap_cons_some e,List.filterMap_cons_some e']
   exact .cons q (r.pick ks)
def Zzo (K:PySem.W.Frag) (te:TE) (tl th ts:TO):TE:=fun σ H Q=>te σ H fun x H1=>tl σ H1 fun l H2=>th σ H2 fun u H3=>ts σ H3 fun st H4=>∃a xs,x=.ref a/\SqL K H4 a xs/\st≠some 0/\(ZeN xs l u st).length<=sizeLine/\
 ∀p,H4 p=none->Q (.ref p) (upd H4 p (.lst (ZeN xs l u st)))
theorem Zmv {e sp:Expr} {te:TE} {lo hi:Option Expr} {tl th ts:TO} {pos p2:Pos} (he:PE X e te) (hl:PO X lo tl) (hu:PO X hi th) (hs:PO X (some sp) ts):PE X (.Subscript e (.Slice lo hi (some sp) p2) pos) (Zzo X.K te tl th ts):=by
 intro pins s σ H Q I h
 refine Subscript_ (thn (he pins s σ H _ I h) fun v s1 ⟨x,H1,I1,r1,q1⟩=>?_)
 refine wpAny_Slice (thn (hl pins s1 σ H1 _ I1 q1) fun vl s2 ⟨l,H2,I2,pl,q2⟩=>thn (hu pins s2 σ H2 _ I2 q2) fun vu s3 ⟨u,H3,I3,pu,q3⟩=>thn (hs pins s3 σ H3 _ I3 q3) fun vs s4 ⟨st,H4,I4,ps,q4⟩=>?_)
 obtain ⟨a,xs,rfl,hx,h0,hz',q⟩:=q4
 cases r1
 have I5:Inv X pins σ H4 { s4 with heap:=s4.heap.push { cls:=.type "slice",data:=.fields #[vl,vu,vs] } }:=I4.kept (t':=s4.toks) fun b ob q=>Heap.get?_push_of_some _ q
 obtain ⟨its,r,ht,hz⟩:=I5.list hx
 have hlen:=r.length
 show wpAny (model X.prog X.w) X.A (subscriptTail e (.Slice lo hi (some sp) p2) (.ref a) (.ref s4.heap.objs.size)) (EP X pins σ Q) X.xe { s4 with heap:=s4.heap.push { cls:=.type "slice",data:=.fields #[vl,vu,vs] } }
 refine tail_any (ops:=[.ref a,.ref s4.heap.objs.size]) ht.isList.typeIs slot_list_getitem.lookup (wpAny_getItem_list_slice ht.isList (Heap.IsSliceOf.new ..) pl pu ps h0 ?_ (by rw [Yd]<;>omega)) (by with_unfolding_all rfl)
 have ep:slicePick its.toArray l u st=((sliceRange (sliceBounds l u st xs.length).1 (sliceBounds l u st xs.length).2.1 (sliceBounds l u st xs.length).2.2).filterMap (its[·]?)).toArray:=by
  unfold slicePick
  rw [Yd,<-hlen]
  simp
 rw [ep]
 refine ⟨.ref _,_,I5.laid (t':=s4.toks) (o:=.lst (ZeN xs l u st)) (fun b ob q=>Heap.get?_push_of_some _ q) (Yb _) ?_,rfl,q _ (I5.hok.fresh (Yb _))⟩
 exact ⟨hz',_,0,r.pick _,Heap.get?_push_size _ rfl⟩
theorem ZgE:fillsNumberSlot (.type "tuple") "mul"=pure false:=
 PySem.fillsNumberSlot_seq (id:="tuple.__mul__") (r:=some (.builtin "tuple.__rmul__")) F.slot_tuple_mul.lookup (by decide +kernel) F.slot_tuple_rmul.lookup (by decide +kernel)
theorem Zje:seqRepeat? (.type "tuple")=pure (some (.builtin "tuple.__mul__")):=by
 unfold seqRepeat?
 rw [PySem.seqSlot_of (T:="tuple") (name:="__mul__") (id:="tuple.__mul__") F.slot_tuple_mul.lookup (by decide +kernel),PySem.seqSlot_of (T:="tuple") (name:="__rmul__") (id:="tuple.__rmul__") F.slot_tuple_rmul.lookup (by decide +kernel)]
 rfl
end
end L2
namespace L2
open PySem PySem.Spec PyProof.Rows Builtin
theorem ZhS (a:Int) (t:Tok) (l:Addr) (items:Array Value) (n:Nat) (dd:Option Addr) (sl:Array (Option Value)) :
  Meets (Builtin.«int.__rmul__» ⟨[.int a t,.ref l],[]⟩) (fun _ R s=>s.heap.get? l=some { cls:=.type "tuple",dict:=dd,data:=.seq items n,slots:=sl }/\R (.ok (.ret Value.notImplemented)) s):=
 .of_wp fun prog w A R s h=>by obtain ⟨hp,g,d,tk,os⟩:=s; obtain ⟨hl,h⟩:=h; wp_walk; exact ⟨_,rfl,h⟩
theorem Zii (l:Addr) (items:Array Value) (n:Nat) (dd:Option Addr) (sl:Array (Option Value)) (u:Tok) :
  Meets (Builtin.«tuple.__mul__» ⟨[.ref l,.int 1 u],[]⟩) (fun _ R s=>s.heap.get? l=some { cls:=.type "tuple",dict:=dd,data:=.seq items n,slots:=sl }/\R (.ok (.ret (Value.ref l))) s):=
 .of_wp fun prog w A R s h=>by
  obtain ⟨hp,g,d,tk,os⟩:=s; obtain ⟨hl,h⟩:=h
  wp_walk
  exact ⟨_,rfl,h⟩
theorem ZhB (l:Addr) (items:Array Value) (n:Nat) (dd:Option Addr) (sl:Array (Option Value)) (u:Tok) (h0:items.isEmpty=false) :
  Meets (Builtin.«tuple.__mul__» ⟨[.ref l,.int 0 u],[]⟩) (fun _ R s=>s.heap.get? l=some { cls:=.type "tuple",dict:=dd,data:=.seq items n,slots:=sl }/\R (.ok (.ret (Value.ref s.heap.objs.size))) { s with heap:=s.heap.push { cls:=.type "tuple",data:=.seq #[] } }):=
 .of_wp fun prog w A R s h=>by
  obtain ⟨hp,g,d,tk,os⟩:=s; obtain ⟨hl,h⟩:=h
  wp_walk
  exact ⟨_,rfl,h⟩
theorem ZhC (l:Addr) (items:Array Value) (n:Nat) (dd:Option Addr) (sl:Array (Option Value)) (x:Int) (u:Tok) (h0:items.isEmpty=false) (h1:2<=x) (h2:x<1000) (h3:items.size*x<=1000) :
  Meets (Builtin.«tuple.__mul__» ⟨[.ref l,.int x u],[]⟩) (fun _ R s=>s.heap.get? l=some { cls:=.type "tuple",dict:=dd,data:=.seq items n,slots:=sl }/\R (.ok (.ret (Value.ref s.heap.objs.size))) { s with heap:=s.heap.push { cls:=.type "tuple",data:=.seq (List.foldl (fun x1 x2=>x1++x2) #[] (List.replicate x.toNat items)) } }):=
 .of_wp fun prog w A R s h=>by
  obtain ⟨hp,g,d,tk,os⟩:=s; obtain ⟨hl,h⟩:=h
  have c1:¬(decide (x < -(2 ^ 63)) || decide (x≥2 ^ 63))=true:=by rw [decide_eq_false (by omega),decide_eq_false (by omega)]; decide
  have c2:¬(items.isEmpty || x == 1)=true:=by
   have:(x == 1)=false:=by simp; omega
   rw [h0,this]; decide
  have c3:¬(decide (x<=0) || items.isEmpty)=true:=by rw [h0,decide_eq_false (by omega)]; decide
  have c4:¬((items.size:Int)*x > (2 ^ 63-1)/8):=by omega
  have c5:¬Tuple.tupleTooMany ((items.size:Int)*x)=true:=by
   unfold Tuple.tupleTooMany
   rw [decide_eq_false (by rw [sizeLine_eq]; omega)]
   decide
  wp_walk
  rw [if_neg c1]
  wp_walk
  rw [if_neg c2]
  show wpAny (model prog w) A.in1 (if (decide (x<=0) || items.isEmpty)=true then _ else if (items.size:Int)*x > (2 ^ 63-1)/8 then _ else if Tuple.tupleTooMany ((items.size:Int)*x)=true then _ else _) _ _ _
  rw [if_neg c3,if_neg c4,if_neg c5]
  have hz:(List.foldl (fun x1 x2=>x1++x2) #[] (List.replicate x.toNat items)).size<=sizeLine:=by
   have:(List.replicate x.toNat items).foldl (fun x1 x2=>x1++x2) #[]=(List.replicate x.toNat items.toList).flatten.toArray:=by
    have:=Zfr items.toList x.toNat []
    simpa using this
   rw [this,Yd,Zjo,sizeLine_eq]
   have e:items.toList.length=items.size:=by simp
   rw [e]
   have e2:((x.toNat*items.size:Nat):Int)=(items.size:Int)*x:=by
    rw [Int.natCast_mul,Int.mul_comm]
    congr 1
    omega
   omega
  wp_walk
  exact ⟨_,rfl,h⟩
section
variable {X:Cx}
def ZvV (K:PySem.W.Frag):R2:=fun x y H Q=>∃(a:Addr) (k:Int) (xs:List V),x=.ref a/\y=.int k/\SqT K H a xs/\xs≠[]/\0<=k/\k<1000/\(xs.length:Int)*k<=1000/\
 (k=1->Q (.ref a) H)/\(k≠1->∀p,H p=none->Q (.ref p) (upd H p (.tup (List.replicate k.toNat xs).flatten)))
theorem op_repT:OpR X (binaryOp .Mult) (ZvV X.K):=by
 intro pins s σ H x y v u Q I rx ry h
 obtain ⟨a,k,xs,rfl,rfl,hH,hne,h0,h1,h2,q1,q2⟩:=h
 cases rx
 obtain ⟨t,rfl⟩:=ry
 obtain ⟨its,r,pl,hz⟩:=I.tuple hH
 obtain ⟨⟨oc,dd,data,sl⟩,e,hc,n,hd⟩:=pl
 simp only at hc hd
 subst hc hd
 have hl:=r.length
 have he:its.toArray.isEmpty=false:=by
  cases r with
  | nil=>exact absurd rfl hne
  | cons _ _=>rfl
 refine wpAny_binaryOp_repeat_ref (T:="tuple") (U:="int") (by decide) ⟨_,e,rfl⟩ (fun s'=>typeIs_int s' k t) ZgE F.fills_int_mul F.slot_int_rmul Zje F.slot_int_index.lookup
  (call_meets F.slot_int_rmul (typeIs_int s k t) F.entry_int_rmul (F.args_int_rmul_2 _ _) (ZhS k t a its.toArray n dd sl) ⟨e,rfl,⟨_,e,rfl⟩,?_⟩)
 by_cases k1:k=1
 ·subst k1
  exact call_meets F.slot_tuple_mul ⟨_,e,rfl⟩ F.entry_tuple_mul (F.args_tuple_mul_2 _ _) (Zii a its.toArray n dd sl t) ⟨e,.ref a,H,I,rfl,q1 rfl⟩
 ·by_cases k0:k=0
  ·subst k0
   refine call_meets F.slot_tuple_mul ⟨_,e,rfl⟩ F.entry_tuple_mul (F.args_tuple_mul_2 _ _) (ZhB a its.toArray n dd sl t he) ⟨e,.ref s.heap.objs.size,_,I.laid (t':=s.toks) (o:=.tup []) (fun b ob q=>Heap.get?_push_of_some _ q) (Yb _) ?_,rfl,?_⟩
   ·exact ⟨YG _,[],.nil,IsTup.new _ _⟩
   ·exact q2 k1 _ (I.hok.fresh (Yb _))
  ·refine call_meets F.slot_tuple_mul ⟨_,e,rfl⟩ F.entry_tuple_mul (F.args_tuple_mul_2 _ _) (ZhC a its.toArray n dd sl k t he (by omega) h1 (by rw [Yd,<-hl]; exact h2)) ⟨e,?_⟩
   have hnew:List.foldl (fun x1 x2=>x1++x2) #[] (List.replicate k.toNat its.toArray)=(List.replicate k.toNat its).flatten.toArray:=by
    have:=Zfr its k.toNat []
    rw [YW] at this
    exact this
   rw [hnew]
   refine ⟨.ref s.heap.objs.size,_,I.laid (t':=s.toks) (o:=.tup (List.replicate k.toNat xs).flatten) (fun b ob q=>Heap.get?_push_of_some _ q) (Yb _) ?_,rfl,q2 k1 _ (I.hok.fresh (Yb _))⟩
   refine ⟨?_,_,r.rep k.toNat,IsTup.new _ _⟩
   rw [Zjo,sizeLine_eq]
   have e2:((k.toNat*xs.length:Nat):Int)=(xs.length:Int)*k:=by
    rw [Int.natCast_mul,Int.mul_comm]
    congr 1
    omega
   omega
end
end L2
namespace My
open PySem L2
noncomputable def ZbM (t:Int):Int:=if t=0 then 0 else (t-1) % 65535+1
theorem Zrr {t:Int} (h:0<=t):0<=ZbM t/\ZbM t<=65535/\(ZbM t-t) % 65535=0/\(ZbM t=0↔t=0):=by
 unfold ZbM; split<;>omega
theorem ZfN {t:Int} (h:0<=t) (h1:t<=65535):ZbM t=t:=by
 unfold ZbM; split<;>omega
theorem ZiO {t:Int} (h:65535<t):ZbM (t % 65536+t/65536)=ZbM t/\0<=t % 65536+t/65536/\t % 65536+t/65536<t:=by
 unfold ZbM
 rw [if_neg (by omega),if_neg (by omega)]
 omega
noncomputable def Zac:List Int->Int
 | []=>0
 | [a]=>256*a
 | a::b::r=>256*a+b+Zac r
noncomputable def ZeD:List Int->List Int
 | []=>[]
 | [a]=>[a]
 | a::_::r=>a::ZeD r
noncomputable def ZhI:List Int->List Int
 | []=>[]
 | [_]=>[]
 | _::b::r=>b::ZhI r
theorem Zlk:∀ns:List Int,256*(ZeD ns).sum+(ZhI ns).sum=Zac ns
 | []=>rfl
 | [a]=>by simp [ZeD,ZhI,Zac]
 | a::b::r=>by
  have:=Zlk r
  simp only [ZeD,ZhI,Zac,List.sum_cons]
  omega
theorem Zli:∀{ns:List Int},(∀z∈ns,0<=z)->0<=Zac ns
 | [],_=>by simp [Zac]
 | [a],h=>by have:=h a (by simp); simp only [Zac]; omega
 | a::b::r,h=>by
  have h1:=h a (by simp)
  have h2:=h b (by simp)
  have h3:=Zli (ns:=r) fun z hz=>h z (by simp [hz])
  simp only [Zac]; omega
theorem Zhx:∀{ns ms:List Int},ns.length % 2=0->Zac (ns++ms)=Zac ns+Zac ms
 | [],ms,_=>by simp [Zac]
 | [a],ms,h=>by simp at h
 | a::b::r,ms,h=>by
  have:=Zhx (ns:=r) (ms:=ms) (by simp only [Yc] at h; omega)
  show Zac (a::b::(r++ms))=_
  simp only [Zac,this]
  omega
theorem Zlc {w:Int} (h:0<=w):ZbM (w+(256*((65535-ZbM w)/256)+(65535-ZbM w) % 256))=65535:=by
 have e:256*((65535-ZbM w)/256)+(65535-ZbM w) % 256=65535-ZbM w:=by omega
 rw [e]
 unfold ZbM
 split<;>split<;>omega
theorem Zda:∀(m:Nat) (ns:List Int),ns.length<=2*m->((List.range m).map fun k=>2*k).filterMap (fun i=>(ns.map V.int)[i]?)=(ZeD ns).map V.int
 | 0,ns,h=>by
  have:ns=[]:=YS.mp (by omega)
  subst this; rfl
 | m+1,ns,h=>by
  rw [List.range_succ_eq_map,Yf,Je]
  have shift:∀(xs:List Int),(List.map ((fun k=>2*k)∘Nat.succ) (List.range m)).filterMap (fun i=>(xs.map V.int)[i]?)=((List.range m).map fun k=>2*k).filterMap (fun i=>((xs.drop 2).map V.int)[i]?):=fun xs=>by
   rw [List.filterMap_map,List.filterMap_map]
   congr 1
   funext k
   show (xs.map V.int)[2*(k+1)]?=((xs.drop 2).map V.int)[2*k]?
   rw [Yr,Yr,Jf]
   congr 2
   omega
  match ns,h with
  | [],_=>
   have:=shift []
   rw [List.filterMap_cons_none (by rfl),this,Zda m _ (by simp)]
   rfl
  | [a],_=>
   have:=shift [a]
   rw [List.filterMap_cons_some (b:=V.int a) (by rfl),this,Zda m _ (by simp)]
   rfl
  | a::b::r,h=>
   have:=shift (a::b::r)
   rw [List.filterMap_cons_some (b:=V.int a) (by rfl),this,Zda m _ (by simp only [Yc] at h; simp; omega)]
   rfl
theorem ZlF:∀ns:List Int,ZhI ns=ZeD (ns.drop 1)
 | []=>rfl
 | [_]=>rfl
 | [_,_]=>rfl
 | _::b::c::r=>by
  have:=ZlF (c::r)
  simp only [ZhI,List.drop,ZeD] at *
  rw [this]
theorem ZmR (ns:List Int):ZeN (ns.map V.int) none none (some 2)=(ZeD ns).map V.int:=by
 unfold ZeN sliceBounds sliceRange
 simp only [Option.getD_some,List.length_map,show ((2:Int) > 0)=True from eq_true (by decide),if_true]
 have e:(if (0:Int)<(ns.length:Int) then ((ns.length:Int)-0+2-1)/2 else 0).toNat=(ns.length+1)/2:=by split<;>omega
 rw [e]
 have e2:(fun k:Nat=>((0:Int)+2*(k:Int)).toNat)=fun k=>2*k:=by funext k; omega
 rw [e2]
 exact Zda _ ns (by omega)
theorem ZoB (ns:List Int):ZeN (ns.map V.int) (some 1) none (some 2)=(ZhI ns).map V.int:=by
 unfold ZeN sliceBounds sliceRange
 simp only [Option.getD_some,List.length_map,show ((2:Int) > 0)=True from eq_true (by decide),show ((1:Int)<0)=False from eq_false (by decide),if_true,if_false]
 rw [ZlF]
 by_cases h:ns.length=0
 ·have:ns=[]:=YS.mp h
  subst this; rfl
 ·have e0:max (0:Int) (min 1 (ns.length:Int))=1:=by omega
  rw [e0]
  have e:(if (1:Int)<(ns.length:Int) then ((ns.length:Int)-1+2-1)/2 else 0).toNat=ns.length/2:=by split<;>omega
  rw [e,<-Zda (ns.length/2) (ns.drop 1) (by rw [Yv]; omega),List.filterMap_map,List.filterMap_map]
  congr 1
  funext k
  show (ns.map V.int)[((1:Int)+2*(k:Int)).toNat]?=((ns.drop 1).map V.int)[2*k]?
  rw [Yr,Yr,Jf]
  congr 2
theorem ZiQ:∀ns:List Int,(ZeD ns).length<=ns.length
 | []=>Yb _
 | [_]=>Yb _
 | _::_::r=>by have:=ZiQ r; simp only [ZeD,Yc]; omega
theorem Zj8:∀ns:List Int,(ZhI ns).length<=ns.length
 | []=>Yb _
 | [_]=>YG _
 | _::_::r=>by have:=Zj8 r; simp only [ZhI,Yc]; omega
end My
namespace L2
open PySem PySem.Spec PyProof.Rows
section
variable {κ:Type} [DecidableEq κ]
noncomputable def valV (kvs:List (κ×V)) (k:κ):Option V:=(kvs.find? fun kv=>decide (kv.1=k)).map (·.2)
noncomputable def ZcG (kvs:List (κ×V)) (k:κ) (v:V):List (κ×V):=
 if (kvs.any fun kv=>decide (kv.1=k))=true then kvs.map (fun kv=>if kv.1=k then (kv.1,v) else kv) else kvs++[(k,v)]
noncomputable def ZfD (kvs:List (κ×V)) (k:κ):List (κ×V):=kvs.filter fun kv=>decide (kv.1≠k)
theorem Zhz {p:κ×V} {r:List (κ×V)} {k:κ} (e:p.1=k):valV (p::r) k=some p.2:=by simp [valV,List.find?_cons,e]
theorem ZhA {p:κ×V} {r:List (κ×V)} {k:κ} (e:¬p.1=k):valV (p::r) k=valV r k:=by simp [valV,List.find?_cons,e]
theorem ZjM (k:κ):∀kvs:List (κ×V),(kvs.any fun kv=>decide (kv.1=k))=(valV kvs k).isSome
 | []=>rfl
 | p::r=>by
  rw [YK]
  by_cases e:p.1=k
  ·simp only [Zhz e,decide_eq_true e,Bool.true_or,Option.isSome_some]
  ·rw [ZhA e,decide_eq_false e,Bool.false_or]; exact ZjM k r
theorem Zdy (kvs:List (κ×V)) (k:κ) (v:V):(ZcG kvs k v).length<=kvs.length+1:=by
 unfold ZcG
 split
 ·rw [List.length_map]; omega
 ·rw [Yj,Yc,Yk]; omega
theorem RelO.isSome_eq {o:Option V} {u:Option Value} (r:RelO o u):o.isSome=u.isSome:=by
 cases o with
 | none=>cases u with
  | none=>rfl
  | some _=>exact (show False from r).elim
 | some _=>cases u with
  | none=>exact (show False from r).elim
  | some _=>rfl
theorem KV.val {kvs:List (κ×V)} {vs:List (κ×Value)} (r:KV kvs vs) (k:κ):RelO (valV kvs k) (valueAt vs k):=by
 unfold KV at r
 induction r with
 | nil=>exact True.intro
 | @cons p q ps qs h t ih=>
  obtain ⟨h1,h2⟩:=h
  by_cases e:p.1=k
  ·have e':q.1=k:=h1.symm.trans e
   have b:valueAt (q::qs) k=some q.2:=by simp [valueAt,List.find?_cons,e']
   rw [Zhz e,b]; exact h2
  ·have e':¬q.1=k:=fun z=>e (h1.trans z)
   have b:valueAt (q::qs) k=valueAt qs k:=by simp [valueAt,List.find?_cons,e']
   rw [ZhA e,b]; exact ih
theorem KV.any {kvs:List (κ×V)} {vs:List (κ×Value)} (r:KV kvs vs) (k:κ):(kvs.any fun kv=>decide (kv.1=k))=vs.any fun kv=>decide (kv.1=k):=by
 unfold KV at r
 induction r with
 | nil=>rfl
 | cons h t ih=>rw [YK,YK,ih,h.1]
theorem KV.repl {kvs:List (κ×V)} {vs:List (κ×Value)} (r:KV kvs vs) (k:κ) {y:V} {u:Value} (ry:RelV y u) :
  KV (kvs.map fun kv=>if kv.1=k then (kv.1,y) else kv) (vs.map fun kv=>if kv.1=k then (kv.1,u) else kv):=by
 unfold KV at r ⊢
 induction r with
 | nil=>exact .nil
 | @cons p q ps qs h t ih=>
  rw [Yf,Yf]
  refine .cons ?_ ih
  obtain ⟨h1,h2⟩:=h
  by_cases e:p.1=k
  ·rw [if_pos e,if_pos (h1.symm.trans e)]; exact ⟨h1,ry⟩
  ·rw [if_neg e,if_neg (fun z=>e (h1.trans z))]; exact ⟨h1,h2⟩
theorem KV.put {kvs:List (κ×V)} {vs:List (κ×Value)} (r:KV kvs vs) (k:κ) {y:V} {u:Value} (ry:RelV y u):KV (ZcG kvs k y) (stored vs k u):=by
 unfold ZcG stored
 rw [r.any k]
 by_cases e:(vs.any fun kv=>decide (kv.1=k))=true
 ·rw [if_pos e,if_pos e]; exact r.repl k ry
 ·rw [if_neg e,if_neg e]; exact Paired.snoc r ⟨rfl,ry⟩
theorem KV.drop {kvs:List (κ×V)} {vs:List (κ×Value)} (r:KV kvs vs) (k:κ):KV (ZfD kvs k) (without vs k):=by
 unfold KV at r ⊢
 unfold ZfD without
 induction r with
 | nil=>exact .nil
 | @cons p q ps qs h t ih=>
  obtain ⟨h1,h2⟩:=h
  rw [List.filter_cons,List.filter_cons]
  by_cases e:p.1=k
  ·have a:¬decide (p.1≠k)=true:=by simp [e]
   have b:¬decide (q.1≠k)=true:=by simp [h1.symm.trans e]
   rw [if_neg a,if_neg b]; exact ih
  ·have e':¬q.1=k:=fun z=>e (h1.trans z)
   have a:decide (p.1≠k)=true:=by simp [e]
   have b:decide (q.1≠k)=true:=by simp [e']
   rw [if_pos a,if_pos b]; exact .cons ⟨h1,h2⟩ ih
theorem KV.length {kvs:List (κ×V)} {vs:List (κ×Value)} (r:KV kvs vs):kvs.length=vs.length:=Paired.length r
theorem Zkx (kvs:List (κ×V)) (k:κ):(ZfD kvs k).length<=kvs.length:=YY _ _
end
theorem Zg5 {P:Program} {w:World} {k:Key} {u:Value} (r:RelV (kV k) u):(Zah P w).is k u=true:=by
 cases k with
 | inl i=>obtain ⟨t,e⟩:=(show ∃t,u=Value.int i t from r); subst e; exact Zkh P w i t
 | inr x=>obtain ⟨t,e⟩:=(show ∃t,u=Value.str x t from r); subst e; exact Zkg P w x t
theorem ZiL {P:Program} {w:World}:∀{ks:List Key} {us:List Value},Vals (ks.map kV) us->ItemsAre (Zah P w) ks us
 | [],_,r=>by rw [Ym] at r; cases r; exact .nil
 | k::ks,_,r=>by
  rw [Yf] at r
  cases r with
  | cons h t=>exact .cons (Zg5 h) (ZiL t)
abbrev KT (H:Hp):List (List Key×V)->List (List Key×Addr×Value)->Prop:=Paired fun p q=>p.1=q.1/\H q.2.1=some (.tup (p.1.map kV))/\RelV p.2 q.2.2
theorem KT.val {H:Hp} {kvs:List (List Key×V)} {xs:List (List Key×Addr×Value)} (r:KT H kvs xs) (k:List Key):RelO (valV kvs k) ((atKey xs k).map (·.2)):=by
 induction r with
 | nil=>exact True.intro
 | @cons p q ps qs h t ih=>
  obtain ⟨h1,_,h2⟩:=h
  by_cases e:p.1=k
  ·have e':q.1=k:=h1.symm.trans e
   have b:atKey (q::qs) k=some q.2:=by simp [atKey,List.find?_cons,e']
   rw [Zhz e,b]; exact h2
  ·have e':¬q.1=k:=fun z=>e (h1.trans z)
   have b:atKey (q::qs) k=atKey qs k:=by simp [atKey,List.find?_cons,e']
   rw [ZhA e,b]; exact ih
theorem KT.repl {H:Hp} {kvs:List (List Key×V)} {xs:List (List Key×Addr×Value)} (r:KT H kvs xs) (k:List Key) {y:V} {u:Value} (ry:RelV y u) :
  KT H (kvs.map fun kv=>if kv.1=k then (kv.1,y) else kv) (xs.map (putAt k u)):=by
 induction r with
 | nil=>exact .nil
 | @cons p q ps qs h t ih=>
  rw [Yf,Yf]
  refine .cons ?_ ih
  obtain ⟨h1,h2,h3⟩:=h
  unfold putAt
  by_cases e:p.1=k
  ·rw [if_pos e,if_pos (h1.symm.trans e)]; exact ⟨h1,h2,ry⟩
  ·rw [if_neg e,if_neg (fun z=>e (h1.trans z))]; exact ⟨h1,h2,h3⟩
theorem KT.put {H:Hp} {kvs:List (List Key×V)} {xs:List (List Key×Addr×Value)} (r:KT H kvs xs) (k:List Key) {b:Addr} {y:V} {u:Value} (hb:H b=some (.tup (k.map kV))) (ry:RelV y u) :
  KT H (ZcG kvs k y) (storedH xs k b u):=by
 have e:(kvs.any fun kv=>decide (kv.1=k))=(atKey xs k).isSome:=by
  rw [ZjM,(r.val k).isSome_eq,Option.isSome_map]
 unfold ZcG storedH
 rw [e]
 by_cases q:(atKey xs k).isSome=true
 ·rw [if_pos q,if_pos q]; exact r.repl k ry
 ·rw [if_neg q,if_neg q]; exact Paired.snoc r ⟨rfl,hb,ry⟩
theorem KT.keeps {H H':Hp} {kvs:List (List Key×V)} {xs:List (List Key×Addr×Value)} (r:KT H kvs xs) (ht:∀b ys,H b=some (.tup ys)->H' b=some (.tup ys)):KT H' kvs xs:=
 Paired.mapP r fun _ _ z=>⟨z.1,ht _ _ z.2.1,z.2.2⟩
section
variable {P:Program} {w:World} {H:Hp} {h:Heap} {a:Addr}
theorem ZrZ {u:HO} (ok:HOk P w H h) (e:Rd H a u):ObjOk P w H h a u:=e.ok ok
theorem ZkA {kvs:List (Key×V)} (ok:HOk P w H h) (e:Rd H a (.dK kvs)):kvs.length<=sizeLine/\(a == sysModules)=false/\∃vs,KV kvs vs/\h.DictOf (Zah P w) a vs:=
 show ObjOk P w H h a (.dK kvs) from ZrZ ok e
theorem ZkB {kvs:List (Key×V)} (ok:HOk P w H h) (e:H a=some (.dK kvs)):kvs.length<=sizeLine/\(a == sysModules)=false/\∃vs,KV kvs vs/\h.DictOf (Zah P w) a vs:=ZkA ok (.inl e)
theorem Zjq {ks:List Key} (ok:HOk P w H h) (e:H a=some (.tup (ks.map kV))):(tupleKind (Zah P w)).is h ks a:=by
 obtain ⟨_,its,r,o,h1,h2,n,h3⟩:=(show ObjOk P w H h a (.tup (ks.map kV)) from ok a _ e)
 exact ⟨o,its.toArray,n,h1,h2,h3,by simpa using ZiL r⟩
theorem Zkw {kvs:List (List Key×V)} (ok:HOk P w H h) (e:Rd H a (.dT kvs)):kvs.length<=sizeLine/\(a == sysModules)=false/\
  ∃xs,KT H kvs xs/\h.DictOfH (tupleKind (Zah P w)) a xs:=by
 obtain ⟨z,y,xs,r,o,es,ep,h1,h2,h3,h4,h5⟩:=(show ObjOk P w H h a (.dT kvs) from ZrZ ok e)
 refine ⟨z,y,xs,r,o,es,ep,h1,h2,h3,h4,fun x hx=>?_,h5⟩
 have all:∀{l:List (List Key×V)} {m:List (List Key×Addr×Value)},KT H l m->∀x∈m,(tupleKind (Zah P w)).is h x.1 x.2.1:=by
  intro l m q
  induction q with
  | nil=>intro x hx; exact nomatch hx
  | @cons p q ps qs hq t ih=>
   intro x hx
   rcases Yq.mp hx with e | hx
   ·subst e
    exact Zjq ok (by rw [<-hq.1]; exact hq.2.1)
   ·exact ih x hx
 exact all r x hx
theorem ZwE {kvs:List (List Key×V)} (ok:HOk P w H h) (e:H a=some (.dT kvs)):kvs.length<=sizeLine/\(a == sysModules)=false/\
  ∃xs,KT H kvs xs/\h.DictOfH (tupleKind (Zah P w)) a xs:=Zkw ok (.inl e)
end
def DGet (H:Hp) (a:Addr) (y:V) (r:Option V):Prop:=
 (∃kvs k,Rd H a (.dK kvs)/\y=kV k/\r=valV kvs k)\/∃kvs k b,Rd H a (.dT kvs)/\y=.ref b/\H b=some (.tup (k.map kV))/\r=valV kvs k
def DPut (H:Hp) (a:Addr) (y v:V) (H':Hp):Prop:=
 (∃kvs k,H a=some (.dK kvs)/\y=kV k/\kvs.length<sizeLine/\H'=upd H a (.dK (ZcG kvs k v)))\/
 ∃kvs k b,H a=some (.dT kvs)/\y=.ref b/\H b=some (.tup (k.map kV))/\kvs.length<sizeLine/\H'=upd H a (.dT (ZcG kvs k v))
theorem DGet.k {H:Hp} {a:Addr} {kvs:List (Key×V)} {k:Key} (e:H a=some (.dK kvs)):DGet H a (kV k) (valV kvs k):=.inl ⟨kvs,k,.inl e,rfl,rfl⟩
theorem DPut.k {H:Hp} {a:Addr} {kvs:List (Key×V)} {k:Key} {v:V} (e:H a=some (.dK kvs)) (hl:kvs.length<sizeLine):DPut H a (kV k) v (upd H a (.dK (ZcG kvs k v))):=.inl ⟨kvs,k,e,rfl,hl,rfl⟩
section
variable {X:Cx} {pins:List (Addr×Obj)} {σ:St} {H:Hp} {s:Shared} {a:Addr} {y v:V} {u r:Value} {o:Option V} {A:Around} {E:Value->Shared->Prop}
theorem Inv.big (I:Inv X pins σ H s):sysModules<s.heap.objs.size:=by
 have h:mainGlobals<s.heap.objs.size:=(I.mod.glob.keeps I.bk).lt
 exact Nat.lt_trans (by decide) h
theorem ZmQ {Q:Value->Shared->Prop} (hu:A.units+1<cLine) (I:Inv X pins σ H s) (g:DGet H a y (some v)) (ry:RelV y u) (h:∀w' s',Inv X pins σ H s'->RelV v w'->Q w' s') :
  wpAny (model X.prog X.w) A (getItem (.ref a) u) Q E s:=by
 rcases g with ⟨kvs,k,e,ey,l⟩ | ⟨kvs,k,b,e,ey,eb,l⟩
 ·subst ey
  obtain ⟨z,hd,vs,rel,dd⟩:=ZkA I.hok e
  obtain ⟨w',hw,rw'⟩:=RelO.some_of (v:=v) (o:=valueAt vs k) (by rw [l]; exact rel.val k)
  exact wpAny_getItem_of (Zg5 ry) dd.mapOf hw (h w' _ (I.tok _) rw')
 ·subst ey
  cases (show u=Value.ref b from ry)
  obtain ⟨z,hd,xs,rel,dd⟩:=Zkw I.hok e
  obtain ⟨w',hw,rw'⟩:=RelO.some_of (v:=v) (o:=(atKey xs k).map (·.2)) (by rw [l]; exact rel.val k)
  obtain ⟨p,hp,hp2⟩:=Option.map_eq_some_iff.mp hw
  refine wpAny_getItem_heap (tupleKind_room_in1 hu) (Zjq I.hok eb) dd hp ?_
  rw [hp2]
  exact h w' _ (I.tok _) rw'
theorem Zz6 {Q:Value->Shared->Prop} (hu:A.units+1<cLine) (I:Inv X pins σ H s) (g:DGet H a y o) (ry:RelV y u) (h:∀s',Inv X pins σ H s'->Q (.bool o.isSome) s') :
  wpAny (model X.prog X.w) A (compareOp .In u (.ref a)) Q E s:=by
 rcases g with ⟨kvs,k,e,ey,l⟩ | ⟨kvs,k,b,e,ey,eb,l⟩
 ·subst ey
  obtain ⟨z,hd,vs,rel,dd⟩:=ZkA I.hok e
  refine wpAny_in_of (Zg5 ry) hd dd.mapOf ?_
  rw [<-(rel.val k).isSome_eq,<-l]
  exact h _ (I.tok _)
 ·subst ey
  cases (show u=Value.ref b from ry)
  obtain ⟨z,hd,xs,rel,dd⟩:=Zkw I.hok e
  refine wpAny_in_heap (tupleKind_room_in1 hu) (Zjq I.hok eb) hd dd ?_
  have q:=(rel.val k).isSome_eq
  rw [Option.isSome_map] at q
  rw [<-q,<-l]
  exact h _ (I.tok _)
theorem Zfs {h':Heap} {t':Nat} {ob:HO} (I:Inv X pins σ H s) (mu:Mut (H a)) (hs:Heap.SameBut a s.heap h') (he:∃q,h'.get? a=some q) (new:ObjOk X.prog X.w (upd H a ob) h' a ob) :
  Inv X pins σ (upd H a ob) { s with heap:=h',toks:=t' }:=
 I.write (x:=a) (e:=a) mu (.inl rfl) (fun b q hb z=>(hs.2 b hb).trans z) he new
theorem ZhW {P:Program} {w:World} {H':Hp} {h':Heap} {kvs:List (Key×V)} {vs:List (Key×Value)} (z:kvs.length<=sizeLine) (hd:(a == sysModules)=false) (rel:KV kvs vs) (dd:h'.DictOf (Zah P w) a vs) :
  ObjOk P w H' h' a (.dK kvs):=⟨z,hd,vs,rel,dd⟩
theorem ZmP {H':Hp} {Q:Unit->Shared->Prop} (hu:A.units+1<cLine) (I:Inv X pins σ H s) (g:DPut H a y v H') (ry:RelV y u) (rv:RelV v r) (h:∀s',Inv X pins σ H' s'->Q () s') :
  wpAny (model X.prog X.w) A (setItem (.ref a) u r) Q E s:=by
 rcases g with ⟨kvs,k,e,ey,l,eH⟩ | ⟨kvs,k,b,e,ey,eb,l,eH⟩
 ·subst ey eH
  obtain ⟨z,hd,vs,rel,dd⟩:=ZkB I.hok e
  have hz:vs.length<=sizeLine:=by rw [<-rel.length]; exact z
  have hl:(ZcG kvs k v).length<=sizeLine:=by have:=Zdy kvs k v; omega
  refine wpAny_setItem_pairs (hsz:=hz) (Zg5 ry) dd fun h' dd' hs=>h _ ?_
  have he:∃q,h'.get? a=some q:=let ⟨q,_,_,hq,_⟩:=dd'; ⟨q,hq⟩
  exact Zfs I (by rw [e]; exact True.intro) hs he (ZhW hl hd (rel.put k rv) dd')
 ·subst ey eH
  cases (show u=Value.ref b from ry)
  obtain ⟨z,hd,xs,rel,dd⟩:=ZwE I.hok e
  have hz:xs.length<=sizeLine:=by rw [<-Paired.length rel]; exact z
  have hl:(ZcG kvs k v).length<=sizeLine:=by have:=Zdy kvs k v; omega
  refine wpAny_setItem_heap (hsz:=hz) (tupleKind_room_in1 hu) (Zjq I.hok eb) dd fun h' dd' hs=>h _ ?_
  obtain ⟨q,es,ep,hq,h2,h3,h4,_,h5⟩:=dd'
  refine Zfs I (by rw [e]; exact True.intro) hs ⟨q,hq⟩ ⟨hl,hd,_,(rel.put k eb rv).keeps fun c ys ec=>?_,q,es,ep,hq,h2,h3,h4,h5⟩
  rw [ZM (Zwm ec e (fun z=>nomatch z))]
  exact ec
end
section
variable {X:Cx} {pins:List (Addr×Obj)} {σ:St} {H:Hp} {s:Shared} {a:Addr} {kvs:List (Key×V)} {k:Key} {u:Value} {A:Around} {E:Value->Shared->Prop}
theorem Zvj {Q:Unit->Shared->Prop} (I:Inv X pins σ H s) (e:H a=some (.dK kvs)) (ry:RelV (kV k) u) (l:(valV kvs k).isSome=true) (h:∀s',Inv X pins σ (upd H a (.dK (ZfD kvs k))) s'->Q () s') :
  wpAny (model X.prog X.w) A (delItem (.ref a) u) Q E s:=by
 obtain ⟨z,hd,vs,rel,dd⟩:=ZkB I.hok e
 refine wpAny_delItem_slot dd.typeIs (by decide) PySem.F.slot_dict_delitem
  (call_meetsIn PySem.F.slot_dict_delitem dd.typeIs PySem.F.entry_dict_delitem (PySem.F.args_dict_delitem_2 _ _) (meets_dict_delitem_pairs (Zah X.prog X.w) a (Zg5 ry)) ⟨vs,dd,by rw [<-rel.length]; exact z,by rw [<-(rel.val k).isSome_eq]; exact l,fun h' dd' hs=>h _ ?_⟩)
 have he:∃q,h'.get? a=some q:=let ⟨q,_,_,hq,_⟩:=dd'; ⟨q,hq⟩
 exact Zfs I (by rw [e]; exact True.intro) hs he (ZhW (Yu (Zkx kvs k) z) hd (rel.drop k) dd')
theorem ZwF {v:V} {more:List Value} {Q:Value->Shared->Prop} (I:Inv X pins σ H s) (e:H a=some (.dK kvs)) (ry:RelV (kV k) u) (l:valV kvs k=some v) (hm:more=[]\/∃x,more=[x])
  (h:∀w' s',Inv X pins σ (upd H a (.dK (ZfD kvs k))) s'->RelV v w'->Q w' s'):wpAny (model X.prog X.w) A (call (.builtin "dict.pop") (.ref a::u::more)) Q E s:=by
 obtain ⟨z,hd,vs,rel,dd⟩:=ZkB I.hok e
 obtain ⟨w',hw,rw'⟩:=RelO.some_of (v:=v) (o:=valueAt vs k) (by rw [<-l]; exact rel.val k)
 have hp:(keyPart u).isSome=true:=by
  cases k with
  | inl i=>obtain ⟨t,q⟩:=(show ∃t,u=Value.int i t from ry); subst q; rfl
  | inr x=>obtain ⟨t,q⟩:=(show ∃t,u=Value.str x t from ry); subst q; rfl
 have ha:argsOk "dict.pop" ⟨.ref a::u::more,[]⟩:=by
  rcases hm with q | ⟨x,q⟩
  ·subst q; exact PySem.F.args_dict_pop_2 _ _
  ·subst q; exact PySem.F.args_dict_pop_3 _ _ _
 refine call_meetsIn PySem.F.slot_dict_pop dd.typeIs PySem.F.entry_dict_pop ha (meets_dict_pop_there (Zah X.prog X.w) a (Zg5 ry) more hm hp)
  ⟨vs,w',dd,by rw [<-rel.length]; exact z,hw,fun h' dd' hs=>h w' _ ?_ rw'⟩
 have he:∃q,h'.get? a=some q:=let ⟨q,_,_,hq,_⟩:=dd'; ⟨q,hq⟩
 exact Zfs I (by rw [e]; exact True.intro) hs he (ZhW (Yu (Zkx kvs k) z) hd (rel.drop k) dd')
end
def ZuV (i:Expr):Prop:=∀ov iv,subscripted i false ov iv=operate [ov,iv] (getItem ov iv)
theorem Zqx {prog:Program} {w:World} {A:Around} {E:Value->Shared->Prop} {s:Shared} {env:Env} {value slice:Expr} {pos:Pos} {T id:String} {Q:Value->Shared->Prop}
  (hl:typeLookup (.type T) "__getitem__"=pure (some (.builtin id))) (hs:ZuV slice)
  (h:wpAny (model prog w) A (eval value env) (fun o s₁=>wpAny (model prog w) A (eval slice env) (fun i s₂=>s₂.TypeIs o T/\wpAny (model prog w) A (getItem o i) Q E s₂) E s₁) E s) :
  wpAny (model prog w) A (eval (.Subscript value slice pos) env) Q E s:=by
 refine Subscript_ (wpAny_mono h (fun o s₁ h₁=>wpAny_mono h₁ (fun i s₂ h₂=>?_) fun _ _ x=>x) fun _ _ x=>x)
 obtain ⟨hT,h₂⟩:=h₂
 unfold subscriptTail
 refine wpAny_bind ?_
 rw [getitemInPython_of_ne hT.not_modules]
 refine wpAny_bind (wpAny_specialOf hT hl ?_)
 have fin:wpAny (model prog w) A (subscripted slice false o i) (fun r s₃=>wpAny (model prog w) A (letTemporaryGo value o r >>= fun _=>pure r) Q E s₃) E s₂:=by
  rw [hs o i]
  exact wpAny_operating (wpAny_mono h₂ (fun r s₃ h₃=>wpAny_bind (wpAny_letTemporaryGo (wpAny_pure h₃))) fun _ _ x=>x)
 first
  | exact wpAny_pure (wpAny_bind fin)
  | exact wpAny_bind (wpAny_pure (wpAny_bind fin))
  | exact wpAny_bind fin
theorem ZkD {X:Cx} {pins:List (Addr×Obj)} {σ:St} {H:Hp} {s:Shared} {a:Addr} {y:V} {o:Option V} (I:Inv X pins σ H s) (g:DGet H a y o):s.TypeIs (.ref a) "dict":=by
 rcases g with ⟨kvs,k,e,_,_⟩ | ⟨kvs,k,b,e,_,_,_⟩
 ·obtain ⟨_,_,vs,_,dd⟩:=ZkA I.hok e
  exact dd.typeIs
 ·obtain ⟨_,_,xs,_,dd⟩:=Zkw I.hok e
  exact dd.typeIs
def ZvL (td ty:TE):TE:=fun σ H Q=>td σ H fun x H1=>ty σ H1 fun y H2=>∃a v,x=.ref a/\DGet H2 a y (some v)/\Q v H2
def ZvK (ty td:TE):TE:=fun σ H Q=>ty σ H fun y H1=>td σ H1 fun x H2=>∃a o,x=.ref a/\DGet H2 a y o/\Q (.bl o.isSome) H2
def ZvS (td ty tv:TE):TS:=fun D σ H=>tv σ H fun v H1=>td σ H1 fun x H2=>ty σ H2 fun y H3=>∃a H4,x=.ref a/\DPut H3 a y v H4/\D.nx σ H4
section
variable {X:Cx} {o i e value:Expr} {pos pos' tpos:Pos} {td ty tv:TE}
theorem ZqV (hu:X.A.units+1<cLine) (ho:PE X o td) (hi:PE X i ty) (hs:ZuV i):PE X (.Subscript o i pos) (ZvL td ty):=by
 intro pins s σ H Q I h
 refine Zqx PySem.F.slot_dict_getitem.lookup hs (thn (ho pins s σ H _ I h) fun u s1 ⟨x,H1,I1,rx,q1⟩=>thn (hi pins s1 σ H1 _ I1 q1) fun iv s2 ⟨y,H2,I2,ry,a,v,ex,g,q2⟩=>?_)
 subst ex
 obtain rfl:u=Value.ref a:=rx
 exact ⟨ZkD I2 g,ZmQ hu I2 g ry fun w' s3 I3 rw'=>⟨v,H2,I3,rw',q2⟩⟩
theorem Zup (hu:X.A.units+1<cLine) (hi:PE X i ty) (ho:PE X o td):PC X .In i o (ZvK ty td):=by
 intro pins s σ H Q I h
 refine thn (hi pins s σ H _ I h) fun iv s1 ⟨y,H1,I1,ry,q1⟩=>thn (ho pins s1 σ H1 _ I1 q1) fun u s2 ⟨x,H2,I2,rx,a,ov,ex,g,q2⟩=>?_
 subst ex
 obtain rfl:u=Value.ref a:=rx
 exact Zz6 hu I2 g ry fun s3 I3=>⟨.bl ov.isSome,H2,I3,rfl,q2⟩
theorem ZqM (hu:X.A.units+1<cLine) (ho:PE X o td) (hi:PE X i ty) (hv:PE X value tv) (hs:swapsWith value (some (.Subscript o i pos')) pos.line X.env=pure false) :
  PS X (.Assign [.Subscript o i pos'] value pos) (ZvS td ty tv):=by
 intro pins s σ H D I h
 refine wpAny_Assign_Subscript (thn (hv pins s σ H _ I h) fun r s1 ⟨v,H1,I1,rv,q1⟩=>thn (ho pins s1 σ H1 _ I1 q1) fun u s2 ⟨x,H2,I2,rx,q2⟩=>thn (hi pins s2 σ H2 _ I2 q2) fun iv s3 ⟨y,H3,I3,ry,a,H4,ex,g,q3⟩=>?_) hs
 subst ex
 obtain rfl:u=Value.ref a:=rx
 exact ZmP hu I3 g ry rv fun s4 I4=>⟨σ,H4,I4,q3⟩
end
theorem ZkC {P:Program} {w:World} {H:Hp} (h:Heap) (hb:sysModules<h.objs.size):ObjOk P w H (h.push { cls:=.type "dict",data:=.dict #[] }) h.objs.size (.dK []):=
 ⟨YG _,beq_eq_false_iff_ne.mpr (Ne.symm (Yn hb)),[],.nil,Heap.DictOf.new h⟩
def ZtW:TE:=fun _ H Q=>∀p,H p=none->Q (.ref p) (upd H p (.dK []))
section
variable {X:Cx} {pos:Pos}
theorem ZnM:PE X (.Dict [] [] pos) ZtW:=fun pins s σ H Q I h=>
 wpAny_Dict_empty ⟨.ref s.heap.objs.size,_,I.laid (a:=s.heap.objs.size) (o:=.dK []) (t':=s.toks) (fun _ _ q=>Heap.get?_push_of_some _ q) (Yb _) (ZkC s.heap I.big),rfl,h _ (I.hok.fresh (Yb _))⟩
end
def Zjb:List (TE×TE)->St->Hp->(List (V×V)->Hp->Prop)->Prop
 | [],_,H,Q=>Q [] H
 | (tk,tv)::r,σ,H,Q=>tk σ H fun x H1=>tv σ H1 fun y H2=>Zjb r σ H2 fun ps H3=>Q ((x,y)::ps) H3
abbrev VV:List (V×V)->List (Value×Value)->Prop:=Paired fun p q=>RelV p.1 q.1/\RelV p.2 q.2
def PPs (X:Cx) (pos:Pos) (keys:List (Option Expr)) (values:List Expr) (trs:List (TE×TE)):Prop:=
 ∀(pins:List (Addr×Obj)) (s:Shared) (σ:St) (H:Hp) (Q:List (V×V)->Hp->Prop),Inv X pins σ H s->Zjb trs σ H Q->
  wpAny (model X.prog X.w) X.A (evalPairs (pairTrees keys values X.env pos)) (fun vs s'=>∃ps H',Inv X pins σ H' s'/\VV ps vs/\Q ps H') X.xe s
theorem ZqN {X:Cx} {pos:Pos}:PPs X pos [] [] []:=fun pins s σ H Q I h=>pairTrees_nil_walk ⟨[],H,I,.nil,h⟩
theorem ZnD {X:Cx} {pos:Pos} {k v:Expr} {ks:List (Option Expr)} {vs:List Expr} {tk tv:TE} {trs:List (TE×TE)} (hk:PE X k tk) (hv:PE X v tv) (hr:PPs X pos ks vs trs) :
  PPs X pos (some k::ks) (v::vs) ((tk,tv)::trs):=fun pins s σ H Q I h=>
 pairTrees_cons_walk (thn (hk pins s σ H _ I h) fun u s1 ⟨x,H1,I1,rx,q1⟩=>thn (hv pins s1 σ H1 _ I1 q1) fun w2 s2 ⟨y,H2,I2,ry,q2⟩=>
  thn (hr pins s2 σ H2 _ I2 q2) fun ws s3 ⟨ps,H3,I3,rel,q3⟩=>⟨(x,y)::ps,H3,I3,.cons ⟨rx,ry⟩ rel,q3⟩)
noncomputable def Zde (kvs more:List (Key×V)):List (Key×V):=more.foldl (fun acc kv=>ZcG acc kv.1 kv.2) kvs
theorem KV.merge:∀{more:List (Key×V)} {rs:List (Key×Value)} {kvs:List (Key×V)} {vs:List (Key×Value)},KV more rs->KV kvs vs->KV (Zde kvs more) (merged vs rs):=by
 intro more rs kvs vs r
 unfold KV at r
 induction r generalizing kvs vs with
 | nil=>intro q; exact q
 | @cons p q ps qs h t ih=>
  intro r0
  have e:KV (ZcG kvs p.1 p.2) (stored vs q.1 q.2):=by
   have:=r0.put p.1 h.2
   rw [<-h.1]; exact this
  exact ih e
theorem ZfC:∀(more kvs:List (Key×V)),(Zde kvs more).length<=kvs.length+more.length
 | [],kvs=>by show kvs.length<=kvs.length+0; omega
 | p::r,kvs=>by
  have h1:=ZfC r (ZcG kvs p.1 p.2)
  have h2:=Zdy kvs p.1 p.2
  show (Zde (ZcG kvs p.1 p.2) r).length<=_
  rw [Yc]; omega
theorem ZhZ {P:Program} {w:World}:∀{kvs:List (Key×V)} {ws:List (Value×Value)},VV (kvs.map fun kv=>(kV kv.1,kv.2)) ws->∃rs,Carries (Zah P w) ws rs/\KV kvs rs
 | [],_,r=>by rw [Ym] at r; cases r; exact ⟨[],True.intro,.nil⟩
 | p::kvs,_,r=>by
  rw [Yf] at r
  cases r with
  | @cons a b as bs h t=>
   obtain ⟨rs,c,q⟩:=ZhZ (P:=P) (w:=w) t
   obtain ⟨b1,b2⟩:=b
   exact ⟨(p.1,b2)::rs,⟨Zg5 h.1,rfl,c⟩,.cons ⟨rfl,h.2⟩ q⟩
def ZvJ (trs:List (TE×TE)):TE:=fun σ H Q=>∀p,H p=none->Zjb trs σ (upd H p (.dK [])) fun ps H2=>H2 p=some (.dK [])/\∃kvs:List (Key×V),ps=kvs.map (fun kv=>(kV kv.1,kv.2))/\kvs.length<=15/\Q (.ref p) (upd H2 p (.dK (Zde [] kvs)))
theorem ZqU {X:Cx} {pos:Pos} {keys:List (Option Expr)} {values:List Expr} {trs:List (TE×TE)} (h:PPs X pos keys values trs) (hall:keys.all (·.isSome)=true) (hl:keys.length=values.length) (h0:keys≠[])
  (h15:keys.length<=15):PE X (.Dict keys values pos) (ZvJ trs):=by
 intro pins s σ H Q I q
 have hn:=I.hok.fresh (Yb s.heap.objs.size)
 have I1:=I.laid (a:=s.heap.objs.size) (o:=.dK []) (h':=s.heap.push { cls:=.type "dict",data:=.dict #[] }) (t':=s.toks) (fun _ _ q=>Heap.get?_push_of_some _ q) (Yb _) (ZkC s.heap I.big)
 refine wpAny_Dict_walk (knd:=Zah X.prog X.w) hall hl h0 h15 (thn (h pins _ σ _ _ I1 (q _ hn)) fun ws s2 ⟨ps,H2,I2,rel,e,kvs,ep,lk,q2⟩=>?_)
 subst ep
 obtain ⟨rs,c,rk⟩:=ZhZ (P:=X.prog) (w:=X.w) rel
 obtain ⟨z,hd,vs0,r0,dd⟩:=ZkB I2.hok e
 cases r0
 refine ⟨rs,c,dd,fun h' dd' hs=>⟨.ref s.heap.objs.size,_,?_,rfl,q2⟩⟩
 have hz:(Zde [] kvs).length<=sizeLine:=by
  have h1:=ZfC kvs []
  rw [Yk] at h1
  rw [sizeLine_eq]; omega
 have he:∃q,h'.get? s.heap.objs.size=some q:=let ⟨q,_,_,hq,_⟩:=dd'; ⟨q,hq⟩
 exact Zfs I2 (by rw [e]; exact True.intro) hs he (ZhW hz hd (rk.merge .nil) dd')
structure M1 (X:Cx) (o:Expr) (m:Str) (apos:Pos) (e:Expr) (cpos:Pos):Prop where
 base:attributeBase o m X.env (eval o X.env)=eval o X.env
 few:((backTo cpos (starEach [e] X.env)).all (fun x=>!x.1) && (backToKw cpos (keywordEach [] X.env)).all (fun x=>x.1.isSome)
  && decide (([e]:List Expr).length+([]:List Keyword).length+(if ([]:List Keyword).isEmpty then 0 else 1)<30))=true
 line:(apos.endLine == cpos.line)=true
 trees:backTo cpos (starEach [e] X.env)=[(false,eval e X.env)]
structure M2 (X:Cx) (o:Expr) (m:Str) (apos:Pos) (e f:Expr) (cpos:Pos):Prop where
 base:attributeBase o m X.env (eval o X.env)=eval o X.env
 few:((backTo cpos (starEach [e,f] X.env)).all (fun x=>!x.1) && (backToKw cpos (keywordEach [] X.env)).all (fun x=>x.1.isSome)
  && decide (([e,f]:List Expr).length+([]:List Keyword).length+(if ([]:List Keyword).isEmpty then 0 else 1)<30))=true
 line:(apos.endLine == cpos.line)=true
 trees:backTo cpos (starEach [e,f] X.env)=[(false,eval e X.env),(false,eval f X.env)]
def IsD (H:Hp) (a:Addr):Prop:=(∃kvs,Rd H a (.dK kvs))\/∃kvs,Rd H a (.dT kvs)
theorem Zof {X:Cx} {pins:List (Addr×Obj)} {σ:St} {H:Hp} {s:Shared} {a:Addr} (I:Inv X pins σ H s) (d:IsD H a) :
  s.TypeIs (.ref a) "dict"/\(∀b,Value.ref a=.ref b->∃ob,s.heap.get? b=some ob/\ob.dict=none)/\(a == sysModules)=false:=by
 rcases d with ⟨kvs,e⟩ | ⟨kvs,e⟩
 ·obtain ⟨_,hd,vs,_,dd⟩:=ZkA I.hok e
  refine ⟨dd.typeIs,fun b q=>?_,hd⟩
  cases q
  obtain ⟨ob,_,_,h1,h2,_⟩:=dd
  exact ⟨ob,h1,h2.2.1⟩
 ·obtain ⟨_,hd,xs,_,dd⟩:=Zkw I.hok e
  refine ⟨dd.typeIs,fun b q=>?_,hd⟩
  cases q
  obtain ⟨ob,_,_,h1,h2,_⟩:=dd
  exact ⟨ob,h1,h2.2.1⟩
def ZtV (td ty:TE):TE:=fun σ H Q=>td σ H fun x H1=>∃a,x=.ref a/\IsD H1 a/\ty σ H1 fun y H2=>∃kvs k v,H2 a=some (.dK kvs)/\y=kV k/\valV kvs k=some v/\Q v (upd H2 a (.dK (ZfD kvs k)))
section
variable {X:Cx} {o e f:Expr} {apos cpos:Pos} {td ty tx:TE}
theorem ZnL (ho:PE X o td) (he:PE X e ty) (m:M1 X o "pop" apos e cpos):PE X (.Call (.Attribute o "pop" apos) [e] [] cpos) (ZtV td ty):=by
 intro pins s σ H Q I h
 refine wpAny_Call_method m.base m.few m.line PySem.F.plainAttrs_dict PySem.F.slot_dict_pop PySem.F.type_dict_pop (thn (ho pins s σ H _ I h) fun u s1 ⟨x,H1,I1,rx,a,ex,d,q1⟩=>?_)
 subst ex
 obtain rfl:u=Value.ref a:=rx
 obtain ⟨t1,t2,_⟩:=Zof I1 d
 refine ⟨t1,t2,?_⟩
 rw [m.trees]
 refine Calls.callWith_builtin rfl (Calls.evalArgs_plain (Calls.spliced_cons (thn (he pins s1 σ H1 _ I1 q1) fun iv s2 ⟨y,H2,I2,ry,kvs,k,v,ea,ey,l,q2⟩=>Calls.spliced_nil ?_)))
 subst ey
 exact ZwF I2 ea ry l (.inl rfl) fun w' s3 I3 rw'=>⟨v,_,I3,rw',q2⟩
end
end L2
namespace L2.MM
open PySem PySem.Spec PyProof.Rows
theorem nr {α:Sort _} {a b:α} (h:a=b):a=b:=h
inductive D where
 | non | bl (b:Bool) | int (i:Int) | str (x:Str) | ty (n:String)
 | scr (ns:List Int) | tup (xs:List D) | lst (xs:List D) | ref (l:Nat)
 deriving Inhabited
inductive Cell where
 | lst (xs:List D) | dK (kvs:List (Key×D)) | dT (kvs:List (List Key×D)) | ins (C:Str) (fs:List (Str×D))
abbrev Sto:=List Cell
structure Bx where
 n:Nat
 m:Nat->Addr
 F:Addr->Prop
 os:List Addr
 ks:Addr->List Int->Prop
def Bx.ok (B:Bx) (a:Addr):Prop:=(∀i,i<B.n->B.m i≠a)/\¬B.F a/\a∉B.os
mutual
def RepV (B:Bx) (H:Hp):D->V->Prop
 | .non,v=>v=.non
 | .bl b,v=>v=.bl b
 | .int i,v=>v=.int i
 | .str x,v=>v=.str x
 | .ty n,v=>v=.ty n
 | .scr ns,v=>∃a,v=.ref a/\((∃o,H a=some (.frz o (.lst (ns.map V.int)))/\B.ok a)\/B.ks a ns)
 | .tup xs,v=>∃a vs,v=.ref a/\H a=some (.tup vs)/\B.ok a/\RepL B H xs vs
 | .lst xs,v=>∃a vs,v=.ref a/\H a=some (.lst vs)/\B.ok a/\RepL B H xs vs
 | .ref l,v=>l<B.n/\v=.ref (B.m l)
def RepL (B:Bx) (H:Hp):List D->List V->Prop
 | [],vs=>vs=[]
 | d::ds,vs=>∃v r,vs=v::r/\RepV B H d v/\RepL B H ds r
end
abbrev RepKV {κ:Type} (B:Bx) (H:Hp):List (κ×D)->List (κ×V)->Prop:=Paired fun p q=>p.1=q.1/\RepV B H p.2 q.2
structure ExtS (B B':Bx) (H H':Hp):Prop where
 n:B.n<=B'.n
 m:∀i,i<B.n->B'.m i=B.m i
 fr:∀i,B.n<=i->i<B'.n->H (B'.m i)=none
 keep:∀a o,H a=some o->(∀i,i<B.n->B.m i≠a)->a∉B.os->H' a=some o
 sm:∀a,H a≠none->H' a≠none
 os:∀a,a∈B'.os->a∈B.os\/H a=none
 F:B'.F=B.F
 ks:B'.ks=B.ks
structure ExtE (B B':Bx) (H H':Hp):Prop extends ExtS B B' H H' where
 osE:B'.os=B.os
 ko:∀a o,a∈B.os->(∀i,i<B.n->B.m i≠a)->H a=some o->H' a=some o
theorem ExtS.refl (B:Bx) (H:Hp):ExtS B B H H:=⟨Yb _,fun _ _=>rfl,fun i h h'=>absurd h' (YI.mpr h),fun _ _ h _ _=>h,fun _ h=>h,fun _ h=>.inl h,rfl,rfl⟩
theorem ExtE.refl (B:Bx) (H:Hp):ExtE B B H H:=⟨ExtS.refl B H,rfl,fun _ _ _ _ h=>h⟩
section
variable {B B' B'':Bx} {H H' H'':Hp}
theorem Bx.ok.ext {a:Addr} {o:HO} (k:B.ok a) (E:ExtS B B' H H') (h:H a=some o):B'.ok a/\H' a=some o:=by
 refine ⟨⟨fun i hi e=>?_,by rw [E.F]; exact k.2.1,fun z=>?_⟩,E.keep a o h k.1 k.2.2⟩
 ·by_cases q:i<B.n
  ·rw [E.m i q] at e; exact k.1 i q e
  ·have:=E.fr i (YI.mp q) hi
   rw [e,h] at this; cases this
 ·rcases E.os a z with z | z
  ·exact k.2.2 z
  ·rw [h] at z; cases z
theorem ExtS.trans (E:ExtS B B' H H') (E':ExtS B' B'' H' H''):ExtS B B'' H H'' where
 n:=Yu E.n E'.n
 m:=fun i hi=>(E'.m i (Yl hi E.n)).trans (E.m i hi)
 fr:=fun i h1 h2=>by
  by_cases q:i<B'.n
  ·rw [E'.m i q]; exact E.fr i h1 q
  ·cases z:H (B''.m i) with
   | none=>rfl
   | some o=>exact absurd (E'.fr i (YI.mp q) h2) (E.sm _ (by rw [z]; simp))
 keep:=fun a o h h1 h2=>by
  have h':=E.keep a o h h1 h2
  refine E'.keep a o h' (fun i hi e=>?_) (fun z=>?_)
  ·by_cases q:i<B.n
   ·rw [E.m i q] at e; exact h1 i q e
   ·have:=E.fr i (YI.mp q) hi
    rw [e,h] at this; cases this
  ·rcases E.os a z with z | z
   ·exact h2 z
   ·rw [h] at z; cases z
 sm:=fun a h=>E'.sm a (E.sm a h)
 os:=fun a h=>by
  rcases E'.os a h with z | z
  ·exact E.os a z
  ·right
   cases q:H a with
   | none=>rfl
   | some o=>exact absurd z (E.sm a (by rw [q]; simp))
 F:=E'.F.trans E.F
 ks:=E'.ks.trans E.ks
theorem ExtE.trans (E:ExtE B B' H H') (E':ExtE B' B'' H' H''):ExtE B B'' H H'' where
 toExtS:=E.toExtS.trans E'.toExtS
 osE:=E'.osE.trans E.osE
 ko:=fun a o ha h1 h=>by
  have h':=E.ko a o ha h1 h
  refine E'.ko a o (by rw [E.osE]; exact ha) (fun i hi e=>?_) h'
  by_cases q:i<B.n
  ·rw [E.m i q] at e; exact h1 i q e
  ·have:=E.fr i (YI.mp q) hi
   rw [e,h] at this; cases this
mutual
theorem RepV.ext (E:ExtS B B' H H'):∀{d:D} {v:V},RepV B H d v->RepV B' H' d v
 | .non,_,h=>h
 | .bl _,_,h=>h
 | .int _,_,h=>h
 | .str _,_,h=>h
 | .ty _,_,h=>h
 | .scr _,_,h=>by
  obtain ⟨a,e,h⟩:=h
  refine ⟨a,e,?_⟩
  rcases h with ⟨o,h,k⟩ | h
  ·obtain ⟨k',h'⟩:=k.ext E h
   exact .inl ⟨o,h',k'⟩
  ·exact .inr (by rw [E.ks]; exact h)
 | .tup _,_,h=>by
  obtain ⟨a,vs,e,h,k,l⟩:=h
  obtain ⟨k',h'⟩:=k.ext E h
  exact ⟨a,vs,e,h',k',RepL.ext E l⟩
 | .lst _,_,h=>by
  obtain ⟨a,vs,e,h,k,l⟩:=h
  obtain ⟨k',h'⟩:=k.ext E h
  exact ⟨a,vs,e,h',k',RepL.ext E l⟩
 | .ref l,_,h=>⟨Yl h.1 E.n,by rw [h.2,E.m l h.1]⟩
theorem RepL.ext (E:ExtS B B' H H'):∀{ds:List D} {vs:List V},RepL B H ds vs->RepL B' H' ds vs
 | [],_,h=>h
 | _::_,_,h=>by
  obtain ⟨v,r,e,hv,hr⟩:=h
  exact ⟨v,r,e,RepV.ext E hv,RepL.ext E hr⟩
end
theorem RepL.len:∀{ds:List D} {vs:List V},RepL B H ds vs->vs.length=ds.length
 | [],_,h=>by cases (show _=[] from h); rfl
 | _::_,_,h=>by
  obtain ⟨v,r,rfl,_,hr⟩:=h
  simp [RepL.len hr]
theorem RepL.app:∀{ds es:List D} {vs us:List V},RepL B H ds vs->RepL B H es us->RepL B H (ds++es) (vs++us)
 | [],_,_,_,h,q=>by cases (show _=[] from h); exact q
 | _::_,_,_,_,h,q=>by
  obtain ⟨v,r,rfl,hv,hr⟩:=h
  exact ⟨v,_,rfl,hv,RepL.app hr q⟩
theorem RepL.get:∀{ds:List D} {vs:List V} {i:Nat} {d:D},RepL B H ds vs->ds[i]?=some d->∃v,vs[i]?=some v/\RepV B H d v
 | [],_,_,_,_,e=>by simp at e
 | _::_,_,0,_,h,e=>by
  obtain ⟨v,r,rfl,hv,_⟩:=h
  simp at e; subst e
  exact ⟨v,rfl,hv⟩
 | _::_,_,i+1,_,h,e=>by
  obtain ⟨v,r,rfl,_,hr⟩:=h
  obtain ⟨w,q1,q2⟩:=RepL.get (i:=i) hr (by simpa using e)
  exact ⟨w,by simpa using q1,q2⟩
theorem RepL.take:∀{ds:List D} {vs:List V} (n:Nat),RepL B H ds vs->RepL B H (ds.take n) (vs.take n)
 | _,_,0,_=>by rw [Jl,Jl]; exact rfl
 | [],_,n+1,h=>by cases (show _=[] from h); exact rfl
 | _::_,_,n+1,h=>by
  obtain ⟨v,r,rfl,hv,hr⟩:=h
  exact ⟨v,_,rfl,hv,RepL.take n hr⟩
theorem RepL.drop:∀{ds:List D} {vs:List V} (n:Nat),RepL B H ds vs->RepL B H (ds.drop n) (vs.drop n)
 | _,_,0,h=>h
 | [],_,n+1,h=>by cases (show _=[] from h); exact rfl
 | _::_,_,n+1,h=>by
  obtain ⟨v,r,rfl,hv,hr⟩:=h
  exact RepL.drop n hr
theorem RepL.map {α:Type} {f:α->D} {g:α->V} (q:∀a,RepV B H (f a) (g a)):∀l:List α,RepL B H (l.map f) (l.map g)
 | []=>rfl
 | a::l=>⟨_,_,rfl,q a,RepL.map q l⟩
theorem RepKV.ext {κ:Type} (E:ExtS B B' H H'):∀{ks:List (κ×D)} {vs:List (κ×V)},RepKV B H ks vs->RepKV B' H' ks vs
 | _,_,.nil=>.nil
 | _,_,.cons h t=>.cons ⟨h.1,RepV.ext E h.2⟩ (RepKV.ext E t)
end
structure Mo where
 cl:Str->Addr
 K:PySem.W.Frag
def KL (K:PySem.W.Frag) (a:Addr) (ns:List Int):Prop:=∃(o:Obj) (its:Array Value) (n:Nat),K.lookup a=some o/\o.cls=.type "list"/\o.dict=none/\o.data=.seq its n/\its.size<=sizeLine/\Vals (ns.map V.int) its.toList
def CellOk (cl:Mo) (B:Bx) (H:Hp) (a:Addr):Cell->Prop
 | .lst xs=>∃vs,H a=some (.lst vs)/\RepL B H xs vs
 | .dK kvs=>∃vs,H a=some (.dK vs)/\RepKV B H kvs vs
 | .dT kvs=>∃vs,H a=some (.dT vs)/\RepKV B H kvs vs
 | .ins C fs=>∃dx vs,H a=some (.ins (cl.cl C) dx vs)/\RepKV B H fs vs
structure Good (cl:Mo) (B:Bx) (θ:Sto) (H:Hp):Prop where
 len:θ.length=B.n
 inj:∀i j,i<B.n->j<B.n->B.m i=B.m j->i=j
 cel:∀i c,θ[i]?=some c->CellOk cl B H (B.m i) c
 cF:∀i,i<B.n->¬B.F (B.m i)/\B.m i∉B.os
 Fs:∀a,B.F a->H a≠none
 oS:∀a,a∈B.os->H a≠none
 oF:∀a,a∈B.os->¬B.F a
 kc:∀a ns,B.ks a ns->KL cl.K a ns
section
variable {cl:Mo} {B B' B'':Bx} {H H' H'':Hp} {θ θ':Sto}
theorem CellOk.ext {a:Addr} {c:Cell} (k:CellOk cl B H a c) (E:ExtS B B' H H') (h:∀o,H a=some o->H' a=some o):CellOk cl B' H' a c:=by
 cases c with
 | lst xs=>obtain ⟨vs,e,r⟩:=k; exact ⟨vs,h _ e,r.ext E⟩
 | dK kvs=>obtain ⟨vs,e,r⟩:=k; exact ⟨vs,h _ e,r.ext E⟩
 | dT kvs=>obtain ⟨vs,e,r⟩:=k; exact ⟨vs,h _ e,r.ext E⟩
 | ins C fs=>obtain ⟨dx,vs,e,r⟩:=k; exact ⟨dx,vs,h _ e,r.ext E⟩
theorem CellOk.there {a:Addr} {c:Cell} (k:CellOk cl B H a c):H a≠none:=by
 cases c with
 | lst xs=>obtain ⟨vs,e,r⟩:=k; rw [e]; simp
 | dK kvs=>obtain ⟨vs,e,r⟩:=k; rw [e]; simp
 | dT kvs=>obtain ⟨vs,e,r⟩:=k; rw [e]; simp
 | ins C fs=>obtain ⟨dx,vs,e,r⟩:=k; rw [e]; simp
theorem Good.there (G:Good cl B θ H) {i:Nat} (hi:i<B.n):H (B.m i)≠none:=by
 have:i < θ.length:=by rw [G.len]; exact hi
 exact (G.cel i _ (List.getElem?_eq_getElem this)).there
theorem Good.okNone (G:Good cl B θ H) {p:Addr} (h:H p=none):B.ok p:=
 ⟨fun i hi e=>G.there hi (by rw [e]; exact h),fun z=>G.Fs p z h,fun z=>G.oS p z h⟩
theorem ZcZ (G:Good cl B θ H) {p:Addr} (h:H p=none) (o:HO):ExtE B B H (upd H p o):=by
 have ne:∀a u,H a=some u->upd H p o a=some u:=fun a u e=>by rw [ZM (zq e h)]; exact e
 exact ⟨⟨Yb _,fun _ _=>rfl,fun i h h'=>absurd h' (YI.mpr h),fun a u e _ _=>ne a u e,fun a e=>by
  cases q:H a with
  | none=>exact absurd q e
  | some u=>rw [ne a u q]; simp,fun _ h=>.inl h,rfl,rfl⟩,rfl,fun a u _ _ e=>ne a u e⟩
theorem ZeY (G:Good cl B θ H) {p:Addr} (h:H p=none) (o:HO):Good cl B θ (upd H p o):=by
 have E:=ZcZ G h o
 exact ⟨G.len,G.inj,fun i c e=>(G.cel i c e).ext E.toExtS fun u q=>by rw [ZM (zq q h)]; exact q,G.cF,fun a z=>E.sm a (G.Fs a z),fun a z=>E.sm a (G.oS a z),G.oF,G.kc⟩
theorem ZqC (G:Good cl B θ H) {p:Addr} (h:H p=none) {xs:List D} {vs:List V} (r:RepL B H xs vs):RepV B (upd H p (.lst vs)) (.lst xs) (.ref p):=
 ⟨p,vs,rfl,Z9,G.okNone h,r.ext (ZcZ G h _).toExtS⟩
theorem ZqB (G:Good cl B θ H) {p:Addr} (h:H p=none) {xs:List D} {vs:List V} (r:RepL B H xs vs):RepV B (upd H p (.tup vs)) (.tup xs) (.ref p):=
 ⟨p,vs,rfl,Z9,G.okNone h,r.ext (ZcZ G h _).toExtS⟩
noncomputable def Bx.push (B:Bx) (p:Addr):Bx:={ B with n:=B.n+1,m:=fun i=>if i=B.n then p else B.m i }
theorem ZdY (G:Good cl B θ H) {p:Addr} (h:H p=none) (o:HO):ExtE B (B.push p) H (upd H p o):=by
 have E:=ZcZ G h o
 refine ⟨⟨Y7 _,fun i hi=>if_neg (Yn hi),fun i h1 h2=>?_,E.keep,E.sm,fun _ h=>.inl h,rfl,rfl⟩,rfl,E.ko⟩
 have e:i=B.n:=Nat.le_antisymm (Nat.le_of_lt_succ h2) h1
 show H (if i=B.n then p else B.m i)=none
 rw [if_pos e]; exact h
theorem Zfq (G:Good cl B θ H) {p:Addr} (h:H p=none) {o:HO} {c:Cell} (k:CellOk cl (B.push p) (upd H p o) p c):Good cl (B.push p) (θ++[c]) (upd H p o):=by
 have E:=ZdY G h o
 have hm:∀i,i<B.n->(B.push p).m i=B.m i:=fun i hi=>if_neg (Yn hi)
 have hn:(B.push p).m B.n=p:=if_pos rfl
 have cs:∀i,i<(B.push p).n->i<B.n\/i=B.n:=fun i hi=>Nat.lt_succ_iff_lt_or_eq.mp hi
 have ok:=G.okNone h
 refine ⟨by rw [Yj,G.len]; rfl,fun i j hi hj e=>?_,fun i c' e=>?_,fun i hi=>?_,fun a z=>E.sm a (G.Fs a z),fun a z=>E.sm a (G.oS a z),G.oF,G.kc⟩
 ·rcases cs i hi with a | a<;>rcases cs j hj with b | b
  ·rw [hm i a,hm j b] at e; exact G.inj i j a b e
  ·rw [hm i a,b,hn] at e; exact absurd e (ok.1 i a)
  ·rw [hm j b,a,hn] at e; exact absurd e.symm (ok.1 j b)
  ·rw [a,b]
 ·by_cases q:i < θ.length
  ·rw [Yp q] at e
   rw [hm i (by rw [<-G.len]; exact q)]
   exact (G.cel i c' e).ext E.toExtS fun u z=>by rw [ZM (zq z h)]; exact z
  ·have q':=YI.mp q
   rw [YA q'] at e
   have:i - θ.length=0:=by
    cases z:i - θ.length with
    | zero=>rfl
    | succ k=>rw [z] at e; simp at e
   rw [this] at e
   simp at e
   subst e
   have:i=B.n:=by rw [<-G.len]; omega
   rw [this,hn]; exact k
 ·rcases cs i hi with a | a
  ·rw [hm i a]; exact G.cF i a
  ·rw [a,hn]; exact ⟨ok.2.1,ok.2.2⟩
theorem ZcY (G:Good cl B θ H) {l:Nat} (hl:l<B.n) (o:HO):ExtE B B H (upd H (B.m l) o):=by
 have ne:∀a u,(∀i,i<B.n->B.m i≠a)->H a=some u->upd H (B.m l) o a=some u:=fun a u k e=>by rw [ZM (Ne.symm (k l hl))]; exact e
 exact ⟨⟨Yb _,fun _ _=>rfl,fun i h h'=>absurd h' (YI.mpr h),fun a u e k _=>ne a u k e,fun a e=>by
  by_cases q:a=B.m l
  ·rw [q,Z9]; simp
  ·rw [ZM q]; exact e,fun _ h=>.inl h,rfl,rfl⟩,rfl,fun a u _ k e=>ne a u k e⟩
theorem ZcK (G:Good cl B θ H) {l:Nat} (hl:l<B.n) {o:HO} {c:Cell} (k:CellOk cl B (upd H (B.m l) o) (B.m l) c):Good cl B (θ.set l c) (upd H (B.m l) o):=by
 have E:=ZcY G hl o
 refine ⟨by rw [Yx]; exact G.len,G.inj,fun i c' e=>?_,G.cF,fun a z=>E.sm a (G.Fs a z),fun a z=>E.sm a (G.oS a z),G.oF,G.kc⟩
 by_cases q:i=l
 ·subst q
  rw [Yg (by rw [G.len]; exact hl)] at e
  cases e; exact k
 ·rw [Ya (Ne.symm q)] at e
  have hi:i<B.n:=by rw [<-G.len]; exact (Ye.mp e).1
  exact (G.cel i c' e).ext E.toExtS fun u z=>by rw [ZM (fun z'=>q (G.inj i l hi hl z'))]; exact z
end
inductive R (α:Type) where
 | ok (a:α) (θ:Sto) | ex (c:Str) (θ:Sto) | bad
noncomputable def R.bind {α β:Type} (r:R α) (k:α->Sto->R β):R β:=match r with
 | .ok a θ=>k a θ
 | .ex c θ=>.ex c θ
 | .bad=>.bad
@[simp] theorem R.bind_ok {α β:Type} (a:α) (θ:Sto) (k:α->Sto->R β):(R.ok a θ).bind k=k a θ:=nr rfl
@[simp] theorem R.bind_bad {α β:Type} (k:α->Sto->R β):(R.bad:R α).bind k=.bad:=nr rfl
inductive Sl where
 | no | val (d:D) | own (xs:List D)
structure Frm (cl:Mo) (B:Bx) (θ:Sto) (ρ:List Sl) (σ:St) (H:Hp):Prop where
 good:Good cl B θ H
 len:ρ.length=σ.length
 val:∀(i:Nat) (d:D),ρ[i]?=some (Sl.val d)->∃v,σ[i]?=some (some v)/\RepV B H d v
 own:∀(i:Nat) (xs:List D),ρ[i]?=some (Sl.own xs)->∃a vs,σ[i]?=some (some (.ref a))/\a∈B.os/\H a=some (.lst vs)/\RepL B H xs vs
 ne:∀(i j:Nat) (xs ys:List D) (a:Addr),i≠j->ρ[i]?=some (Sl.own xs)->ρ[j]?=some (Sl.own ys)->σ[i]?=some (some (.ref a))->σ[j]?≠some (some (.ref a))
theorem Frm.ext {cl:Mo} {B B':Bx} {θ θ':Sto} {ρ:List Sl} {σ:St} {H H':Hp} (F:Frm cl B θ ρ σ H) (E:ExtE B B' H H') (G:Good cl B' θ' H'):Frm cl B' θ' ρ σ H' where
 good:=G
 len:=F.len
 val:=fun i d e=>let ⟨v,h1,h2⟩:=F.val i d e; ⟨v,h1,h2.ext E.toExtS⟩
 own:=fun i xs e=>by
  obtain ⟨a,vs,h1,h2,h3,h4⟩:=F.own i xs e
  exact ⟨a,vs,h1,by rw [E.osE]; exact h2,E.ko a _ h2 (fun i hi z=>(F.good.cF i hi).2 (by rw [z]; exact h2)) h3,h4.ext E.toExtS⟩
 ne:=F.ne
noncomputable def Zai (mg:Str->Option Value) (x:Str):Addr:=match mg x with
 | some (.ref a)=>a
 | _=>0
noncomputable abbrev _root_.L2.Cx.cl (X:Cx):Mo:=⟨Zai X.mg,X.K⟩
def XE (X:Cx) (σ:St) (B:Bx) (H:Hp) (c:Str) (θ':Sto):Prop:=False
theorem XE.trans {X:Cx} {σ:St} {B B':Bx} {H H':Hp} {c:Str} {θ':Sto} (h:XE X σ B H c θ') (E:ExtE B B' H H'):XE X σ B' H' c θ':=h
def wpR (X:Cx) (σ:St) {α β:Type} (Rel:Bx->Hp->α->β->Prop) (B:Bx) (H:Hp) (r:R α) (Q:β->Hp->Prop):Prop:=match r with
 | .ok a θ'=>∀B' H' b,ExtE B B' H H'->Good X.cl B' θ' H'->Rel B' H' a b->Q b H'
 | .ex c θ'=>XE X σ B H c θ'
 | .bad=>False
section
variable {X:Cx} {σ:St} {α β γ δ:Type} {Rel:Bx->Hp->α->β->Prop} {Rel':Bx->Hp->γ->δ->Prop} {B B':Bx} {H H':Hp}
theorem wpR.mono {r:R α} {Q Q':β->Hp->Prop} (h:wpR X σ Rel B H r Q) (hQ:∀b H',Q b H'->Q' b H'):wpR X σ Rel B H r Q':=by
 cases r with
 | ok a θ'=>exact fun B' H' b e g q=>hQ _ _ (h B' H' b e g q)
 | ex c θ'=>exact h
 | bad=>exact h
theorem wpR.trans {r:R α} {Q:β->Hp->Prop} (h:wpR X σ Rel B H r Q) (E:ExtE B B' H H'):wpR X σ Rel B' H' r Q:=by
 cases r with
 | ok a θ'=>exact fun B2 H2 b e g q=>h B2 H2 b (E.trans e) g q
 | ex c θ'=>exact XE.trans (c:=c) (θ':=θ') (σ:=σ) (X:=X) h E
 | bad=>exact h
theorem wpR.bind {r:R α} {k:α->Sto->R γ} {Q:δ->Hp->Prop} (h:wpR X σ Rel' B H (r.bind k) Q) :
  wpR X σ Rel B H r (fun b H1=>∃B1 θ1 a,ExtE B B1 H H1/\Good X.cl B1 θ1 H1/\Rel B1 H1 a b/\wpR X σ Rel' B1 H1 (k a θ1) Q):=by
 cases r with
 | ok a θ'=>exact fun B1 H1 b E g q=>⟨B1,θ',a,E,g,q,wpR.trans h E⟩
 | ex c θ'=>exact h
 | bad=>exact h
end
abbrev EM:=List Sl->Sto->R D
abbrev TMr:=List Sl->Sto->R Bool
abbrev AM:=List Sl->Sto->R (List D)
def EqB (_:Bx) (_:Hp) (a b:Bool):Prop:=a=b
def tM (X:Cx) (f:EM):TE:=fun σ H Q=>∃B θ ρ,Frm X.cl B θ ρ σ H/\wpR X σ RepV B H (f ρ θ) Q
def tMT (X:Cx) (f:TMr):TT:=fun σ H Q=>∃B θ ρ,Frm X.cl B θ ρ σ H/\wpR X σ EqB B H (f ρ θ) Q
def tMA (X:Cx) (f:AM):TA:=fun σ H Q=>∃B θ ρ,Frm X.cl B θ ρ σ H/\wpR X σ RepL B H (f ρ θ) Q
def ME (X:Cx) (e:Expr) (f:EM):Prop:=PE X e (tM X f)
def MT (X:Cx) (e:Expr) (f:TMr):Prop:=PT X e (tMT X f)
def MW (X:Cx) (e:Expr) (f:TMr):Prop:=PW X e (tMT X f)
def MA (X:Cx) (es:List Expr) (f:AM):Prop:=PA X es (tMA X f)
section
variable {X:Cx} {σ:St} {H:Hp} {γ δ:Type} {Rel':Bx->Hp->γ->δ->Prop}
theorem ZK {f:EM} {Q Q':VK} (h:tM X f σ H Q) (hQ:∀v H',Q v H'->Q' v H'):tM X f σ H Q':=let ⟨B,θ,ρ,F,w⟩:=h; ⟨B,θ,ρ,F,w.mono hQ⟩
theorem ZdR {f:TMr} {Q Q':Bool->Hp->Prop} (h:tMT X f σ H Q) (hQ:∀v H',Q v H'->Q' v H'):tMT X f σ H Q':=let ⟨B,θ,ρ,F,w⟩:=h; ⟨B,θ,ρ,F,w.mono hQ⟩
theorem ZbG {f:AM} {Q Q':List V->Hp->Prop} (h:tMA X f σ H Q) (hQ:∀v H',Q v H'->Q' v H'):tMA X f σ H Q':=let ⟨B,θ,ρ,F,w⟩:=h; ⟨B,θ,ρ,F,w.mono hQ⟩
variable {B:Bx} {θ:Sto} {ρ:List Sl}
theorem step {f:EM} {k:D->Sto->R γ} {Q:δ->Hp->Prop} (F:Frm X.cl B θ ρ σ H) (h:wpR X σ Rel' B H ((f ρ θ).bind k) Q) :
  tM X f σ H (fun v H1=>∃B1 θ1 d,ExtE B B1 H H1/\Frm X.cl B1 θ1 ρ σ H1/\RepV B1 H1 d v/\wpR X σ Rel' B1 H1 (k d θ1) Q):=
 ⟨B,θ,ρ,F,(wpR.bind (Rel:=RepV) h).mono fun v H1 ⟨B1,θ1,d,E,G,r,w⟩=>⟨B1,θ1,d,E,F.ext E G,r,w⟩⟩
theorem Zlx {f:TMr} {k:Bool->Sto->R γ} {Q:δ->Hp->Prop} (F:Frm X.cl B θ ρ σ H) (h:wpR X σ Rel' B H ((f ρ θ).bind k) Q) :
  tMT X f σ H (fun c H1=>∃B1 θ1,ExtE B B1 H H1/\Frm X.cl B1 θ1 ρ σ H1/\wpR X σ Rel' B1 H1 (k c θ1) Q):=
 ⟨B,θ,ρ,F,(wpR.bind (Rel:=EqB) h).mono fun v H1 ⟨B1,θ1,d,E,G,r,w⟩=>by cases (show d=v from r); exact ⟨B1,θ1,E,F.ext E G,w⟩⟩
theorem ZgZ {f:AM} {k:List D->Sto->R γ} {Q:δ->Hp->Prop} (F:Frm X.cl B θ ρ σ H) (h:wpR X σ Rel' B H ((f ρ θ).bind k) Q) :
  tMA X f σ H (fun v H1=>∃B1 θ1 d,ExtE B B1 H H1/\Frm X.cl B1 θ1 ρ σ H1/\RepL B1 H1 d v/\wpR X σ Rel' B1 H1 (k d θ1) Q):=
 ⟨B,θ,ρ,F,(wpR.bind (Rel:=RepL) h).mono fun v H1 ⟨B1,θ1,d,E,G,r,w⟩=>⟨B1,θ1,d,E,F.ext E G,r,w⟩⟩
theorem ZU {α β:Type} {Rel:Bx->Hp->α->β->Prop} {a:α} {b:β} {Q:β->Hp->Prop} (G:Good X.cl B θ H) (r:Rel B H a b) (h:wpR X σ Rel B H (.ok a θ) Q):Q b H:=h B H b (ExtE.refl B H) G r
end
theorem PE.imp {X:Cx} {e:Expr} {t t':TE} (h:PE X e t) (hi:∀σ H Q,t' σ H Q->t σ H Q):PE X e t':=fun pins s σ H Q I q=>h pins s σ H Q I (hi σ H Q q)
theorem PT.imp {X:Cx} {e:Expr} {t t':TT} (h:PT X e t) (hi:∀σ H Q,t' σ H Q->t σ H Q):PT X e t':=fun pins s σ H Q I q=>h pins s σ H Q I (hi σ H Q q)
theorem PW.imp {X:Cx} {e:Expr} {t t':TT} (h:PW X e t) (hi:∀σ H Q,t' σ H Q->t σ H Q):PW X e t':=fun wh pins s σ H Q I q=>h wh pins s σ H Q I (hi σ H Q q)
theorem PA.imp {X:Cx} {es:List Expr} {t t':TA} (h:PA X es t) (hi:∀σ H Q,t' σ H Q->t σ H Q):PA X es t':=fun pos pins s σ H Q I q=>h pos pins s σ H Q I (hi σ H Q q)
theorem OpR.imp {X:Cx} {f:Value->Value->Sem Value} {r r':R2} (h:OpR X f r) (hi:∀x y H Q,r' x y H Q->r x y H Q):OpR X f r':=fun pins s σ H x y v u Q I rx ry q=>h pins s σ H x y v u Q I rx ry (hi x y H Q q)
theorem IxR.imp {X:Cx} {r r':R2} (h:IxR X r) (hi:∀x y H Q,r' x y H Q->r x y H Q):IxR X r':=fun pins s σ H x y v u Q v1 s1 I rx ry q=>h pins s σ H x y v u Q v1 s1 I rx ry (hi _ _ _ _ q)
theorem CallR.imp {X:Cx} {f:Value} {r r':List V->Hp->VK->Prop} (h:CallR X f r) (hi:∀xs H Q,r' xs H Q->r xs H Q):CallR X f r':=fun pins s σ H xs us Q I r q=>h pins s σ H xs us Q I r (hi _ _ _ q)
end L2.MM
namespace L2.MM
open PySem PySem.Spec PyProof.Rows
noncomputable section
variable {X:Cx}
noncomputable def zK (θ:Sto):D->Option (List D)
 | .lst xs=>some xs
 | .ref l=>match θ[l]? with
  | some (.lst xs)=>some xs
  | _=>none
 | _=>none
noncomputable def seqOf (θ:Sto):D->Option (List D)
 | .tup xs=>some xs
 | .scr ns=>some (ns.map D.int)
 | d=>zK θ d
theorem ZaV {cl:Mo} {B:Bx} {θ:Sto} {H:Hp} (G:Good cl B θ H) {d:D} {v:V} {xs:List D} (r:RepV B H d v) (h:zK θ d=some xs):∃a vs,v=.ref a/\H a=some (.lst vs)/\RepL B H xs vs:=by
 cases d with
 | lst ys=>
  obtain ⟨a,vs,e,h1,_,h2⟩:=r
  cases h
  exact ⟨a,vs,e,h1,h2⟩
 | ref l=>
  obtain ⟨hl,rfl⟩:=r
  simp only [zK] at h
  split at h
  ·rename_i ys e
   cases h
   obtain ⟨vs,q1,q2⟩:=G.cel l _ e
   exact ⟨_,vs,rfl,q1,q2⟩
  ·cases h
 | _=>cases h
theorem Zc8 {cl:Mo} {B:Bx} {θ:Sto} {H:Hp} (G:Good cl B θ H) {d:D} {v:V} {xs:List D} (r:RepV B H d v) (h:seqOf θ d=some xs) :
  ∃a vs,v=.ref a/\(SqL cl.K H a vs\/SqT cl.K H a vs)/\RepL B H xs vs:=by
 cases d with
 | tup ys=>
  obtain ⟨a,vs,e,h1,_,h2⟩:=r
  cases h
  exact ⟨a,vs,e,.inr (SqT.of h1),h2⟩
 | scr ns=>
  obtain ⟨a,e,h1⟩:=r
  cases h
  refine ⟨a,ns.map V.int,e,.inl ?_,RepL.map (f:=D.int) (g:=V.int) (fun _=>rfl) ns⟩
  rcases h1 with ⟨o,h1,_⟩ | h1
  ·exact .inl (.inr ⟨o,h1⟩)
  ·exact .inr (G.kc a ns h1)
 | lst ys=>
  obtain ⟨a,vs,e,h1,h2⟩:=ZaV G r (show zK θ (.lst ys)=some xs from h)
  exact ⟨a,vs,e,.inl (SqL.of h1),h2⟩
 | ref l=>
  obtain ⟨a,vs,e,h1,h2⟩:=ZaV G r (show zK θ (.ref l)=some xs from h)
  exact ⟨a,vs,e,.inl (SqL.of h1),h2⟩
 | _=>cases h
noncomputable abbrev BIG:Nat:=100000
theorem zR {n:Nat} (h:n<=BIG):n<=sizeLine:=Yu h (by rw [sizeLine_eq]; decide)
noncomputable def Zd (i:Nat):EM:=fun ρ θ=>match ρ[i]? with
 | some (Sl.val d)=>.ok d θ
 | _=>.bad
noncomputable def mC (d:D):EM:=fun _ θ=>.ok d θ
section
variable {a b c e:Expr} {pos:Pos} {fa fb fc:EM} {ft fu:TMr}
theorem Za (i:Nat) {x:Str} {pos:Pos} (hN:X.N[i]?=some x:=by rfl) (hv:Vis X.env.scope x:=by first | exact Or.inl rfl | exact Or.inr (Or.inl rfl) | exact Or.inr (Or.inr rfl))
  (hd:(x == ("__debug__":Str))=false:=by decide) (hcd:(x == ("__classdict__":Str))=false:=by decide):ME X (.Name x pos) (Zd i):=by
 refine PE.imp (ZnF hN hv hd hcd) fun σ H Q h=>?_
 obtain ⟨B,θ,ρ,F,w⟩:=h
 unfold Zd at w
 split at w
 ·rename_i d e
  obtain ⟨v,h1,h2⟩:=F.val i d e
  exact ⟨v,h1,ZU F.good h2 w⟩
 ·exact w.elim
theorem ZmE {d:D} {v:V} (h:PE X e (tC v)) (r:∀B H,RepV B H d v):ME X e (mC d):=by
 refine PE.imp h fun σ H Q h=>?_
 obtain ⟨B,θ,ρ,F,w⟩:=h
 exact ZU F.good (r B H) w
theorem Zj {i j pos}:ME X (.Constant (.int i) j pos) (mC (.int i)):=ZmE Zum fun _ _=>rfl
theorem zC {i j pos}:ME X (.Constant (.bool i) j pos) (mC (.bl i)):=ZmE Zv8 fun _ _=>rfl
theorem ZbV {j pos}:ME X (.Constant .none j pos) (mC .non):=ZmE Zuk fun _ _=>rfl
theorem ZW {i j pos}:ME X (.Constant (.str i) j pos) (mC (.str i)):=ZmE ZnG fun _ _=>rfl
theorem Zl {x:Str} {i:Int} (h:∃t,X.mg x=some (.int i t)) (hg:Gl X x:=by rfl) (hd:(x == ("__debug__":Str))=false:=by decide):ME X (.Name x pos) (mC (.int i)):=ZmE (ZqT h hg hd) fun _ _=>rfl
theorem Zu {x:Str} {y:Str} (h:∃t,X.mg x=some (.str y t)) (hg:Gl X x:=by rfl) (hd:(x == ("__debug__":Str))=false:=by decide):ME X (.Name x pos) (mC (.str y)):=by
 obtain ⟨t,h⟩:=h
 exact ZmE (ZlD hg h (v:=.str y) ⟨t,rfl⟩ hd) fun _ _=>rfl
abbrev OM:=D->D->Sto->R D
noncomputable def mOp (g:OM) (fa fb:EM):EM:=fun ρ θ=>(fa ρ θ).bind fun x θ=>(fb ρ θ).bind fun y θ=>g x y θ
def rM (X:Cx) (g:OM):R2:=fun x y H Q=>∃σ B θ d e,Good X.cl B θ H/\RepV B H d x/\RepV B H e y/\wpR X σ RepV B H (g d e θ) Q
theorem Zlt {g:OM} (σ:St) (H:Hp) (Q:VK) (h:tM X (mOp g fa fb) σ H Q):tOp (rM X g) (tM X fa) (tM X fb) σ H Q:=by
 obtain ⟨B,θ,ρ,F,w⟩:=h
 refine ZK (step F w) ?_
 rintro x' H1 ⟨B1,θ1,x,E1,F1,rx,w1⟩
 refine ZK (step F1 w1) ?_
 rintro y' H2 ⟨B2,θ2,y,E2,F2,ry,w2⟩
 exact ⟨σ,B2,θ2,x,y,F2.good,rx.ext E2.toExtS,ry,w2⟩
theorem Zw {op:Operator} {g:OM} (ho:OpR X (binaryOp op) (rM X g)) (ha:ME X a fa) (hb:ME X b fb):ME X (.BinOp a op b pos) (mOp g fa fb):=PE.imp (Zv5 ho ha hb) Zlt
theorem z7 {op:CmpOp} {g:OM} (ho:OpR X (compareOp op) (rM X g)) (ha:ME X a fa) (hb:ME X b fb) (hm:behindInMarks op b=false:=by first | exact ZnZ _ | rfl):ME X (.Compare a [op] [b] pos) (mOp g fa fb):=PE.imp (ZqW ho ha hb hm) Zlt
theorem ZF {g:OM} (hr:IxR X (rM X g)) (ha:ME X a fa) (hb:ME X b fb) (hs:Zmc b:=by intro _ _; rfl):ME X (.Subscript a b pos) (mOp g fa fb):=PE.imp (Zv7 hr ha hb hs) Zlt
noncomputable def ZC (f:EM):TMr:=fun ρ θ=>(f ρ θ).bind fun x θ=>match x with
 | .bl k=>.ok k θ
 | _=>.bad
theorem ZjS {f:EM} (σ:St) (H:Hp) (Q:Bool->Hp->Prop) (h:tMT X (ZC f) σ H Q):tM X f σ H (fun v H1=>∃k,v=.bl k/\Q k H1):=by
 obtain ⟨B,θ,ρ,F,w⟩:=h
 refine ZK (step F w) ?_
 rintro v H1 ⟨B1,θ1,x,E1,F1,rx,w1⟩
 cases x with
 | bl k=>exact ⟨k,rx,ZU (Rel:=EqB) F1.good rfl w1⟩
 | _=>exact w1.elim
theorem ZB {op:CmpOp} {g:OM} (ho:OpR X (compareOp op) (rM X g)) (ha:ME X a fa) (hb:ME X b fb) (hm:behindInMarks op b=false:=by first | exact ZnZ _ | rfl):MT X (.Compare a [op] [b] pos) (ZC (mOp g fa fb)):=by
 refine PT.imp (ZqI ho ha hb hm) fun σ H Q h=>?_
 have q:=ZjS σ H Q h
 exact Zlt σ H _ q
noncomputable def ZgH (g g':OM) (fa fb fc:EM):EM:=fun ρ θ=>(fa ρ θ).bind fun x θ=>(fb ρ θ).bind fun y θ=>(g x y θ).bind fun z θ=>match z with
 | .bl true=>(fc ρ θ).bind fun w θ=>g' y w θ
 | .bl false=>.ok (.bl false) θ
 | _=>.bad
theorem Znj {g g':OM} (σ:St) (H:Hp) (Q:VK) (h:tM X (ZgH g g' fa fb fc) σ H Q):Znk (rM X g) (rM X g') (tM X fa) (tM X fb) (tM X fc) σ H Q:=by
 obtain ⟨B,θ,ρ,F,w⟩:=h
 refine ZK (step F w) ?_
 rintro x' H1 ⟨B1,θ1,x,E1,F1,rx,w1⟩
 refine ZK (step F1 w1) ?_
 rintro y' H2 ⟨B2,θ2,y,E2,F2,ry,w2⟩
 refine ⟨σ,B2,θ2,x,y,F2.good,rx.ext E2.toExtS,ry,(wpR.bind (Rel:=RepV) w2).mono ?_⟩
 rintro z' H3 ⟨B3,θ3,z,E3,G3,rz,w3⟩
 have F3:=F2.ext E3 G3
 cases z with
 | bl k=>
  refine ⟨k,rz,?_⟩
  cases k with
  | true=>
   rw [if_pos rfl]
   refine ZK (step F3 w3) ?_
   rintro w' H4 ⟨B4,θ4,u,E4,F4,ru,w4⟩
   exact ⟨σ,B4,θ4,y,u,F4.good,ry.ext (E3.trans E4).toExtS,ru,w4⟩
  | false=>
   rw [if_neg Yi]
   exact ZU G3 (show RepV B3 H3 (.bl false) (.bl false) from rfl) w3
 | _=>exact w3.elim
theorem ZhN {op op':CmpOp} {g g':OM} (ho:OpR X (compareOp op) (rM X g)) (ho':OpR X (compareOp op') (rM X g')) (ha:ME X a fa) (hb:ME X b fb) (hc:ME X c fc)
  (hm:lastMarks [op,op'] [b,c]=false:=by with_unfolding_all rfl):ME X (.Compare a [op,op'] [b,c] pos) (ZgH g g' fa fb fc):=PE.imp (ZnN ho ho' ha hb hc hm) Znj
noncomputable def ZfW (θ:Sto):D->Option Bool
 | .non=>some false
 | .bl b=>some b
 | .int i=>some (i != 0)
 | .str x=>if x.length<=BIG then some ((x.length:Int) != 0) else none
 | d=>(seqOf θ d).map fun xs=>!xs.isEmpty
noncomputable def zV (f:EM):TMr:=fun ρ θ=>(f ρ θ).bind fun x θ=>match ZfW θ x with
 | some k=>.ok k θ
 | none=>.bad
theorem RepL.emp {B:Bx} {H:Hp} {xs:List D} {vs:List V} (r:RepL B H xs vs):vs.isEmpty=xs.isEmpty:=by
 cases xs with
 | nil=>cases (show vs=[] from r); rfl
 | cons _ _=>obtain ⟨v,q,rfl,_,_⟩:=r; rfl
theorem Zln {cl:Mo} {B:Bx} {θ:Sto} {H:Hp} (G:Good cl B θ H) {d:D} {v:V} {k:Bool} (r:RepV B H d v) (h:ZfW θ d=some k):TruV cl.K v H k:=by
 have sq:∀xs,seqOf θ d=some xs->((seqOf θ d).map fun xs=>!xs.isEmpty)=some k->TruV cl.K v H k:=fun xs e q=>by
  rw [e] at q
  cases q
  obtain ⟨a,vs,rfl,h1,h2⟩:=Zc8 G r e
  show TruV cl.K (V.ref a) H (!xs.isEmpty)
  rw [<-h2.emp]
  rcases h1 with h1 | h1
  ·exact .inl ⟨vs,h1,rfl⟩
  ·exact .inr (.inl ⟨vs,h1,rfl⟩)
 cases d with
 | non=>cases (show v=.non from r); cases h; rfl
 | bl b=>cases (show v=.bl b from r); cases h; rfl
 | int i=>cases (show v=.int i from r); cases h; rfl
 | str x=>
  cases (show v=.str x from r)
  simp only [ZfW] at h
  split at h
  ·rename_i hz; cases h; exact ⟨zR hz,rfl⟩
  ·cases h
 | ty n=>simp [ZfW,seqOf,zK] at h
 | scr ns=>exact sq _ rfl h
 | tup xs=>exact sq _ rfl h
 | lst xs=>exact sq _ rfl h
 | ref l=>
  cases e:seqOf θ (.ref l) with
  | none=>simp only [ZfW,e] at h; cases h
  | some xs=>exact sq xs e h
theorem Zz (ha:ME X a fa) (he:∀whole,isTrue a X.env whole=(do let v <-whole; standAt a.pos; holding [v] (truthy v)):=by intro _; rfl):MT X a (zV fa):=by
 refine PT.imp (Znx ha he) fun σ H Q h=>?_
 obtain ⟨B,θ,ρ,F,w⟩:=h
 refine ZK (step F w) ?_
 rintro v H1 ⟨B1,θ1,x,E1,F1,rx,w1⟩
 cases e:ZfW θ1 x with
 | none=>rw [e] at w1; exact w1.elim
 | some k=>rw [e] at w1; exact ⟨k,Zln F1.good rx e,ZU (Rel:=EqB) F1.good rfl w1⟩
noncomputable def ZeI (f g:TMr):TMr:=fun ρ θ=>(f ρ θ).bind fun k θ=>if k=true then g ρ θ else .ok false θ
noncomputable def mOr (f g:TMr):TMr:=fun ρ θ=>(f ρ θ).bind fun k θ=>if k=true then .ok true θ else g ρ θ
noncomputable def ZeV (f:TMr):TMr:=fun ρ θ=>(f ρ θ).bind fun k θ=>.ok (!k) θ
theorem ZaT (ha:MT X a ft):MW X (.BoolOp .And [a] pos) ft:=ZqF ha
theorem Zb1 (ha:MT X a ft):MW X (.BoolOp .Or [a] pos) ft:=Zt5 ha
theorem Zcu {rest:List Expr} (ha:MT X a ft) (hb:MW X (.BoolOp .And (b::rest) pos) fu):MW X (.BoolOp .And (a::b::rest) pos) (ZeI ft fu):=by
 refine PW.imp (Zt6 ha hb) fun σ H Q h=>?_
 obtain ⟨B,θ,ρ,F,w⟩:=h
 refine ZdR (Zlx F w) ?_
 rintro k H1 ⟨B1,θ1,E1,F1,w1⟩
 cases k with
 | true=>rw [if_pos rfl] at w1 ⊢; exact ⟨B1,θ1,ρ,F1,w1⟩
 | false=>rw [if_neg Yi] at w1 ⊢; exact ZU (Rel:=EqB) F1.good rfl w1
theorem Zf6 {rest:List Expr} (ha:MT X a ft) (hb:MW X (.BoolOp .Or (b::rest) pos) fu):MW X (.BoolOp .Or (a::b::rest) pos) (mOr ft fu):=by
 refine PW.imp (Zv0 ha hb) fun σ H Q h=>?_
 obtain ⟨B,θ,ρ,F,w⟩:=h
 refine ZdR (Zlx F w) ?_
 rintro k H1 ⟨B1,θ1,E1,F1,w1⟩
 cases k with
 | true=>rw [if_pos rfl] at w1 ⊢; exact ZU (Rel:=EqB) F1.good rfl w1
 | false=>rw [if_neg Yi] at w1 ⊢; exact ⟨B1,θ1,ρ,F1,w1⟩
theorem MW.mt {e:Expr} {f:TMr} (h:MW X e f):MT X e f:=PW.pt h
theorem ZbU (ha:MT X a ft):MT X (.UnaryOp .Not a pos) (ZeV ft):=by
 refine PT.imp (Zt8 ha) fun σ H Q h=>?_
 obtain ⟨B,θ,ρ,F,w⟩:=h
 refine ZdR (Zlx F w) ?_
 rintro k H1 ⟨B1,θ1,E1,F1,w1⟩
 exact ZU (Rel:=EqB) F1.good rfl w1
noncomputable def Zdf (f g:EM):EM:=fun ρ θ=>(f ρ θ).bind fun x θ=>match x with
 | .bl true=>g ρ θ
 | .bl false=>.ok (.bl false) θ
 | _=>.bad
noncomputable def ZmF (f g:EM):EM:=fun ρ θ=>(f ρ θ).bind fun x θ=>match x with
 | .bl true=>.ok (.bl true) θ
 | .bl false=>g ρ θ
 | _=>.bad
noncomputable def Zn9 (f:EM):EM:=fun ρ θ=>(f ρ θ).bind fun x θ=>match ZfW θ x with
 | some k=>.ok (.bl (!k)) θ
 | none=>.bad
theorem ZdL {op} (h:ME X a fa):ME X (.BoolOp op [a] pos) fa:=Zuj h
theorem Zcv {rest:List Expr} (ha:ME X a fa) (hb:ME X (.BoolOp .And (b::rest) pos) fb):ME X (.BoolOp .And (a::b::rest) pos) (Zdf fa fb):=by
 refine PE.imp (Zuo ha hb) fun σ H Q h=>?_
 obtain ⟨B,θ,ρ,F,w⟩:=h
 refine ZK (step F w) ?_
 rintro v H1 ⟨B1,θ1,x,E1,F1,rx,w1⟩
 cases x with
 | bl k=>
  refine ⟨k,rx,?_⟩
  cases k with
  | true=>rw [if_pos rfl]; exact ⟨B1,θ1,ρ,F1,w1⟩
  | false=>rw [if_neg Yi]; exact ZU F1.good (show RepV B1 H1 (.bl false) (.bl false) from rfl) w1
 | _=>exact w1.elim
theorem ZlQ {rest:List Expr} (ha:ME X a fa) (hb:ME X (.BoolOp .Or (b::rest) pos) fb):ME X (.BoolOp .Or (a::b::rest) pos) (ZmF fa fb):=by
 refine PE.imp (Zv4 ha hb) fun σ H Q h=>?_
 obtain ⟨B,θ,ρ,F,w⟩:=h
 refine ZK (step F w) ?_
 rintro v H1 ⟨B1,θ1,x,E1,F1,rx,w1⟩
 cases x with
 | bl k=>
  refine ⟨k,rx,?_⟩
  cases k with
  | true=>rw [if_pos rfl]; exact ZU F1.good (show RepV B1 H1 (.bl true) (.bl true) from rfl) w1
  | false=>rw [if_neg Yi]; exact ⟨B1,θ1,ρ,F1,w1⟩
 | _=>exact w1.elim
theorem ZuD (ha:ME X a fa):ME X (.UnaryOp .Not a pos) (Zn9 fa):=by
 intro pins s σ H Q I h
 obtain ⟨B,θ,ρ,F,w⟩:=h
 refine UnaryOp_ (thn (ha pins s σ H _ I (step F w)) fun v s1 ⟨x,H1,I1,r1,q1⟩=>?_)
 obtain ⟨B1,θ1,d,E1,F1,rx,w1⟩:=q1
 cases e:ZfW θ1 d with
 | none=>rw [e] at w1; exact w1.elim
 | some k=>
  rw [e] at w1
  refine not_of (thn (Zna pins s1 σ H1 x v (fun k' H'=>Q (.bl (!k')) H') I1 r1 ⟨k,Zln F1.good rx e,ZU F1.good (show RepV B1 H1 (.bl (!k)) (.bl (!k)) from rfl) w1⟩) fun b s2 ⟨H2,I2,q2⟩=>?_)
  exact ⟨.bl (!b),H2,I2,rfl,q2⟩
noncomputable def Zf9 (t:TMr) (f g:EM):EM:=fun ρ θ=>(t ρ θ).bind fun k θ=>if k=true then f ρ θ else g ρ θ
theorem ZcR {c:Expr} (hc:MT X c ft) (ha:ME X a fa) (hb:ME X b fb):ME X (.IfExp c a b pos) (Zf9 ft fa fb):=by
 refine PE.imp (ZnJ hc ha hb) fun σ H Q h=>?_
 obtain ⟨B,θ,ρ,F,w⟩:=h
 refine ZdR (Zlx F w) ?_
 rintro k H1 ⟨B1,θ1,E1,F1,w1⟩
 cases k with
 | true=>rw [if_pos rfl] at w1 ⊢; exact ⟨B1,θ1,ρ,F1,w1⟩
 | false=>rw [if_neg Yi] at w1 ⊢; exact ⟨B1,θ1,ρ,F1,w1⟩
noncomputable def Zi:AM:=fun _ θ=>.ok [] θ
noncomputable def Zc (f:EM) (g:AM):AM:=fun ρ θ=>(f ρ θ).bind fun x θ=>(g ρ θ).bind fun xs θ=>.ok (x::xs) θ
theorem Ze:MA X [] Zi:=PA.imp Zjh fun σ H Q h=>by
 obtain ⟨B,θ,ρ,F,w⟩:=h
 exact ZU (Rel:=RepL) F.good (show RepL B H [] [] from rfl) w
theorem Zb {es:List Expr} {fs:AM} (ha:ME X e fa) (hr:MA X es fs) (hs:starEach (e::es) X.env=(false,eval e X.env)::starEach es X.env:=by rfl):MA X (e::es) (Zc fa fs):=by
 refine PA.imp (Zhp ha hr hs) fun σ H Q h=>?_
 obtain ⟨B,θ,ρ,F,w⟩:=h
 refine ZK (step F w) ?_
 rintro x' H1 ⟨B1,θ1,x,E1,F1,rx,w1⟩
 refine ZbG (ZgZ F1 w1) ?_
 rintro xs' H2 ⟨B2,θ2,xs,E2,F2,rxs,w2⟩
 exact ZU (Rel:=RepL) F2.good (show RepL B2 H2 (x::xs) (x'::xs') from ⟨x',xs',rfl,rx.ext E2.toExtS,rxs⟩) w2
noncomputable def Zbj (f:AM):EM:=fun ρ θ=>(f ρ θ).bind fun xs θ=>if xs.length<=BIG then .ok (.tup xs) θ else .bad
noncomputable def Zba (f:AM):EM:=fun ρ θ=>(f ρ θ).bind fun xs θ=>if xs.length<=BIG then .ok (.lst xs) θ else .bad
noncomputable def ZaE (f:AM):EM:=fun ρ θ=>(f ρ θ).bind fun xs θ=>if xs.length<=BIG then .ok (.ref θ.length) (θ++[.lst xs]) else .bad
theorem Zhy {σ:St} {B:Bx} {θ:Sto} {H:Hp} {xs:List D} {vs:List V} {Q:VK} (G:Good X.cl B θ H) (r:RepL B H xs vs) (w:wpR X σ RepV B H (.ok (.tup xs) θ) Q):∀p,H p=none->Q (.ref p) (upd H p (.tup vs)):=
 fun p hp=>w B _ _ (ZcZ G hp _) (ZeY G hp _) (ZqB G hp r)
theorem ZfG {σ:St} {B:Bx} {θ:Sto} {H:Hp} {xs:List D} {vs:List V} {Q:VK} (G:Good X.cl B θ H) (r:RepL B H xs vs) (w:wpR X σ RepV B H (.ok (.lst xs) θ) Q):∀p,H p=none->Q (.ref p) (upd H p (.lst vs)):=
 fun p hp=>w B _ _ (ZcZ G hp _) (ZeY G hp _) (ZqC G hp r)
theorem Zll {σ:St} {B:Bx} {θ:Sto} {H:Hp} {xs:List D} {vs:List V} {Q:VK} (G:Good X.cl B θ H) (r:RepL B H xs vs) (w:wpR X σ RepV B H (.ok (.ref θ.length) (θ++[.lst xs])) Q):∀p,H p=none->Q (.ref p) (upd H p (.lst vs)):=
 fun p hp=>w (B.push p) _ _ (ZdY G hp _) (Zfq G hp ⟨vs,Z9,r.ext (ZdY G hp _).toExtS⟩) ⟨by rw [G.len]; exact YC _,by rw [G.len]; show V.ref p=V.ref (if B.n=B.n then p else B.m B.n); rw [if_pos rfl]⟩
theorem zJ {es:List Expr} {fs:AM} {x1} (h:MA X es fs):ME X (.Tuple es x1 pos) (Zbj fs):=by
 refine PE.imp (Zui h) fun σ H Q h=>?_
 obtain ⟨B,θ,ρ,F,w⟩:=h
 refine ZbG (ZgZ F w) ?_
 rintro xs' H2 ⟨B2,θ2,xs,E2,F2,rxs,w2⟩
 split at w2
 ·rename_i hz
  exact ⟨by rw [rxs.len]; exact zR hz,Zhy F2.good rxs w2⟩
 ·exact w2.elim
theorem Zbp {es:List Expr} {fs:AM} (h:MA X es fs):ME X (.List es pos) (Zba fs):=by
 refine PE.imp (Zk1 h) fun σ H Q h=>?_
 obtain ⟨B,θ,ρ,F,w⟩:=h
 refine ZbG (ZgZ F w) ?_
 rintro xs' H2 ⟨B2,θ2,xs,E2,F2,rxs,w2⟩
 split at w2
 ·rename_i hz
  exact ⟨by rw [rxs.len]; exact zR hz,ZfG F2.good rxs w2⟩
 ·exact w2.elim
theorem Zdw {es:List Expr} {fs:AM} (h:MA X es fs):ME X (.List es pos) (ZaE fs):=by
 refine PE.imp (Zk1 h) fun σ H Q h=>?_
 obtain ⟨B,θ,ρ,F,w⟩:=h
 refine ZbG (ZgZ F w) ?_
 rintro xs' H2 ⟨B2,θ2,xs,E2,F2,rxs,w2⟩
 split at w2
 ·rename_i hz
  exact ⟨by rw [rxs.len]; exact zR hz,Zll F2.good rxs w2⟩
 ·exact w2.elim
abbrev GM:=List D->Sto->R D
noncomputable def mCB (g:GM) (f:AM):EM:=fun ρ θ=>(f ρ θ).bind fun xs θ=>g xs θ
def rC (X:Cx) (g:GM):List V->Hp->VK->Prop:=fun xs H Q=>∃σ B θ ds,Good X.cl B θ H/\RepL B H ds xs/\wpR X σ RepV B H (g ds θ) Q
theorem ZrU {g:GM} {fs:AM} (σ:St) (H:Hp) (Q:VK) (h:tM X (mCB g fs) σ H Q):tCB (rC X g) (tMA X fs) σ H Q:=by
 obtain ⟨B,θ,ρ,F,w⟩:=h
 refine ZbG (ZgZ F w) ?_
 rintro xs' H2 ⟨B2,θ2,xs,E2,F2,rxs,w2⟩
 exact ⟨σ,B2,θ2,xs,F2.good,rxs,w2⟩
theorem zQ {x:Str} {id:String} {p:Pos} {es:List Expr} {fs:AM} {g:GM} (hc:CallR X (.builtin id) (rC X g)) (hm:X.mg x=none) (hv:bootBuiltins x=some (.builtin id)) (ha:MA X (e::es) fs) (hg:Gl X x:=by rfl) (hn:x≠"__name__":=by decide) (hdb:(x == ("__debug__":Str))=false:=by decide)
  (he:starEach (e::es) X.env=(false,eval e X.env)::starEach es X.env:=by rfl) (hpl:(backTo pos (starEach es X.env)).any (·.1)=false:=by rfl):ME X (.Call (.Name x p) (e::es) [] pos) (mCB g fs):=
 PE.imp (ZnP hc hg hm hv ha hn hdb he hpl) ZrU
theorem ZgG {x:Str} {T:String} {p:Pos} {es:List Expr} {fs:AM} {g:GM} (hc:CallR X (.type T) (rC X g)) (hm:X.mg x=none) (hv:bootBuiltins x=some (.type T)) (ha:MA X (e::es) fs) (hg:Gl X x:=by rfl) (hn:x≠"__name__":=by decide) (hdb:(x == ("__debug__":Str))=false:=by decide)
  (he:starEach (e::es) X.env=(false,eval e X.env)::starEach es X.env:=by rfl) (hpl:(backTo pos (starEach es X.env)).any (·.1)=false:=by rfl):ME X (.Call (.Name x p) (e::es) [] pos) (mCB g fs):=
 PE.imp (Zmw hc hg hm hv ha hn hdb he hpl) ZrU
end
end
end L2.MM
namespace L2.MM
open PySem PySem.Spec PyProof.Rows PySem.SeqAt
noncomputable section
variable {X:Cx}
section
open Classical in
def opI (C:Int->Int->Prop) (g:Int->Int->D):OM:=fun x y θ=>match x,y with
 | .int i,.int j=>if C i j then .ok (g i j) θ else .bad
 | _,_=>.bad
open Classical in
@[simp] theorem Zw3 (C:Int->Int->Prop) (g:Int->Int->D) (i j:Int) (θ:Sto):opI C g (.int i) (.int j) θ=if C i j then .ok (g i j) θ else .bad:=nr rfl
open Classical in
theorem ZeR {f:Value->Value->Sem Value} {C:Int->Int->Prop} {g:Int->Int->D} {gV:Int->Int->V} (h:OpR X f (rI C gV)) (r:∀B H i j,RepV B H (g i j) (gV i j)):OpR X f (rM X (opI C g)):=by
 refine OpR.imp h fun x y H Q q=>?_
 obtain ⟨σ,B,θ,d,e,G,rd,re,w⟩:=q
 unfold opI at w
 split at w
 ·rename_i i j
  split at w
  ·rename_i hc
   exact ⟨i,j,rd,re,hc,ZU G (r B H i j) w⟩
  ·exact w.elim
 ·exact w.elim
theorem Ziw {f:Value->Value->Sem Value} {g:Int->Int->V} (h:OpR X f (rI0 g)):OpR X f (rI (fun _ _=>True) g):=OpR.imp h fun x y H Q ⟨i,j,a,b,_,q⟩=>⟨i,j,a,b,q⟩
abbrev Zdq:OM:=opI (fun _ _=>True) fun i j=>.int (i-j)
abbrev Zen:OM:=opI (fun _ j=>0<j/\j<18446744073709551616) fun i j=>.int (i/j)
abbrev zG:OM:=opI (fun _ j=>0<j) fun i j=>.int (i % j)
abbrev ZwK:OM:=opI (fun _ _=>True) fun i j=>.int (Builtin.bitAnd i j)
abbrev ltM:OM:=opI (fun _ _=>True) fun i j=>.bl (decide (i<j))
abbrev leM:OM:=opI (fun _ _=>True) fun i j=>.bl (decide (i<=j))
abbrev gtM:OM:=opI (fun _ _=>True) fun i j=>.bl (decide (j<i))
abbrev geM:OM:=opI (fun _ _=>True) fun i j=>.bl (decide (j<=i))
theorem Zdu:OpR X (binaryOp .Sub) (rM X Zdq):=ZeR (Ziw Zuq) fun _ _ _ _=>rfl
theorem ZeA:OpR X (binaryOp .FloorDiv) (rM X Zen):=ZeR (OpR.imp ZnS fun x y H Q ⟨i,j,a,b,c,q⟩=>⟨i,j,a,b,⟨c.1,by
 have h:j.natAbs<2 ^ 64:=by have:=c.1; have:=c.2; omega
 have h0:j.natAbs≠0:=by have:=c.1; omega
 have:=(Nat.log2_lt h0).mpr h
 omega⟩,q⟩) fun _ _ _ _=>rfl
theorem Zar:OpR X (binaryOp .Mod) (rM X zG):=ZeR Zut fun _ _ _ _=>rfl
theorem Zwh:OpR X (binaryOp .BitAnd) (rM X ZwK):=ZeR (Ziw Zux) fun _ _ _ _=>rfl
theorem ZuA:OpR X (compareOp .Lt) (rM X ltM):=ZeR (Ziw Zwb) fun _ _ i j=>by show _=V.bl _; congr
theorem Zjj:OpR X (compareOp .LtE) (rM X leM):=ZeR (Ziw Zwc) fun _ _ i j=>by show _=V.bl _; congr
theorem Zkb:OpR X (compareOp .Gt) (rM X gtM):=ZeR (Ziw Zwd) fun _ _ i j=>by show _=V.bl _; congr
theorem Zq4:OpR X (compareOp .GtE) (rM X geM):=ZeR (Ziw Zwe) fun _ _ i j=>by show _=V.bl _; congr
noncomputable def zn:OM:=fun x y θ=>match x,y with
 | .int i,.int j=>.ok (.int (i+j)) θ
 | .str i,.str j=>if i.length+j.length<=BIG then .ok (.str (i++j)) θ else .bad
 | .tup xs,.tup ys=>if xs.isEmpty=false/\xs.length+ys.length<=BIG then .ok (.tup (xs++ys)) θ else .bad
 | x,y=>match zK θ x,zK θ y with
  | some xs,some ys=>if xs.length+ys.length<=BIG then .ok (.lst (xs++ys)) θ else .bad
  | _,_=>.bad
@[simp] theorem ZwM (i j:Int) (θ:Sto):zn (.int i) (.int j) θ=.ok (.int (i+j)) θ:=nr rfl
@[simp] theorem ZoO (xs ys:List D) (θ:Sto):zn (.lst xs) (.lst ys) θ=if xs.length+ys.length<=BIG then .ok (.lst (xs++ys)) θ else .bad:=nr rfl
@[simp] theorem ZwL (xs ys:List D) (θ:Sto):zn (.tup xs) (.tup ys) θ=if xs.isEmpty=false/\xs.length+ys.length<=BIG then .ok (.tup (xs++ys)) θ else .bad:=nr rfl
theorem zo:OpR X (binaryOp .Add) (rM X zn):=by
 refine OpR.imp (op_add.or (op_add_str.or (op_catT.or Zuw))) fun x y H Q q=>?_
 obtain ⟨σ,B,θ,d,e,G,rd,re,w⟩:=q
 unfold zn at w
 split at w
 ·exact .inl ⟨_,_,rd,re,ZU G (show RepV B H (.int _) (.int _) from rfl) w⟩
 ·split at w
  ·rename_i hz
   exact .inr (.inl ⟨_,_,rd,re,zR hz,ZU G (show RepV B H (.str _) (.str _) from rfl) w⟩)
  ·exact w.elim
 ·split at w
  ·rename_i xs ys hz
   obtain ⟨a,vs,rfl,h1,k1,l1⟩:=rd
   obtain ⟨b,us,rfl,h2,k2,l2⟩:=re
   refine .inr (.inr (.inl ⟨a,b,vs,us,rfl,rfl,SqT.of h1,SqT.of h2,?_,?_,fun z=>?_,fun _=>Zhy G (l1.app l2) w⟩))
   ·intro z
    have:=l1.emp
    rw [z,hz.1] at this
    simp at this
   ·rw [l1.len,l2.len]; exact zR hz.2
   ·have e0:ys=[]:=by
     have:=l2.emp
     rw [z] at this
     cases ys with
     | nil=>rfl
     | cons _ _=>simp at this
    subst e0
    rw [YV] at w
    exact ZU G (show RepV B H (.tup xs) (.ref a) from ⟨a,vs,rfl,h1,k1,l1⟩) w
  ·exact w.elim
 ·split at w
  ·rename_i xs ys e1 e2
   split at w
   ·rename_i hz
    obtain ⟨a,vs,rfl,h1,l1⟩:=ZaV G rd e1
    obtain ⟨b,us,rfl,h2,l2⟩:=ZaV G re e2
    exact .inr (.inr (.inr ⟨a,b,vs,us,rfl,rfl,h1,h2,by rw [l1.len,l2.len]; exact zR hz,ZfG G (l1.app l2) w⟩))
   ·exact w.elim
  ·exact w.elim
def ZfT (i j:Int):Prop:=(-18446744073709551616<i/\i<18446744073709551616)\/(-18446744073709551616<j/\j<18446744073709551616)
instance {i j:Int}:Decidable (ZfT i j):=by unfold ZfT; infer_instance
noncomputable def Zeg:OM:=fun x y θ=>match x,y with
 | .int i,.int j=>if ZfT i j then .ok (.int (i*j)) θ else .bad
 | .tup xs,.int k=>if xs.isEmpty=false/\0<=k/\k<1000/\(xs.length:Int)*k<=1000 then .ok (.tup (List.replicate k.toNat xs).flatten) θ else .bad
 | x,.int k=>match zK θ x with
  | some xs=>if -1000000<=k/\k<=1000000/\xs.length*k.toNat<=BIG then .ok (.lst (List.replicate k.toNat xs).flatten) θ else .bad
  | _=>.bad
 | _,_=>.bad
@[simp] theorem Zwn (i j:Int) (θ:Sto):Zeg (.int i) (.int j) θ=if ZfT i j then .ok (.int (i*j)) θ else .bad:=nr rfl
theorem RepL.rep {B:Bx} {H:Hp} {xs:List D} {vs:List V} (r:RepL B H xs vs):∀k:Nat,RepL B H (List.replicate k xs).flatten (List.replicate k vs).flatten
 | 0=>rfl
 | k+1=>by
  rw [YH,YH,YR,YR]
  exact r.app (RepL.rep r k)
theorem ZeS:OpR X (binaryOp .Mult) (rM X Zeg):=by
 refine OpR.imp (op_mul.or (op_repT.or Zur)) fun x y H Q q=>?_
 obtain ⟨σ,B,θ,d,e,G,rd,re,w⟩:=q
 unfold Zeg at w
 split at w
 ·split at w
  ·rename_i hc
   exact .inl ⟨_,_,rd,re,hc.imp (fun h=>⟨by have:=h.1; omega,by have:=h.2; omega⟩) (fun h=>⟨by have:=h.1; omega,by have:=h.2; omega⟩),ZU G (show RepV B H (.int _) (.int _) from rfl) w⟩
  ·exact w.elim
 ·split at w
  ·rename_i xs k hz
   obtain ⟨a,vs,rfl,h1,k1,l1⟩:=rd
   obtain ⟨z1,z2,z3,z4⟩:=hz
   refine .inr (.inl ⟨a,k,vs,rfl,re,SqT.of h1,?_,z2,z3,by rw [l1.len]; exact z4,fun z=>?_,fun _=>Zhy G (l1.rep _) w⟩)
   ·intro z
    have:=l1.emp
    rw [z,z1] at this
    simp at this
   ·subst z
    have e0:(List.replicate (1:Int).toNat xs).flatten=xs:=by simp
    rw [e0] at w
    exact ZU G (show RepV B H (.tup xs) (.ref a) from ⟨a,vs,rfl,h1,k1,l1⟩) w
  ·exact w.elim
 ·split at w
  ·rename_i xs e1
   split at w
   ·rename_i hz
    obtain ⟨a,vs,rfl,h1,l1⟩:=ZaV G rd e1
    exact .inr (.inr ⟨a,_,vs,rfl,re,h1,by have:=hz.1; omega,by have:=hz.2.1; omega,by rw [l1.len]; exact zR hz.2.2,ZfG G (l1.rep _) w⟩)
   ·exact w.elim
  ·exact w.elim
 ·exact w.elim
noncomputable def ZzK (f:EM):EM:=fun ρ θ=>(f ρ θ).bind fun x θ=>match x with
 | .int i=>.ok (.int (-i)) θ
 | _=>.bad
mutual
noncomputable def dat:D->PyData
 | .bl b=>.bool b
 | .int i=>.int i
 | .str x=>.str x
 | .tup xs=>.tuple (Ze0 xs)
 | .lst xs=>.list (Ze0 xs)
 | _=>.none
noncomputable def Ze0:List D->List PyData
 | []=>[]
 | d::r=>dat d::Ze0 r
end
mutual
noncomputable def plain:D->Bool
 | .non=>true
 | .bl _=>true
 | .int _=>true
 | .str _=>true
 | .tup xs=>Zca xs
 | .lst xs=>Zca xs
 | _=>false
noncomputable def Zca:List D->Bool
 | []=>true
 | d::r=>plain d && Zca r
end
mutual
theorem rdv {B:Bx} {H:Hp} {K:PySem.W.Frag}:∀{d:D} {v:V},plain d=true->RepV B H d v->RdV K H v (dat d)
 | .non,_,_,r=>by cases (show _=V.non from r); exact .non
 | .bl b,_,_,r=>by cases (show _=V.bl b from r); exact .bl b
 | .int i,_,_,r=>by cases (show _=V.int i from r); exact .int i
 | .str x,_,_,r=>by cases (show _=V.str x from r); exact .str x
 | .tup xs,_,p,r=>by
  obtain ⟨a,vs,rfl,h,_,l⟩:=r
  exact .tup (SqT.of h) (ZqD p l)
 | .lst xs,_,p,r=>by
  obtain ⟨a,vs,rfl,h,_,l⟩:=r
  exact .lst (SqL.of h) (ZqD p l)
 | .ty _,_,p,_=>nomatch p
 | .scr _,_,p,_=>nomatch p
 | .ref _,_,p,_=>nomatch p
theorem ZqD {B:Bx} {H:Hp} {K:PySem.W.Frag}:∀{ds:List D} {vs:List V},Zca ds=true->RepL B H ds vs->RdVs K H vs (Ze0 ds)
 | [],_,_,r=>by cases (show _=[] from r); exact .nil
 | d::ds,_,p,r=>by
  obtain ⟨v,q,rfl,hv,hq⟩:=r
  have p':plain d=true/\Zca ds=true:=by simpa [Zca] using p
  exact .cons (rdv p'.1 hv) (ZqD p'.2 hq)
end
mutual
theorem ZjY:∀{d e:D},plain d=true->plain e=true->(same (dat d) (dat e)=true↔d=e):=fun {d e} p q=>by
 cases d with
 | ty _=>exact nomatch p
 | scr _=>exact nomatch p
 | ref _=>exact nomatch p
 | non=>cases e<;>simp_all [plain,dat,same]
 | bl _=>cases e<;>simp_all [plain,dat,same]
 | int _=>cases e<;>simp_all [plain,dat,same]
 | str _=>cases e<;>simp_all [plain,dat,same]
 | tup xs=>
  cases e with
  | tup ys=>
   simp only [dat,same,D.tup.injEq]
   exact Zgz p q
  | ty _=>exact nomatch q
  | scr _=>exact nomatch q
  | ref _=>exact nomatch q
  | _=>simp [dat,same]
 | lst xs=>
  cases e with
  | lst ys=>
   simp only [dat,same,D.lst.injEq]
   exact Zgz p q
  | ty _=>exact nomatch q
  | scr _=>exact nomatch q
  | ref _=>exact nomatch q
  | _=>simp [dat,same]
theorem Zgz:∀{ds es:List D},Zca ds=true->Zca es=true->(sameAll (Ze0 ds) (Ze0 es)=true↔ds=es)
 | [],[],_,_=>by simp [Ze0,sameAll]
 | [],_::_,_,_=>by simp [Ze0,sameAll]
 | _::_,[],_,_=>by simp [Ze0,sameAll]
 | d::ds,e::es,p,q=>by
  have p':plain d=true/\Zca ds=true:=by simpa [Zca] using p
  have q':plain e=true/\Zca es=true:=by simpa [Zca] using q
  simp only [Ze0,sameAll,Yt,List.cons.injEq]
  rw [ZjY p'.1 q'.1,Zgz p'.2 q'.2]
end
noncomputable def look (θ:Sto) (d:D):D:=match d with
 | .ref l=>match θ[l]? with
  | some (.lst xs)=>.lst xs
  | _=>.ref l
 | d=>d
theorem Zgd {B:Bx} {θ:Sto} {H:Hp} {K:PySem.W.Frag} (G:Good X.cl B θ H) {d:D} {v:V} (r:RepV B H d v) (p:plain (look θ d)=true):RdV K H v (dat (look θ d)):=by
 cases d with
 | ref l=>
  unfold look at p ⊢
  simp only at p ⊢
  split at p
  ·rename_i xs e
   obtain ⟨hl,rfl⟩:=r
   obtain ⟨vs,h1,h2⟩:=G.cel l _ e
   exact .lst (SqL.of h1) (ZqD p h2)
  ·exact nomatch p
 | _=>exact rdv p r
structure ZkM (x y:D):Prop where
 px:plain x=true
 py:plain y=true
 sx:shaped (dat x)=true
 sy:shaped (dat y)=true
 nm:noMix (dat x) (dat y)=true
open Classical in
def eqM:OM:=fun x y θ=>if ZkM (look θ x) (look θ y) then .ok (.bl (decide (look θ x=look θ y))) θ else .bad
open Classical in
def neM:OM:=fun x y θ=>if ZkM (look θ x) (look θ y) then .ok (.bl (!decide (look θ x=look θ y))) θ else .bad
open Classical in
theorem ZjZ {d e:D} (p:plain d=true) (q:plain e=true):same (dat d) (dat e)=decide (d=e):=by
 rw [Jb,ZjY p q,decide_eq_true_iff]
open Classical in
theorem Zag (hu:X.A.units+64<cLine):OpR X (compareOp .Eq) (rM X eqM):=by
 refine OpR.imp (Zuv hu) fun x y H Q q=>?_
 obtain ⟨σ,B,θ,d,e,G,rd,re,w⟩:=q
 unfold eqM at w
 split at w
 ·rename_i c
  refine ⟨_,_,Zgd G rd c.px,Zgd G re c.py,c.sx,c.sy,c.nm,?_⟩
  rw [ZjZ c.px c.py]
  exact ZU G (show RepV B H (.bl _) (.bl _) from rfl) w
 ·exact w.elim
open Classical in
theorem ZgD (hu:X.A.units+64<cLine):OpR X (compareOp .NotEq) (rM X neM):=by
 refine OpR.imp (Zus hu) fun x y H Q q=>?_
 obtain ⟨σ,B,θ,d,e,G,rd,re,w⟩:=q
 unfold neM at w
 split at w
 ·rename_i c
  refine ⟨_,_,Zgd G rd c.px,Zgd G re c.py,c.sx,c.sy,c.nm,?_⟩
  rw [ZjZ c.px c.py]
  exact ZU G (show RepV B H (.bl _) (.bl _) from rfl) w
 ·exact w.elim
noncomputable def ZjI:List D->Bool
 | []=>true
 | .int _::r=>ZjI r
 | _=>false
noncomputable def ZgV:List D->Bool
 | []=>true
 | .str _::r=>ZgV r
 | _=>false
noncomputable def memI (i:Int):List D->Bool
 | .int j::r=>decide (j=i) || memI i r
 | _=>false
noncomputable def memS (x:Str):List D->Bool
 | .str y::r=>decide (y=x) || memS x r
 | _=>false
noncomputable def inD (θ:Sto) (x y:D):Option Bool:=match seqOf θ y with
 | none=>none
 | some ys=>match x with
  | .int i=>if ZjI ys=true then some (memI i ys) else none
  | .str z=>if ZgV ys=true then some (memS z ys) else none
  | _=>none
noncomputable def inM:OM:=fun x y θ=>match inD θ x y with
 | some k=>.ok (.bl k) θ
 | none=>.bad
noncomputable def ZcQ:OM:=fun x y θ=>match inD θ x y with
 | some k=>.ok (.bl (!k)) θ
 | none=>.bad
theorem Zhh {B:Bx} {H:Hp}:∀{ys:List D} {vs:List V},ZjI ys=true->RepL B H ys vs->vs.all ZdA=true/\∀i:Int,inV (.int i) vs=memI i ys
 | [],_,_,r=>by cases (show _=[] from r); exact ⟨rfl,fun _=>rfl⟩
 | d::ys,_,h,r=>by
  cases d with
  | int j=>
   obtain ⟨v,q,rfl,hv,hq⟩:=r
   cases (show v=V.int j from hv)
   obtain ⟨h1,h2⟩:=Zhh (show ZjI ys=true from h) hq
   refine ⟨by simp [ZdA] at h1 ⊢; exact h1,fun i=>?_⟩
   have:=h2 i
   unfold inV at this ⊢
   rw [YK,this]
   show (j == i || memI i ys)=(decide (j=i) || memI i ys)
   rw [Bool.beq_eq_decide_eq]
  | _=>exact nomatch h
theorem Zhg {B:Bx} {H:Hp}:∀{ys:List D} {vs:List V},ZgV ys=true->RepL B H ys vs->vs.all ZdA=true/\∀i:Str,inV (.str i) vs=memS i ys
 | [],_,_,r=>by cases (show _=[] from r); exact ⟨rfl,fun _=>rfl⟩
 | d::ys,_,h,r=>by
  cases d with
  | str j=>
   obtain ⟨v,q,rfl,hv,hq⟩:=r
   cases (show v=V.str j from hv)
   obtain ⟨h1,h2⟩:=Zhg (show ZgV ys=true from h) hq
   refine ⟨by simp [ZdA] at h1 ⊢; exact h1,fun i=>?_⟩
   have:=h2 i
   unfold inV at this ⊢
   rw [YK,this]
   show (j == i || memS i ys)=(decide (j=i) || memS i ys)
   rw [Bool.beq_eq_decide_eq]
  | _=>exact nomatch h
theorem Zoh {cl:Mo} {B:Bx} {θ:Sto} {H:Hp} (G:Good cl B θ H) {d e:D} {x y:V} {k:Bool} (rd:RepV B H d x) (re:RepV B H e y) (h:inD θ d e=some k) :
  ∃p xs,y=.ref p/\(SqL cl.K H p xs\/SqT cl.K H p xs)/\ZdA x=true/\xs.all ZdA=true/\inV x xs=k:=by
 unfold inD at h
 split at h
 ·cases h
 ·rename_i ys e1
  obtain ⟨a,vs,rfl,h1,h2⟩:=Zc8 G re e1
  split at h
  ·split at h
   ·rename_i i hz
    cases h
    cases (show x=V.int i from rd)
    obtain ⟨q1,q2⟩:=Zhh hz h2
    exact ⟨a,vs,rfl,h1,rfl,q1,q2 i⟩
   ·cases h
  ·split at h
   ·rename_i i hz
    cases h
    cases (show x=V.str i from rd)
    obtain ⟨q1,q2⟩:=Zhg hz h2
    exact ⟨a,vs,rfl,h1,rfl,q1,q2 i⟩
   ·cases h
  ·cases h
theorem Zil:OpR X (compareOp .In) (rM X inM):=by
 refine OpR.imp Zmy fun x y H Q q=>?_
 obtain ⟨σ,B,θ,d,e,G,rd,re,w⟩:=q
 unfold inM at w
 split at w
 ·rename_i k e1
  obtain ⟨p,xs,h1,h2,h3,h4,h5⟩:=Zoh G rd re e1
  exact ⟨p,xs,h1,h2,h3,h4,by rw [h5]; exact ZU G (show RepV B H (.bl _) (.bl _) from rfl) w⟩
 ·exact w.elim
theorem Zhq:OpR X (compareOp .NotIn) (rM X ZcQ):=by
 refine OpR.imp Zji fun x y H Q q=>?_
 obtain ⟨σ,B,θ,d,e,G,rd,re,w⟩:=q
 unfold ZcQ at w
 split at w
 ·rename_i k e1
  obtain ⟨p,xs,h1,h2,h3,h4,h5⟩:=Zoh G rd re e1
  exact ⟨p,xs,h1,h2,h3,h4,by rw [h5]; exact ZU G (show RepV B H (.bl _) (.bl _) from rfl) w⟩
 ·exact w.elim
noncomputable def ZcJ:D->Bool
 | .non=>true
 | _=>false
theorem Zkq {B:Bx} {H:Hp} {d:D} {v:V} (r:RepV B H d v):ZcJ d=decide (v=.non):=by
 cases d with
 | non=>cases (show v=.non from r); simp [ZcJ]
 | bl b=>cases (show v=.bl b from r); simp [ZcJ]
 | int i=>cases (show v=.int i from r); simp [ZcJ]
 | str x=>cases (show v=.str x from r); simp [ZcJ]
 | ty n=>cases (show v=.ty n from r); simp [ZcJ]
 | scr ns=>obtain ⟨a,rfl,_⟩:=r; simp [ZcJ]
 | tup xs=>obtain ⟨a,o,rfl,_⟩:=r; simp [ZcJ]
 | lst xs=>obtain ⟨a,o,rfl,_⟩:=r; simp [ZcJ]
 | ref l=>obtain ⟨_,rfl⟩:=r; simp [ZcJ]
noncomputable def isM:OM:=fun x y θ=>match y with
 | .non=>.ok (.bl (ZcJ x)) θ
 | .bl c=>match x with
  | .bl b=>.ok (.bl (b == c)) θ
  | _=>.bad
 | _=>.bad
noncomputable def Zju:OM:=fun x y θ=>match y with
 | .non=>.ok (.bl (!ZcJ x)) θ
 | .bl c=>match x with
  | .bl b=>.ok (.bl (!(b == c))) θ
  | _=>.bad
 | _=>.bad
theorem Zuu:OpR X (compareOp .Is) (fun x y H Q=>∃b c:Bool,x=.bl b/\y=.bl c/\Q (.bl (b == c)) H):=by
 intro pins s σ H x y v u Q I rx ry h
 obtain ⟨b,c,rfl,rfl,q⟩:=h
 cases rx
 cases ry
 have e:(Value.bool b == Value.bool c)=(b == c):=by cases b<;>cases c<;>rfl
 exact wpAny_is_plain rfl ⟨.bl _,H,I,rfl,by rw [e]; exact q⟩
theorem Zq3:OpR X (compareOp .Is) (rM X isM):=by
 refine OpR.imp (op_isN.or Zuu) fun x y H Q q=>?_
 obtain ⟨σ,B,θ,d,e,G,rd,re,w⟩:=q
 unfold isM at w
 split at w
 ·refine .inl ⟨re,?_⟩
  have q:=ZU G (show RepV B H (.bl _) (.bl _) from rfl) w
  rw [Zkq rd] at q
  exact q
 ·split at w
  ·exact .inr ⟨_,_,rd,re,ZU G (show RepV B H (.bl _) (.bl _) from rfl) w⟩
  ·exact w.elim
 ·exact w.elim
theorem Zq2:OpR X (compareOp .IsNot) (rM X Zju):=by
 refine OpR.imp (op_notN.or ZqZ) fun x y H Q q=>?_
 obtain ⟨σ,B,θ,d,e,G,rd,re,w⟩:=q
 unfold Zju at w
 split at w
 ·refine .inl ⟨re,?_⟩
  have q:=ZU G (show RepV B H (.bl _) (.bl _) from rfl) w
  rw [Zkq rd] at q
  exact q
 ·split at w
  ·exact .inr ⟨_,_,rd,re,ZU G (show RepV B H (.bl _) (.bl _) from rfl) w⟩
  ·exact w.elim
 ·exact w.elim
end
end
end L2.MM
namespace L2.MM
open PySem PySem.Spec PyProof.Rows PySem.SeqAt
noncomputable section
variable {X:Cx}
section
noncomputable def ixD (θ:Sto) (x:D) (i:Int):Option D:=match x with
 | .str z=>if z.length<=BIG then (atI z.cps.toList i).map fun c=>.str ⟨#[c]⟩ else none
 | x=>(seqOf θ x).bind (atI · i)
noncomputable def ixM:OM:=fun x y θ=>match y with
 | .int i=>match ixD θ x i with
  | some d=>.ok d θ
  | none=>.bad
 | _=>.bad
theorem RepL.atI {B:Bx} {H:Hp} {xs:List D} {vs:List V} {i:Int} {d:D} (r:RepL B H xs vs) (h:atI xs i=some d):∃v,atI vs i=some v/\RepV B H d v:=by
 unfold L2.atI at h ⊢
 rw [r.len]
 cases e:ixN xs.length i with
 | none=>rw [e] at h; cases h
 | some j=>
  rw [e] at h
  exact r.get h
theorem ZG:IxR X (rM X ixM):=by
 refine IxR.imp ZuK fun x y H Q q=>?_
 obtain ⟨σ,B,θ,d,e,G,rd,re,w⟩:=q
 unfold ixM at w
 split at w
 ·rename_i i
  split at w
  ·rename_i r e1
   have sq:(seqOf θ d).bind (L2.atI · i)=some r->rIx X.K x y H Q:=fun h=>by
    cases e2:seqOf θ d with
    | none=>rw [e2] at h; cases h
    | some xs=>
     rw [e2] at h
     obtain ⟨a,vs,rfl,h1,h2⟩:=Zc8 G rd e2
     obtain ⟨v,h3,h4⟩:=h2.atI h
     have q:=ZU G h4 w
     rcases h1 with h1 | h1
     ·exact .inl ⟨a,vs,i,v,rfl,re,h1,h3,q⟩
     ·exact .inr (.inl ⟨a,vs,i,v,rfl,re,h1,h3,q⟩)
   cases d with
   | str z=>
    simp only [ixD] at e1
    split at e1
    ·rename_i hz
     cases e2:L2.atI z.cps.toList i with
     | none=>rw [e2] at e1; cases e1
     | some c=>
      rw [e2] at e1
      cases e1
      exact .inr (.inr ⟨z,i,c,rd,re,zR hz,e2,ZU G (show RepV B H (.str _) (.str _) from rfl) w⟩)
    ·cases e1
   | non=>exact sq e1
   | bl _=>exact sq e1
   | int _=>exact sq e1
   | ty _=>exact sq e1
   | scr _=>exact sq e1
   | tup _=>exact sq e1
   | lst _=>exact sq e1
   | ref _=>exact sq e1
  ·exact w.elim
 ·exact w.elim
abbrev PM:=List Sl->Sto->R (Option Int)
def EqO (_:Bx) (_:Hp) (a b:Option Int):Prop:=a=b
def tMO (X:Cx) (f:PM):TO:=fun σ H Q=>∃B θ ρ,Frm X.cl B θ ρ σ H/\wpR X σ EqO B H (f ρ θ) Q
def MO (X:Cx) (e:Option Expr) (f:PM):Prop:=PO X e (tMO X f)
theorem ZeL {f:PM} {σ:St} {H:Hp} {Q Q':Option Int->Hp->Prop} (h:tMO X f σ H Q) (hQ:∀v H',Q v H'->Q' v H'):tMO X f σ H Q':=let ⟨B,θ,ρ,F,w⟩:=h; ⟨B,θ,ρ,F,w.mono hQ⟩
theorem ZjV {σ:St} {H:Hp} {γ δ:Type} {Rel':Bx->Hp->γ->δ->Prop} {B:Bx} {θ:Sto} {ρ:List Sl} {f:PM} {k:Option Int->Sto->R γ} {Q:δ->Hp->Prop} (F:Frm X.cl B θ ρ σ H) (h:wpR X σ Rel' B H ((f ρ θ).bind k) Q) :
  tMO X f σ H (fun c H1=>∃B1 θ1,ExtE B B1 H H1/\Frm X.cl B1 θ1 ρ σ H1/\wpR X σ Rel' B1 H1 (k c θ1) Q):=
 ⟨B,θ,ρ,F,(wpR.bind (Rel:=EqO) h).mono fun v H1 ⟨B1,θ1,d,E,G,r,w⟩=>by cases (show d=v from r); exact ⟨B1,θ1,E,F.ext E G,w⟩⟩
noncomputable def Zaw:PM:=fun _ θ=>.ok none θ
noncomputable def Zb4 (f:EM):PM:=fun ρ θ=>(f ρ θ).bind fun x θ=>match x with
 | .int i=>.ok (some i) θ
 | _=>.bad
theorem PO.imp {e:Option Expr} {t t':TO} (h:PO X e t) (hi:∀σ H Q,t' σ H Q->t σ H Q):PO X e t':=fun pins s σ H Q I q=>h pins s σ H Q I (hi σ H Q q)
theorem Zbx:MO X none Zaw:=PO.imp ZqP fun σ H Q h=>by
 obtain ⟨B,θ,ρ,F,w⟩:=h
 exact ZU (Rel:=EqO) F.good rfl w
theorem Za5 {e:Expr} {f:EM} (h:ME X e f):MO X (some e) (Zb4 f):=PO.imp (ZqO h) fun σ H Q h=>by
 obtain ⟨B,θ,ρ,F,w⟩:=h
 refine ZK (step F w) ?_
 rintro v H1 ⟨B1,θ1,x,E1,F1,rx,w1⟩
 cases x with
 | int i=>exact ⟨i,rx,ZU (Rel:=EqO) F1.good rfl w1⟩
 | _=>exact w1.elim
noncomputable def ZbA {α:Type} (xs:List α) (lo hi:Option Int):List α:=(xs.drop (HT.sIx xs.length 0 lo)).take (HT.sIx xs.length xs.length hi-HT.sIx xs.length 0 lo)
theorem RepL.cut {B:Bx} {H:Hp} {xs:List D} {vs:List V} (r:RepL B H xs vs) (lo hi:Option Int):RepL B H (ZbA xs lo hi) (ZkE vs lo hi):=by
 unfold ZbA ZkE
 rw [r.len]
 exact (r.drop _).take _
noncomputable def Zgx (θ:Sto) (x:D) (lo hi:Option Int):Option D:=match x with
 | .tup xs=>if HT.sIx xs.length 0 lo=0/\HT.sIx xs.length xs.length hi=xs.length then none else some (.tup (ZbA xs lo hi))
 | x=>(zK θ x).map fun xs=>.lst (ZbA xs lo hi)
noncomputable def mSl (f:EM) (lo hi:PM):EM:=fun ρ θ=>(f ρ θ).bind fun x θ=>(lo ρ θ).bind fun l θ=>(hi ρ θ).bind fun h θ=>match Zgx θ x l h with
 | some d=>.ok d θ
 | none=>.bad
theorem Zbo {e:Expr} {lo hi:Option Expr} {f:EM} {fl fh:PM} {pos p2:Pos} (he:ME X e f) (hl:MO X lo fl) (hh:MO X hi fh):ME X (.Subscript e (.Slice lo hi none p2) pos) (mSl f fl fh):=by
 refine PE.imp (ZnH (sl_list.or ZtY) he hl hh) fun σ H Q h=>?_
 obtain ⟨B,θ,ρ,F,w⟩:=h
 refine ZK (step F w) ?_
 rintro v H1 ⟨B1,θ1,x,E1,F1,rx,w1⟩
 refine ZeL (ZjV F1 w1) ?_
 rintro l H2 ⟨B2,θ2,E2,F2,w2⟩
 refine ZeL (ZjV F2 w2) ?_
 rintro u H3 ⟨B3,θ3,E3,F3,w3⟩
 have rx3:=rx.ext (E2.trans E3).toExtS
 have lst:∀d,(zK θ3 x).map (fun xs=>D.lst (ZbA xs l u))=some d->wpR X σ RepV B3 H3 (R.ok d θ3) Q->ZvU X.K v l u H3 Q:=fun d h w=>by
  cases e2:zK θ3 x with
  | none=>rw [e2] at h; cases h
  | some xs=>
   rw [e2] at h
   cases h
   obtain ⟨a,vs,rfl,h1,h2⟩:=ZaV F3.good rx3 e2
   exact ⟨a,vs,rfl,SqL.of h1,ZfG F3.good (h2.cut l u) w⟩
 split at w3
 ·rename_i d e1
  cases x with
  | tup xs=>
   simp only [Zgx] at e1
   split at e1
   ·cases e1
   ·rename_i hw
    cases e1
    obtain ⟨a,vs,rfl,h1,k1,l1⟩:=rx3
    exact .inr ⟨a,vs,rfl,SqT.of h1,by rw [l1.len]; exact hw,Zhy F3.good (l1.cut l u) w3⟩
  | non=>exact .inl (lst d e1 w3)
  | bl _=>exact .inl (lst d e1 w3)
  | int _=>exact .inl (lst d e1 w3)
  | str _=>exact .inl (lst d e1 w3)
  | ty _=>exact .inl (lst d e1 w3)
  | scr _=>exact .inl (lst d e1 w3)
  | lst _=>exact .inl (lst d e1 w3)
  | ref _=>exact .inl (lst d e1 w3)
 ·exact w3.elim
noncomputable def ZdV {α:Type} (xs:List α) (lo hi st:Option Int):List α:=(sliceRange (sliceBounds lo hi st xs.length).1 (sliceBounds lo hi st xs.length).2.1 (sliceBounds lo hi st xs.length).2.2).filterMap (xs[·]?)
theorem RepL.none_of:∀{B:Bx} {H:Hp} {xs:List D} {vs:List V} {i:Nat},RepL B H xs vs->xs[i]?=none->vs[i]?=none:=fun {B H xs vs i} r e=>by
 have h1:=r.len
 have h2:xs.length<=i:=YM.mp e
 exact YM.mpr (by omega)
theorem RepL.pick {B:Bx} {H:Hp} {xs:List D} {vs:List V} (r:RepL B H xs vs):∀ks:List Nat,RepL B H (ks.filterMap (xs[·]?)) (ks.filterMap (vs[·]?))
 | []=>rfl
 | k::ks=>by
  cases e:xs[k]? with
  | none=>rw [List.filterMap_cons_none e,List.filterMap_cons_none (r.none_of e)]; exact r.pick ks
  | some x=>
   obtain ⟨u,e',q⟩:=r.get e
   rw [List.filterMap_cons_some e,List.filterMap_cons_some e']
   exact ⟨_,_,rfl,q,r.pick ks⟩
noncomputable def Zrc (f:EM) (lo hi st:PM):EM:=fun ρ θ=>(f ρ θ).bind fun x θ=>(lo ρ θ).bind fun l θ=>(hi ρ θ).bind fun h θ=>(st ρ θ).bind fun s θ=>match zK θ x with
 | some xs=>if s≠some 0/\(ZdV xs l h s).length<=BIG then .ok (.lst (ZdV xs l h s)) θ else .bad
 | none=>.bad
theorem ZiG {e sp:Expr} {lo hi:Option Expr} {f:EM} {fl fh fs:PM} {pos p2:Pos} (he:ME X e f) (hl:MO X lo fl) (hh:MO X hi fh) (hs:MO X (some sp) fs):ME X (.Subscript e (.Slice lo hi (some sp) p2) pos) (Zrc f fl fh fs):=by
 refine PE.imp (Zmv he hl hh hs) fun σ H Q h=>?_
 obtain ⟨B,θ,ρ,F,w⟩:=h
 refine ZK (step F w) ?_
 rintro v H1 ⟨B1,θ1,x,E1,F1,rx,w1⟩
 refine ZeL (ZjV F1 w1) ?_
 rintro l H2 ⟨B2,θ2,E2,F2,w2⟩
 refine ZeL (ZjV F2 w2) ?_
 rintro u H3 ⟨B3,θ3,E3,F3,w3⟩
 refine ZeL (ZjV F3 w3) ?_
 rintro s H4 ⟨B4,θ4,E4,F4,w4⟩
 split at w4
 ·rename_i xs e1
  split at w4
  ·rename_i hz
   obtain ⟨a,vs,rfl,h1,h2⟩:=ZaV F4.good (rx.ext ((E2.trans E3).trans E4).toExtS) e1
   have p:RepL B4 H4 (ZdV xs l u s) (ZeN vs l u s):=by
    unfold ZdV ZeN
    rw [h2.len]
    exact h2.pick _
   exact ⟨a,vs,rfl,SqL.of h1,hz.1,by rw [p.len]; exact zR hz.2,ZfG F4.good p w4⟩
  ·exact w4.elim
 ·exact w4.elim
noncomputable def Zdr:GM:=fun ds θ=>match ds with
 | [.str z]=>if z.length<=BIG then .ok (.int z.length) θ else .bad
 | [d]=>match seqOf θ d with
  | some xs=>.ok (.int xs.length) θ
  | none=>.bad
 | _=>.bad
theorem RepL.one {B:Bx} {H:Hp} {d:D} {vs:List V} (r:RepL B H [d] vs):∃v,vs=[v]/\RepV B H d v:=by
 obtain ⟨v,q,rfl,hv,hq⟩:=r
 cases (show q=[] from hq)
 exact ⟨v,rfl,hv⟩
theorem RepL.two {B:Bx} {H:Hp} {d e:D} {vs:List V} (r:RepL B H [d,e] vs):∃v u,vs=[v,u]/\RepV B H d v/\RepV B H e u:=by
 obtain ⟨v,q,rfl,hv,hq⟩:=r
 obtain ⟨u,rfl,hu⟩:=hq.one
 exact ⟨v,u,rfl,hv,hu⟩
theorem Ze1:CallR X (.builtin "len") (rC X Zdr):=by
 refine CallR.imp (call_len_str.or ZjB) fun vs H Q q=>?_
 obtain ⟨σ,B,θ,ds,G,r,w⟩:=q
 unfold Zdr at w
 split at w
 ·split at w
  ·rename_i z hz
   obtain ⟨v,rfl,rv⟩:=r.one
   cases (show v=V.str z from rv)
   exact .inl ⟨z,rfl,zR hz,ZU G (show RepV B H (.int _) (.int _) from rfl) w⟩
  ·exact w.elim
 ·split at w
  ·rename_i xs e1
   obtain ⟨v,rfl,rv⟩:=r.one
   obtain ⟨a,us,rfl,h1,h2⟩:=Zc8 G rv e1
   exact .inr ⟨a,us,rfl,h1,by rw [h2.len]; exact ZU G (show RepV B H (.int _) (.int _) from rfl) w⟩
  ·exact w.elim
 ·exact w.elim
noncomputable def Zgi:List D->Option (List Int)
 | []=>some []
 | .int i::r=>(Zgi r).map (i::·)
 | _=>none
@[simp] theorem Zog (ns:List Int):Zgi (ns.map D.int)=some ns:=by
 induction ns with
 | nil=>rfl
 | cons n r ih=>simp [Zgi,ih]
theorem ZlY:∀{ds:List D} {ns:List Int},Zgi ds=some ns->ds=ns.map D.int
 | [],_,h=>by cases h; rfl
 | d::r,ns,h=>by
  cases d with
  | int i=>
   simp only [Zgi] at h
   cases e:Zgi r with
   | none=>rw [e] at h; cases h
   | some ms=>rw [e] at h; cases h; rw [ZlY e]; rfl
  | _=>cases h
theorem Zkr {B:Bx} {H:Hp}:∀{ns:List Int} {vs:List V},RepL B H (ns.map D.int) vs->vs=ns.map V.int
 | [],_,r=>r
 | n::ns,_,r=>by
  obtain ⟨v,q,rfl,hv,hq⟩:=r
  cases (show v=V.int n from hv)
  rw [Zkr hq]; rfl
noncomputable def Zmk:GM:=fun ds θ=>match ds with
 | [d]=>match (zK θ d).bind Zgi with
  | some ns=>.ok (.int ns.sum) θ
  | none=>.bad
 | _=>.bad
theorem Zsc (hc:X.calm=true:=by rfl):CallR X (.builtin "sum") (rC X Zmk):=by
 refine CallR.imp (ZoF hc) fun vs H Q q=>?_
 obtain ⟨σ,B,θ,ds,G,r,w⟩:=q
 unfold Zmk at w
 split at w
 ·rename_i d
  split at w
  ·rename_i ns e1
   obtain ⟨v,rfl,rv⟩:=r.one
   cases e2:zK θ d with
   | none=>rw [e2] at e1; cases e1
   | some xs=>
    rw [e2] at e1
    obtain ⟨a,us,rfl,h1,h2⟩:=ZaV G rv e2
    rw [ZlY (show Zgi xs=some ns from e1)] at h2
    rw [Zkr h2] at h1
    exact ⟨a,ns,rfl,SqL.of h1,ZU G (show RepV B H (.int _) (.int _) from rfl) w⟩
  ·exact w.elim
 ·exact w.elim
noncomputable def Zki:GM:=fun ds θ=>match ds with
 | [.int i,.int j]=>.ok (.int (if j<i then j else i)) θ
 | [.int i,.int j,.int k]=>.ok (.int (if j<i then (if k<j then k else j) else (if k<i then k else i))) θ
 | _=>.bad
noncomputable def Zrb:GM:=fun ds θ=>match ds with
 | [.int i,.int j]=>.ok (.int (if j > i then j else i)) θ
 | _=>.bad
theorem RepL.three {B:Bx} {H:Hp} {d e f:D} {vs:List V} (r:RepL B H [d,e,f] vs):∃v u w,vs=[v,u,w]/\RepV B H d v/\RepV B H e u/\RepV B H f w:=by
 obtain ⟨v,q,rfl,hv,hq⟩:=r
 obtain ⟨u,w,rfl,hu,hw⟩:=hq.two
 exact ⟨v,u,w,rfl,hv,hu,hw⟩
theorem ZmT (hc:X.calm=true):CallR X (.builtin "min") (fun xs H Q=>∃i j k,xs=[.int i,.int j,.int k]/\Q (.int (if j<i then (if k<j then k else j) else (if k<i then k else i))) H):=by
 intro pins s σ H xs us Q I r h
 obtain ⟨i,j,k,rfl,q⟩:=h
 cases r with
 | cons r1 rr=>
  obtain ⟨u2,u3,e,r2,r3⟩:=Zm4 rr
  subst e
  obtain ⟨t1,rfl⟩:=r1
  obtain ⟨t2,rfl⟩:=r2
  obtain ⟨t3,rfl⟩:=r3
  refine min_three_ints (I.ok.hd hc) fun h' tk kk=>⟨_,H,I.kept kk,?_,q⟩
  by_cases c1:j<i
  ·by_cases c2:k<j
   ·simp only [c1,c2,if_true]; exact ⟨_,rfl⟩
   ·simp only [c1,c2,if_true,if_false]; exact ⟨_,rfl⟩
  ·by_cases c2:k<i
   ·simp only [c1,c2,if_true,if_false]; exact ⟨_,rfl⟩
   ·simp only [c1,c2,if_false]; exact ⟨_,rfl⟩
theorem Zl7 (hc:X.calm=true:=by rfl):CallR X (.builtin "min") (rC X Zki):=by
 refine CallR.imp ((ZmU hc).or (ZmT hc)) fun vs H Q q=>?_
 obtain ⟨σ,B,θ,ds,G,r,w⟩:=q
 unfold Zki at w
 split at w
 ·rename_i i j
  obtain ⟨v,u,rfl,rv,ru⟩:=r.two
  cases (show v=V.int i from rv)
  cases (show u=V.int j from ru)
  exact .inl ⟨i,j,rfl,ZU G (show RepV B H (.int _) (.int _) from rfl) w⟩
 ·rename_i i j k
  obtain ⟨v,u,z,rfl,rv,ru,rz⟩:=r.three
  cases (show v=V.int i from rv)
  cases (show u=V.int j from ru)
  cases (show z=V.int k from rz)
  exact .inr ⟨i,j,k,rfl,ZU G (show RepV B H (.int _) (.int _) from rfl) w⟩
 ·exact w.elim
theorem ZwG (hc:X.calm=true:=by rfl):CallR X (.builtin "max") (rC X Zrb):=by
 refine CallR.imp (ZmV hc) fun vs H Q q=>?_
 obtain ⟨σ,B,θ,ds,G,r,w⟩:=q
 unfold Zrb at w
 split at w
 ·rename_i i j
  obtain ⟨v,u,rfl,rv,ru⟩:=r.two
  cases (show v=V.int i from rv)
  cases (show u=V.int j from ru)
  exact ⟨i,j,rfl,ZU G (show RepV B H (.int _) (.int _) from rfl) w⟩
 ·exact w.elim
noncomputable def ZlU:GM:=fun ds θ=>match ds with
 | [d]=>match seqOf θ d with
  | some xs=>.ok (.lst xs) θ
  | none=>.bad
 | _=>.bad
theorem ZuO:CallR X (.type "list") (rC X ZlU):=by
 refine CallR.imp ZjA fun vs H Q q=>?_
 obtain ⟨σ,B,θ,ds,G,r,w⟩:=q
 unfold ZlU at w
 split at w
 ·split at w
  ·rename_i xs e1
   obtain ⟨v,rfl,rv⟩:=r.one
   obtain ⟨a,us,rfl,h1,h2⟩:=Zc8 G rv e1
   exact ⟨a,us,rfl,h1,ZfG G h2 w⟩
  ·exact w.elim
 ·exact w.elim
noncomputable def ZhD:GM:=fun ds θ=>match ds with
 | [.tup xs]=>.ok (.tup xs) θ
 | [d]=>match zK θ d with
  | some xs=>.ok (.tup xs) θ
  | none=>.bad
 | _=>.bad
theorem Zl6:CallR X (.type "tuple") (rC X ZhD):=by
 refine CallR.imp Zio fun vs H Q q=>?_
 obtain ⟨σ,B,θ,ds,G,r,w⟩:=q
 unfold ZhD at w
 split at w
 ·rename_i xs
  obtain ⟨v,rfl,rv⟩:=r.one
  obtain ⟨a,us,rfl,h1,k1,l1⟩:=id rv
  exact ⟨a,us,rfl,.inr ⟨SqT.of h1,ZU G rv w⟩⟩
 ·split at w
  ·rename_i xs e1
   obtain ⟨v,rfl,rv⟩:=r.one
   obtain ⟨a,us,rfl,h1,h2⟩:=ZaV G rv e1
   exact ⟨a,us,rfl,.inl ⟨SqL.of h1,Zhy G h2 w⟩⟩
  ·exact w.elim
 ·exact w.elim
inductive Ty | non | bl | int | str | lst | tup
end
end
end L2.MM
namespace L2.MM
open PySem PySem.Spec PyProof.Rows PySem.SeqAt
noncomputable section
variable {X:Cx}
inductive Src where
 | seq (d:D) | rng (lo:Int) (n:Nat)
noncomputable def Src.items (θ:Sto):Src->Option (List D)
 | .seq d=>seqOf θ d
 | .rng lo n=>some ((List.range n).map fun (i:Nat)=>D.int (lo+(i:Int)))
def SrcRep (K:PySem.W.Frag) (B:Bx) (H:Hp):Src->It->Prop
 | .seq d,J=>∃a,RepV B H d (.ref a)/\J=(match d with | .tup _=>Itt K a | _=>Itl K a)
 | .rng lo n,J=>J=Itr lo n
abbrev IM:=List Sl->Sto->R Src
section
def tMI (X:Cx) (f:IM):TI:=fun σ H Q=>∃B θ ρ,Frm X.cl B θ ρ σ H/\wpR X σ (SrcRep X.K) B H (f ρ θ) Q
def MI (X:Cx) (tg iter:Expr) (f:IM):Prop:=PI X tg iter (tMI X f)
theorem PI.imp {tg iter:Expr} {t t':TI} (h:PI X tg iter t) (hi:∀σ H Q,t' σ H Q->t σ H Q):PI X tg iter t':=fun pins s σ H Q I q=>h pins s σ H Q I (hi σ H Q q)
theorem SrcRep.ext {K:PySem.W.Frag} {B B':Bx} {H H':Hp} {S:Src} {J:It} (r:SrcRep K B H S J) (E:ExtS B B' H H'):SrcRep K B' H' S J:=by
 cases S with
 | seq d=>obtain ⟨a,h,e⟩:=r; exact ⟨a,h.ext E,e⟩
 | rng lo n=>exact r
theorem Zgw {cl:Mo} {B:Bx} {θ:Sto} {H:Hp} {S:Src} {J:It} {xs:List D} (G:Good cl B θ H) (r:SrcRep cl.K B H S J) (h:S.items θ=some xs) :
  (∀i d,xs[i]?=some d->J.go i H/\∀x H',J.yld i H x H'->H'=H/\RepV B H d x)/\J.stop xs.length H:=by
 cases S with
 | rng lo n=>
  cases (show J=Itr lo n from r)
  cases h
  refine ⟨fun i d e=>?_,by show n<=_; simp⟩
  rw [Yr] at e
  by_cases hi:i<n
  ·rw [List.getElem?_range hi] at e
   cases e
   exact ⟨hi,fun x H' y=>⟨y.1,y.2⟩⟩
  ·rw [List.getElem?_eq_none (by simpa using hi)] at e
   cases e
 | seq d=>
  obtain ⟨a,rv,e⟩:=r
  cases d with
  | tup ys=>
   obtain ⟨a',vs,e1,h1,_,h2⟩:=rv
   cases e1
   cases h
   simp only at e
   subst e
   refine ⟨fun i d e=>?_,⟨vs,SqT.of h1,by rw [h2.len]; exact Yb _⟩⟩
   obtain ⟨v,q1,q2⟩:=h2.get e
   refine ⟨⟨vs,v,SqT.of h1,q1⟩,fun x H' y=>⟨y.1,?_⟩⟩
   have:=y.2 vs (SqT.of h1)
   rw [q1] at this
   cases this
   exact q2
  | scr ns=>
   cases h
   obtain ⟨a',vs',e1,h1,_⟩:=Zc8 G rv (show seqOf θ (.scr ns)=some (ns.map D.int) from rfl)
   cases e1
   simp only at e
   subst e
   have hS:SqL cl.K H a (ns.map V.int):=by
    obtain ⟨a',e1,h1⟩:=rv
    cases e1
    rcases h1 with ⟨o,h1,_⟩ | h1
    ·exact .inl (.inr ⟨o,h1⟩)
    ·exact .inr (G.kc a ns h1)
   have h2:RepL B H (ns.map D.int) (ns.map V.int):=RepL.map (f:=D.int) (g:=V.int) (fun _=>rfl) ns
   refine ⟨fun i d e=>?_,⟨ns.map V.int,hS,by simp⟩⟩
   obtain ⟨v,q1,q2⟩:=h2.get e
   refine ⟨⟨_,v,hS,q1⟩,fun x H' y=>⟨y.1,?_⟩⟩
   have:=y.2 _ hS
   rw [q1] at this
   cases this
   exact q2
  | lst ys=>
   obtain ⟨a',vs,e1,h1,h2⟩:=ZaV G rv (show zK θ (.lst ys)=some xs from h)
   cases e1
   simp only at e
   subst e
   refine ⟨fun i d e=>?_,⟨vs,SqL.of h1,by rw [h2.len]; exact Yb _⟩⟩
   obtain ⟨v,q1,q2⟩:=h2.get e
   refine ⟨⟨vs,v,SqL.of h1,q1⟩,fun x H' y=>⟨y.1,?_⟩⟩
   have:=y.2 vs (SqL.of h1)
   rw [q1] at this
   cases this
   exact q2
  | ref l=>
   obtain ⟨a',vs,e1,h1,h2⟩:=ZaV G rv (show zK θ (.ref l)=some xs from h)
   cases e1
   simp only at e
   subst e
   refine ⟨fun i d e=>?_,⟨vs,SqL.of h1,by rw [h2.len]; exact Yb _⟩⟩
   obtain ⟨v,q1,q2⟩:=h2.get e
   refine ⟨⟨vs,v,SqL.of h1,q1⟩,fun x H' y=>⟨y.1,?_⟩⟩
   have:=y.2 vs (SqL.of h1)
   rw [q1] at this
   cases this
   exact q2
  | non=>cases h
  | bl _=>cases h
  | int _=>cases h
  | str _=>cases h
  | ty _=>cases h
def ZzT (K:PySem.W.Frag) (tl:TE):TI:=fun σ H R=>tl σ H fun x H1=>∃a,x=.ref a/\(((∃xs,SqL K H1 a xs)/\R (Itl K a) H1)\/((∃xs,SqT K H1 a xs)/\R (Itt K a) H1))
theorem Zuf {tg l:Expr} {tl:TE} (hl:PE X l tl):PI X tg l (ZzT X.K tl):=by
 intro pins s σ H R I h
 refine thn (hl pins s σ H _ I h) fun v s1 ⟨x,H1,I1,r1,q1⟩=>?_
 obtain ⟨a,e,q1⟩:=q1
 subst e
 cases r1
 rcases q1 with ⟨⟨xs,hq⟩,q⟩ | ⟨⟨xs,hq⟩,q⟩
 ·obtain ⟨its,rv,p,hz⟩:=I1.list hq
  refine wpAny_pyIter_list p.isList ?_
  refine ⟨s1.heap.objs.size,[s1.heap.objs.size],_,_,H1,rfl,I1.kept (t':=s1.toks) fun b o e=>Heap.get?_push_of_some _ e,Zmf a _,⟨_,Heap.get?_push_size _ rfl,rfl,rfl⟩,fun b hb=>?_,q⟩
  have e:b=s1.heap.objs.size:=by simpa using hb
  subst e
  exact I1.fpOk (Yb _) (I1.hok.fresh (Yb _))
 ·obtain ⟨its,rv,p,hz⟩:=I1.tuple hq
  refine wpAny_pyIter_tuple (show s1.heap.IsTuple a its.toArray from p) ?_
  refine ⟨s1.heap.objs.size,[s1.heap.objs.size],_,_,H1,rfl,I1.kept (t':=s1.toks) fun b o e=>Heap.get?_push_of_some _ e,ZkP a _,⟨_,Heap.get?_push_size _ rfl,rfl,rfl⟩,fun b hb=>?_,q⟩
  have e:b=s1.heap.objs.size:=by simpa using hb
  subst e
  exact I1.fpOk (Yb _) (I1.hok.fresh (Yb _))
noncomputable def mIn (f:EM):IM:=fun ρ θ=>(f ρ θ).bind fun d θ=>match seqOf θ d with
 | some _=>.ok (.seq d) θ
 | none=>.bad
theorem Zk3 {tg l:Expr} {f:EM} (h:ME X l f):MI X tg l (mIn f):=by
 refine PI.imp (Zuf h) fun σ H R q=>?_
 obtain ⟨B,θ,ρ,F,w⟩:=q
 refine ZK (step F w) ?_
 rintro v H1 ⟨B1,θ1,d,E1,F1,rd,w1⟩
 split at w1
 ·rename_i xs e
  obtain ⟨a,vs,rfl,h1,h2⟩:=Zc8 F1.good rd e
  refine ⟨a,rfl,?_⟩
  have fin:=fun J (hJ:SrcRep X.K B1 H1 (.seq d) J)=>ZU (Rel:=SrcRep X.K) F1.good hJ w1
  cases d with
  | tup ys=>
   obtain ⟨a',us,e1,g1,_,_⟩:=id rd
   cases e1
   exact .inr ⟨⟨us,SqT.of g1⟩,fin _ ⟨a,rd,rfl⟩⟩
  | scr ns=>
   have hS:SqL X.K H1 a (ns.map V.int):=by
    obtain ⟨a',e1,g1⟩:=id rd
    cases e1
    rcases g1 with ⟨o,g1,_⟩ | g1
    ·exact .inl (.inr ⟨o,g1⟩)
    ·exact .inr (F1.good.kc a ns g1)
   exact .inl ⟨⟨_,hS⟩,fin _ ⟨a,rd,rfl⟩⟩
  | lst ys=>
   obtain ⟨a',us,e1,g1,_⟩:=ZaV F1.good rd (show zK θ1 (.lst ys)=some xs from e)
   cases e1
   exact .inl ⟨⟨us,SqL.of g1⟩,fin _ ⟨a,rd,rfl⟩⟩
  | ref l=>
   obtain ⟨a',us,e1,g1,_⟩:=ZaV F1.good rd (show zK θ1 (.ref l)=some xs from e)
   cases e1
   exact .inl ⟨⟨us,SqL.of g1⟩,fin _ ⟨a,rd,rfl⟩⟩
  | non=>cases e
  | bl _=>cases e
  | int _=>cases e
  | str _=>cases e
  | ty _=>cases e
 ·exact w1.elim
noncomputable def Zb3 (f:AM):IM:=fun ρ θ=>(f ρ θ).bind fun ds θ=>match ds with
 | [.int j]=>if -1000000<=j/\j<=1000000 then .ok (.rng 0 j.toNat) θ else .bad
 | _=>.bad
theorem Zb2 {tg a:Expr} {f:AM} {p pos:Pos} (hm:X.mg "range"=none) (ha:MA X [a] f) (hg:Gl X "range":=by rfl) (hs:starEach [a] X.env=[(false,eval a X.env)]:=by rfl):MI X tg (.Call (.Name "range" p) [a] [] pos) (Zb3 f):=by
 refine PI.imp (Zmu hg hm ha hs) fun σ H R q=>?_
 obtain ⟨B,θ,ρ,F,w⟩:=q
 refine ZbG (ZgZ F w) ?_
 rintro vs H1 ⟨B1,θ1,ds,E1,F1,rd,w1⟩
 split at w1
 ·rename_i j
  split at w1
  ·rename_i hj
   obtain ⟨v,rfl,rv⟩:=rd.one
   cases (show v=V.int j from rv)
   exact ⟨j,rfl,by have:=hj.1; omega,by have:=hj.2; omega,ZU (Rel:=SrcRep X.K) F1.good (show SrcRep X.K B1 H1 (.rng 0 j.toNat) _ from rfl) w1⟩
  ·exact w1.elim
 ·exact w1.elim
noncomputable def inEnv (src:List Nat) (ρ:List Sl) (x:D):List Sl:=Sl.val x::src.map fun (j:Nat)=>match ρ[j]? with
 | some (Sl.val d)=>Sl.val d
 | _=>Sl.no
theorem Frm.inner {B:Bx} {θ:Sto} {ρ:List Sl} {σ:St} {H:Hp} (F:Frm X.cl B θ ρ σ H) (src:List Nat) {x:D} {v:V} (r:RepV B H x v):Frm X.cl B θ (inEnv src ρ x) (L2.inner src σ (some v)) H:=by
 have key:∀(i:Nat) (s:Sl),(inEnv src ρ x)[i]?=some s->s=.no\/∃d,s=.val d/\∃v',(L2.inner src σ (some v))[i]?=some (some v')/\RepV B H d v':=fun i s e=>by
  cases i with
  | zero=>simp [inEnv] at e; subst e; exact .inr ⟨x,rfl,v,by simp [L2.inner],r⟩
  | succ i=>
   simp only [inEnv,Y2,Yr] at e
   simp only [L2.inner,Y2,Yr]
   cases q:src[i]? with
   | none=>rw [q] at e; cases e
   | some j=>
    rw [q] at e
    simp only [Option.map_some,Option.some.injEq] at e
    split at e
    ·rename_i d ed
     subst e
     obtain ⟨v',h1,h2⟩:=F.val j d ed
     exact .inr ⟨d,rfl,v',by simp [h1],h2⟩
    ·exact .inl e.symm
 refine ⟨F.good,by simp [inEnv,L2.inner],fun i d e=>?_,fun i xs e=>?_,fun i j xs ys a _ e _=>?_⟩
 ·rcases key i _ e with z | ⟨d',z,v',h1,h2⟩
  ·cases z
  ·cases z; exact ⟨v',h1,h2⟩
 ·rcases key i _ e with z | ⟨d',z,_⟩<;>cases z
 ·rcases key i _ e with z | ⟨d',z,_⟩<;>cases z
open Classical in
def Zgl (S:Src) (all:List D) (elt:D->Sto->R D):List D->List D->Sto->R D
 | [],acc,θ=>if S.items θ=some all/\acc.length<=BIG then .ok (.lst acc) θ else .bad
 | x::r,acc,θ=>if S.items θ=some all then (elt x θ).bind fun y θ=>Zgl S all elt r (acc++[y]) θ else .bad
def ZcI (fi:IM) (src:List Nat) (elt:EM):EM:=fun ρ θ=>(fi ρ θ).bind fun S θ=>match S.items θ with
 | some xs=>if xs.length<=BIG then Zgl S xs (fun x θ=>elt (inEnv src ρ x) θ) xs [] θ else .bad
 | none=>.bad
open Classical in
theorem Zlu {fi:IM} {src:List Nat} {elt:EM} (σ:St) (H:Hp) (Q:VK) (h:tM X (ZcI fi src elt) σ H Q):tLc (tMI X fi) src (tM X elt) σ H Q:=by
 obtain ⟨B,θ,ρ,F,w⟩:=h
 refine ⟨B,θ,ρ,F,(wpR.bind (Rel:=SrcRep X.K) w).mono ?_⟩
 rintro J H1 ⟨B1,θ1,S,E1,G1,rJ,w1⟩
 split at w1
 ·rename_i xs e1
  split at w1
  ·rename_i hz
   refine ⟨xs.length,fun i ys H'=>∃B' θ' acc,ExtE B1 B' H1 H'/\Good X.cl B' θ' H'/\RepL B' H' acc ys/\wpR X σ RepV B' H' (Zgl S xs (fun x θ=>elt (inEnv src ρ x) θ) (xs.drop i) acc θ') Q,zR hz,?_,?_,?_⟩
   ·exact ⟨B1,θ1,[],ExtE.refl _ _,G1,rfl,w1⟩
   ·rintro i ys H' hi ⟨B2,θ2,acc,E2,G2,racc,w2⟩
    rw [Yz hi] at w2
    unfold Zgl at w2
    split at w2
    ·rename_i e2
     obtain ⟨g1,g2⟩:=(Zgw G2 (rJ.ext E2.toExtS) e2).1 i xs[i] (List.getElem?_eq_getElem hi)
     refine ⟨g1,fun y H3 hy=>?_⟩
     obtain ⟨rfl,ry⟩:=g2 y H3 hy
     have F2:=(F.ext (E1.trans E2) G2).inner src ry
     refine ⟨B2,θ2,_,F2,(wpR.bind (Rel:=RepV) w2).mono ?_⟩
     rintro z H4 ⟨B4,θ4,d,E4,G4,rd,w4⟩
     exact ⟨B4,θ4,acc++[d],E2.trans E4,G4,(racc.ext E4.toExtS).app ⟨z,[],rfl,rd,rfl⟩,w4⟩
    ·exact w2.elim
   ·rintro ys H' ⟨B2,θ2,acc,E2,G2,racc,w2⟩
    rw [YT] at w2
    unfold Zgl at w2
    split at w2
    ·rename_i e2
     exact ⟨(Zgw G2 (rJ.ext E2.toExtS) e2.1).2,ZfG G2 racc w2⟩
    ·exact w2.elim
  ·exact w1.elim
 ·exact w1.elim
theorem Zwo {x:Str} {px pos:Pos} {iter elt:Expr} {scope:Scope} {N':List Str} {src:List Nat} {sc:Scope} {N:List Str} {fi:IM} {fe:EM} (S:Zam scope sc x N N' src) (hsc:X.env.scope=sc) (hN:X.N=N) (hi:MI X (.Name x px) iter fi)
  (helt:∀(cl:List (Str×Addr)) (C:Addr) (s₀:Shared) (H₀:Hp) (fp:List Addr),ME (X.comp scope N' cl C s₀ H₀ fp) elt fe) (hcm:X.calm=true:=by rfl) (hs:∀v,foldedSetIterable iter X.env v=pure v:=by intro _; rfl) :
  ME X (.ListComp elt [⟨.Name x px,iter,[],0⟩] scope pos) (ZcI fi src fe):=
 PE.imp (Zv6 (te:=tM X fe) S hsc hN hi (fun cl C s₀ H₀ fp=>helt cl C s₀ H₀ fp) hcm hs) Zlu
inductive Fl where
 | nx | rt (d:D) | bk | ct
abbrev SM:=List Sl->Sto->R (Fl×List Sl)
def Zsb (Dn:Zfz) (B:Bx) (σ:St) (H:Hp):Fl->Prop
 | .nx=>Dn.nx σ H
 | .bk=>Dn.bk σ H
 | .ct=>Dn.ct σ H
 | .rt d=>∀v,RepV B H d v->Dn.rt v H
def wpS (X:Cx) (σ:St) (B:Bx) (H:Hp) (r:R (Fl×List Sl)) (Dn:Zfz):Prop:=match r with
 | .ok (fl,ρ') θ'=>∀B' H' σ',ExtS B B' H H'->Frm X.cl B' θ' ρ' σ' H'->Zsb Dn B' σ' H' fl
 | .ex c θ'=>XE X σ B H c θ'
 | .bad=>False
def tMS (X:Cx) (f:SM):TS:=fun Dn σ H=>∃B θ ρ,Frm X.cl B θ ρ σ H/\wpS X σ B H (f ρ θ) Dn
def MS (X:Cx) (st:Stmt) (f:SM):Prop:=PS X st (tMS X f)
def MSs (X:Cx) (sts:List Stmt) (f:SM):Prop:=PSs X sts (tMS X f)
theorem PS.imp {st:Stmt} {t t':TS} (h:PS X st t) (hi:∀D σ H,t' D σ H->t D σ H):PS X st t':=fun pins s σ H D I q=>h pins s σ H D I (hi D σ H q)
theorem PSs.imp {st:List Stmt} {t t':TS} (h:PSs X st t) (hi:∀D σ H,t' D σ H->t D σ H):PSs X st t':=fun pins s σ H D I q=>h pins s σ H D I (hi D σ H q)
theorem wpS.trans {σ σ':St} {B B':Bx} {H H':Hp} {r:R (Fl×List Sl)} {Dn:Zfz} (h:wpS X σ B H r Dn) (E:ExtS B B' H H'):wpS X σ' B' H' r Dn:=by
 cases r with
 | ok a θ'=>exact fun B2 H2 σ2 e g=>h B2 H2 σ2 (E.trans e) g
 | ex c θ'=>exact h
 | bad=>exact h
theorem wpS.bind {α β:Type} {Rel:Bx->Hp->α->β->Prop} {σ:St} {B:Bx} {H:Hp} {r:R α} {k:α->Sto->R (Fl×List Sl)} {Dn:Zfz} (h:wpS X σ B H (r.bind k) Dn) :
  wpR X σ Rel B H r (fun b H1=>∃B1 θ1 a,ExtE B B1 H H1/\Good X.cl B1 θ1 H1/\Rel B1 H1 a b/\wpS X σ B1 H1 (k a θ1) Dn):=by
 cases r with
 | ok a θ'=>exact fun B1 H1 b E g q=>⟨B1,θ',a,E,g,q,wpS.trans h E.toExtS⟩
 | ex c θ'=>exact h
 | bad=>exact h
theorem ZdS {σ:St} {H:Hp} {B:Bx} {θ:Sto} {ρ:List Sl} {f:EM} {k:D->Sto->R (Fl×List Sl)} {Dn:Zfz} (F:Frm X.cl B θ ρ σ H) (h:wpS X σ B H ((f ρ θ).bind k) Dn) :
  tM X f σ H (fun v H1=>∃B1 θ1 d,ExtE B B1 H H1/\Frm X.cl B1 θ1 ρ σ H1/\RepV B1 H1 d v/\wpS X σ B1 H1 (k d θ1) Dn):=
 ⟨B,θ,ρ,F,(wpS.bind (Rel:=RepV) h).mono fun v H1 ⟨B1,θ1,d,E,G,r,w⟩=>⟨B1,θ1,d,E,F.ext E G,r,w⟩⟩
theorem Znl {σ:St} {H:Hp} {B:Bx} {θ:Sto} {ρ:List Sl} {f:TMr} {k:Bool->Sto->R (Fl×List Sl)} {Dn:Zfz} (F:Frm X.cl B θ ρ σ H) (h:wpS X σ B H ((f ρ θ).bind k) Dn) :
  tMT X f σ H (fun c H1=>∃B1 θ1,ExtE B B1 H H1/\Frm X.cl B1 θ1 ρ σ H1/\wpS X σ B1 H1 (k c θ1) Dn):=
 ⟨B,θ,ρ,F,(wpS.bind (Rel:=EqB) h).mono fun v H1 ⟨B1,θ1,d,E,G,r,w⟩=>by cases (show d=v from r); exact ⟨B1,θ1,E,F.ext E G,w⟩⟩
theorem Zd6 {σ:St} {B:Bx} {H:Hp} {θ:Sto} {ρ:List Sl} {fl:Fl} {Dn:Zfz} (F:Frm X.cl B θ ρ σ H) (h:wpS X σ B H (.ok (fl,ρ) θ) Dn):Zsb Dn B σ H fl:=h B H σ (ExtS.refl B H) F
noncomputable def ZN:SM:=fun ρ θ=>.ok (.nx,ρ) θ
noncomputable def ZhE (r:R (Fl×List Sl)) (k:SM):R (Fl×List Sl):=r.bind fun p θ=>match p with
 | (.nx,ρ)=>k ρ θ
 | p=>.ok p θ
noncomputable def Zr (f g:SM):SM:=fun ρ θ=>ZhE (f ρ θ) g
theorem Zx:MSs X [] ZN:=PSs.imp ZqK fun D σ H h=>by
 obtain ⟨B,θ,ρ,F,w⟩:=h
 exact Zd6 F w
theorem wpS.seq {σ:St} {B:Bx} {H:Hp} {r:R (Fl×List Sl)} {g:SM} {Dn:Zfz} (w:wpS X σ B H (ZhE r g) Dn):wpS X σ B H r { Dn with nx:=tMS X g Dn }:=by
 cases r with
 | ex c θ'=>exact w
 | bad=>exact w
 | ok p θ'=>
  obtain ⟨fl,ρ'⟩:=p
  intro B' H' σ' E F
  cases fl with
  | nx=>exact ⟨B',θ',ρ',F,wpS.trans w E⟩
  | bk=>exact w B' H' σ' E F
  | ct=>exact w B' H' σ' E F
  | rt d=>exact w B' H' σ' E F
theorem Zf {st:Stmt} {rest:List Stmt} {f g:SM} (h1:MS X st f) (h2:MSs X rest g):MSs X (st::rest) (Zr f g):=PSs.imp (Zny h1 h2) fun D σ H h=>by
 obtain ⟨B,θ,ρ,F,w⟩:=h
 exact ⟨B,θ,ρ,F,wpS.seq w⟩
theorem Zg {st:Stmt} {f:SM} (h1:MS X st f):MSs X [st] f:=ZqJ h1
noncomputable def Zrd:SM:=fun _ _=>.bad
theorem Zn3 {st:Stmt}:MS X st Zrd:=fun _ _ _ _ _ _ h=>by obtain ⟨_,_,_,_,w⟩:=h; exact w.elim
noncomputable def zj (f:EM):SM:=fun ρ θ=>(f ρ θ).bind fun _ θ=>.ok (.nx,ρ) θ
theorem ZO {e:Expr} {f:EM} {pos:Pos} (he:ME X e f) (hs:swapsWith e none pos.line X.env=pure false:=by rfl):MS X (.Expr e pos) (zj f):=PS.imp (ZlB he hs) fun D σ H h=>by
 obtain ⟨B,θ,ρ,F,w⟩:=h
 refine ZK (ZdS F w) ?_
 rintro v H1 ⟨B1,θ1,d,E1,F1,rd,w1⟩
 exact Zd6 F1 w1
noncomputable def ZP (f:EM):SM:=fun ρ θ=>(f ρ θ).bind fun d θ=>.ok (.rt d,ρ) θ
theorem Zt {e:Expr} {f:EM} {pos:Pos} (he:ME X e f):MS X (.Return (some e) pos) (ZP f):=PS.imp (Zua he) fun D σ H h=>by
 obtain ⟨B,θ,ρ,F,w⟩:=h
 refine ZK (ZdS F w) ?_
 rintro v H1 ⟨B1,θ1,d,E1,F1,rd,w1⟩
 exact Zd6 F1 w1 v rd
noncomputable def Zf8:SM:=fun ρ θ=>.ok (.rt .non,ρ) θ
theorem Zeh {pos:Pos}:MS X (.Return none pos) Zf8:=PS.imp ZqL fun D σ H h=>by
 obtain ⟨B,θ,ρ,F,w⟩:=h
 exact Zd6 F w .non rfl
noncomputable def mIf (t:TMr) (f g:SM):SM:=fun ρ θ=>(t ρ θ).bind fun k θ=>if k=true then f ρ θ else g ρ θ
theorem ZE {c:Expr} {a b:List Stmt} {t:TMr} {f g:SM} {pos:Pos} (hc:MT X c t) (ha:MSs X a f) (hb:MSs X b g):MS X (.If c a b pos) (mIf t f g):=PS.imp (Zv2 hc ha hb) fun D σ H h=>by
 obtain ⟨B,θ,ρ,F,w⟩:=h
 refine ZdR (Znl F w) ?_
 rintro k H1 ⟨B1,θ1,E1,F1,w1⟩
 cases k with
 | true=>rw [if_pos rfl] at w1 ⊢; exact ⟨B1,θ1,ρ,F1,w1⟩
 | false=>rw [if_neg Yi] at w1 ⊢; exact ⟨B1,θ1,ρ,F1,w1⟩
theorem Frm.set {B:Bx} {θ:Sto} {ρ:List Sl} {σ:St} {H:Hp} (F:Frm X.cl B θ ρ σ H) (i:Nat) {d:D} {v:V} (r:RepV B H d v):Frm X.cl B θ (ρ.set i (.val d)) (σ.set i (some v)) H:=by
 have oth:∀(j:Nat) (s:Sl),(ρ.set i (Sl.val d))[j]?=some s->(j=i/\s=.val d/\j < σ.length)\/(j≠i/\ρ[j]?=some s):=fun j s e=>by
  by_cases q:j=i
  ·subst q
   have hl:j < ρ.length:=by
    have:=(Ye.mp e).1
    simpa using this
   rw [Yg hl] at e
   cases e
   exact .inl ⟨rfl,rfl,by rw [<-F.len]; exact hl⟩
  ·rw [Ya (Ne.symm q)] at e
   exact .inr ⟨q,e⟩
 refine ⟨F.good,by simp [F.len],fun j e h=>?_,fun j xs h=>?_,fun j k xs ys a hne h1 h2 h3=>?_⟩
 ·rcases oth j _ h with ⟨rfl,z,hl⟩ | ⟨q,z⟩
  ·cases z; exact ⟨v,by rw [Yg hl],r⟩
  ·rw [Ya (Ne.symm q)]; exact F.val j e z
 ·rcases oth j _ h with ⟨rfl,z,hl⟩ | ⟨q,z⟩
  ·cases z
  ·rw [Ya (Ne.symm q)]; exact F.own j xs z
 ·rcases oth j _ h1 with ⟨_,z,_⟩ | ⟨q1,z1⟩
  ·cases z
  ·rcases oth k _ h2 with ⟨_,z,_⟩ | ⟨q2,z2⟩
   ·cases z
   ·rw [Ya (Ne.symm q1)] at h3
    rw [Ya (Ne.symm q2)]
    exact F.ne j k xs ys a hne z1 z2 h3
noncomputable def Z5 (i:Nat) (f:EM):SM:=fun ρ θ=>(f ρ θ).bind fun d θ=>.ok (.nx,ρ.set i (.val d)) θ
theorem ZJ (i:Nat) {x:Str} {e:Expr} {f:EM} {pos pos':Pos} (hN:X.N.Nodup) (he:ME X e f) (hi:X.N[i]?=some x:=by rfl) (hx:Loc X.env.scope x:=by first | exact Or.inl rfl | exact Or.inr rfl)
  (hs:swapsWith e (some (.Name x pos')) pos.line X.env=pure false:=by rfl) (hf:X.fn x=true\/X.env.scope.names.lookup x=some .local:=by first | exact .inl rfl | exact .inr rfl):MS X (.Assign [.Name x pos'] e pos) (Z5 i f):=
 PS.imp (ZnA hN hi hx he hs hf) fun D σ H h=>by
 obtain ⟨B,θ,ρ,F,w⟩:=h
 refine ZK (ZdS F w) ?_
 rintro v H1 ⟨B1,θ1,d,E1,F1,rd,w1⟩
 exact w1 B1 H1 _ (ExtS.refl _ _) (F1.set i rd)
theorem Zkf (i:Nat) {x y:Str} {px py pos spos:Pos} {iter elt:Expr} {scope:Scope} {N':List Str} {src:List Nat} {sc:Scope} {N:List Str} {fi:IM} {fe:EM} (hnd:X.N.Nodup) (S:Zam scope sc x N N' src) (hsc:X.env.scope=sc) (hN:X.N=N) (hi:MI X (.Name x px) iter fi)
  (helt:∀(cl:List (Str×Addr)) (C:Addr) (s₀:Shared) (H₀:Hp) (fp:List Addr),ME (X.comp scope N' cl C s₀ H₀ fp) elt fe) (hi':X.N[i]?=some y:=by rfl)
  (hsw:swapsWith (.ListComp elt [⟨.Name x px,iter,[],0⟩] scope pos) (some (.Name y py)) spos.line X.env=pure true:=by rfl)
  (hy:X.env.scope.names.lookup y=some .local:=by rfl) (hcm:X.calm=true:=by rfl) (hs:∀v,foldedSetIterable iter X.env v=pure v:=by intro _; rfl) :
  MS X (.Assign [.Name y py] (.ListComp elt [⟨.Name x px,iter,[],0⟩] scope pos) spos) (Z5 i (ZcI fi src fe)):=
 PS.imp (Zv1 (te:=tM X fe) hnd hi' S hsc hN hi (fun cl C s₀ H₀ fp=>helt cl C s₀ H₀ fp) hsw hy hcm hs) fun D σ H h=>by
 obtain ⟨B,θ,ρ,F,w⟩:=h
 refine Zlu σ H _ (ZK (ZdS F w) ?_)
 rintro v H1 ⟨B1,θ1,d,E1,F1,rd,w1⟩
 exact w1 B1 H1 _ (ExtS.refl _ _) (F1.set i rd)
end
end
end L2.MM
namespace L2.MM
open PySem PySem.Spec PyProof.Rows PySem.SeqAt
noncomputable section
variable {X:Cx}
noncomputable def Zg1 (k:SM):Fl×List Sl->Sto->R (Fl×List Sl)
 | (.nx,ρ),θ=>k ρ θ
 | (.ct,ρ),θ=>k ρ θ
 | (.bk,ρ),θ=>.ok (.nx,ρ) θ
 | (.rt d,ρ),θ=>.ok (.rt d,ρ) θ
theorem wpS.loop {σ:St} {B:Bx} {H:Hp} {r:R (Fl×List Sl)} {k:SM} {Dn:Zfz} (w:wpS X σ B H (r.bind (Zg1 k)) Dn) :
  wpS X σ B H r { Dn with nx:=fun σ' H'=>∃B' θ' ρ',ExtS B B' H H'/\Frm X.cl B' θ' ρ' σ' H'/\wpS X σ' B' H' (k ρ' θ') Dn,ct:=fun σ' H'=>∃B' θ' ρ',ExtS B B' H H'/\Frm X.cl B' θ' ρ' σ' H'/\wpS X σ' B' H' (k ρ' θ') Dn,bk:=Dn.nx }:=by
 cases r with
 | ex c θ'=>exact w
 | bad=>exact w
 | ok p θ'=>
  obtain ⟨fl,ρ'⟩:=p
  intro B' H' σ' E F
  cases fl with
  | nx=>exact ⟨B',θ',ρ',E,F,wpS.trans w E⟩
  | ct=>exact ⟨B',θ',ρ',E,F,wpS.trans w E⟩
  | bk=>exact w B' H' σ' E F
  | rt d=>exact w B' H' σ' E F
abbrev TgM:=D->List Sl->Option (List Sl)
def tMG (X:Cx) (g:TgM):TG:=fun v σ H Q=>∃B θ ρ d ρ',Frm X.cl B θ ρ σ H/\RepV B H d v/\g d ρ=some ρ'/\∀σ',Frm X.cl B θ ρ' σ' H->Q σ' H
def MG (X:Cx) (tg:Expr) (g:TgM):Prop:=PG X tg (tMG X g)
theorem PG.imp {tg:Expr} {t t':TG} (h:PG X tg t) (hi:∀v σ H Q,t' v σ H Q->t v σ H Q):PG X tg t':=fun pins s σ H v u Q I r q=>h pins s σ H v u Q I r (hi v σ H Q q)
noncomputable def gNm (i:Nat):TgM:=fun d ρ=>some (ρ.set i (.val d))
theorem Zei (i:Nat) {x:Str} {pos:Pos} (hN:X.N.Nodup) (hi:X.N[i]?=some x:=by rfl) (hx:Loc X.env.scope x:=by first | exact Or.inl rfl | exact Or.inr rfl) (hf:X.fn x=true\/X.env.scope.names.lookup x=some .local:=by first | exact .inl rfl | exact .inr rfl):MG X (.Name x pos) (gNm i):=
 PG.imp (Zfn hN hi hx hf) fun v σ H Q h=>by
 obtain ⟨B,θ,ρ,d,ρ',F,r,e,q⟩:=h
 cases e
 exact q _ (F.set i r)
open Classical in
def Zel (S:Src) (all:List D) (tg:TgM) (body:SM):List D->SM
 | []=>fun ρ θ=>if S.items θ=some all then .ok (.nx,ρ) θ else .bad
 | x::r=>fun ρ θ=>if S.items θ=some all then (match tg x ρ with
  | none=>.bad
  | some ρ1=>(body ρ1 θ).bind (Zg1 (Zel S all tg body r))) else .bad
def Zfy (fi:IM) (tg:TgM) (body:SM):SM:=fun ρ θ=>(fi ρ θ).bind fun S θ=>match S.items θ with
 | some xs=>Zel S xs tg body xs ρ θ
 | none=>.bad
open Classical in
theorem ZfI {tg iter:Expr} {body:List Stmt} {fi:IM} {g:TgM} {fb:SM} {pos:Pos} (hp:PassesOwn (model X.prog X.w) X.A X.env X.xe) (hi:MI X tg iter fi) (hg:MG X tg g) (hb:MSs X body fb) (hc:X.calm=true:=by rfl)
  (hs:∀x,foldedSetIterable iter X.env x=pure x:=by intro _; rfl):MS X (.For tg iter body [] pos) (Zfy fi g fb):=
 PS.imp (ZnB hp hc hi hg hb hs) fun Dn σ H h=>by
 obtain ⟨B,θ,ρ,F,w⟩:=h
 refine ⟨B,θ,ρ,F,(wpS.bind (Rel:=SrcRep X.K) w).mono ?_⟩
 rintro J H1 ⟨B1,θ1,S,E1,G1,rJ,w1⟩
 split at w1
 ·rename_i xs e1
  refine ⟨fun i m σ H=>∃B θ ρ,Frm X.cl B θ ρ σ H/\SrcRep X.K B H S J/\m=xs.length-i/\i<=xs.length/\wpS X σ B H (Zel S xs g fb (xs.drop i) ρ θ) Dn,⟨xs.length,B1,θ1,ρ,F.ext E1 G1,rJ,rfl,YG _,w1⟩,?_⟩
  rintro i m σ2 H2 ⟨B2,θ2,ρ2,F2,rJ2,rfl,hi2,w2⟩
  by_cases hlt:i<xs.length
  ·rw [Yz hlt] at w2
   unfold Zel at w2
   split at w2
   ·rename_i e2
    obtain ⟨g1,g2⟩:=(Zgw F2.good rJ2 e2).1 i xs[i] (List.getElem?_eq_getElem hlt)
    split at w2
    ·exact w2.elim
    ·rename_i ρ3 e3
     refine .inr ⟨g1,fun σ' H'=>∃B' θ' ρ',ExtS B2 B' H2 H'/\Frm X.cl B' θ' ρ' σ' H'/\wpS X σ' B' H' (Zel S xs g fb (xs.drop (i+1)) ρ' θ') Dn,?_,fun x H' hy=>?_⟩
     ·rintro σ' H' ⟨B',θ',ρ',E',F',w'⟩
      exact ⟨xs.length-(i+1),by omega,B',θ',ρ',F',rJ2.ext E',rfl,hlt,w'⟩
     ·obtain ⟨rfl,rx⟩:=g2 x H' hy
      refine ⟨B2,θ2,ρ2,xs[i],ρ3,F2,rx,e3,fun σ' F'=>⟨B2,θ2,ρ3,F',?_⟩⟩
      have w3:=wpS.loop w2
      exact wpS.trans w3 (ExtS.refl _ _)
   ·exact w2.elim
  ·have e:i=xs.length:=by omega
   subst e
   rw [YT] at w2
   unfold Zel at w2
   split at w2
   ·rename_i e2
    exact .inl ⟨(Zgw F2.good rJ2 e2).2,Zd6 F2 w2⟩
   ·exact w2.elim
 ·exact w1.elim
noncomputable def ZbQ (t:TMr) (body:SM):Nat->SM
 | 0=>Zrd
 | n+1=>fun ρ θ=>(t ρ θ).bind fun k θ=>if k=true then (body ρ θ).bind (Zg1 (ZbQ t body n)) else .ok (.nx,ρ) θ
theorem ZhM (n:Nat) {c:Expr} {body:List Stmt} {t:TMr} {fb:SM} {pos:Pos} (hp:PassesOwn (model X.prog X.w) X.A X.env X.xe) (hc:MT X c t) (hb:MSs X body fb):MS X (.While c body [] pos) (ZbQ t fb n):=
 PS.imp (Znz hp hc hb) fun Dn σ H h=>by
 obtain ⟨B,θ,ρ,F,w⟩:=h
 refine ⟨fun m σ H=>∃B θ ρ,Frm X.cl B θ ρ σ H/\wpS X σ B H (ZbQ t fb m ρ θ) Dn,⟨n,B,θ,ρ,F,w⟩,?_⟩
 rintro m σ2 H2 ⟨B2,θ2,ρ2,F2,w2⟩
 cases m with
 | zero=>exact w2.elim
 | succ m=>
  refine ZdR (Znl F2 w2) ?_
  rintro k H3 ⟨B3,θ3,E3,F3,w3⟩
  cases k with
  | true=>
   rw [if_pos rfl] at w3 ⊢
   refine ⟨_,?_,⟨B3,θ3,ρ2,F3,wpS.loop w3⟩⟩
   rintro σ' H' ⟨B',θ',ρ',E',F',w'⟩
   exact ⟨m,YC _,B',θ',ρ',F',w'⟩
  | false=>
   rw [if_neg Yi] at w3 ⊢
   exact Zd6 F3 w3
theorem Frm.setOwn {cl:Mo} {B:Bx} {θ:Sto} {ρ:List Sl} {σ:St} {H:Hp} (F:Frm cl B θ ρ σ H) (i:Nat) {p:Addr} (hp:H p=none) {xs:List D} {vs:List V} (r:RepL B H xs vs) :
  ExtS B { B with os:=p::B.os } H (upd H p (.lst vs))/\Frm cl { B with os:=p::B.os } θ (ρ.set i (.own xs)) (σ.set i (some (.ref p))) (upd H p (.lst vs)):=by
 have E0:=ZcZ F.good hp (.lst vs)
 have G0:=ZeY F.good hp (.lst vs)
 have ok:=F.good.okNone hp
 have E:ExtS B { B with os:=p::B.os } H (upd H p (.lst vs)):=⟨E0.n,E0.m,E0.fr,E0.keep,E0.sm,fun a h=>by
  rcases Yq.mp h with rfl | h
  ·exact .inr hp
  ·exact .inl h,rfl,rfl⟩
 refine ⟨E,?_⟩
 have E1:ExtS B { B with os:=p::B.os } H (upd H p (.lst vs)):=E
 have G:Good cl { B with os:=p::B.os } θ (upd H p (.lst vs)):=⟨G0.len,G0.inj,fun j c e=>(F.good.cel j c e).ext E fun u q=>by rw [ZM (zq q hp)]; exact q,fun j hj=>⟨(G0.cF j hj).1,fun z=>by
   rcases Yq.mp z with z | z
   ·exact ok.1 j hj z
   ·exact (G0.cF j hj).2 z⟩,G0.Fs,fun a z=>by
   rcases Yq.mp z with rfl | z
   ·rw [Z9]; simp
   ·exact G0.oS a z,fun a z=>by
   rcases Yq.mp z with rfl | z
   ·exact ok.2.1
   ·exact G0.oF a z,G0.kc⟩
 have oth:∀(j:Nat) (s:Sl),(ρ.set i (Sl.own xs))[j]?=some s->(j=i/\s=.own xs/\j < σ.length)\/(j≠i/\ρ[j]?=some s):=fun j s e=>by
  by_cases q:j=i
  ·subst q
   have hl:j < ρ.length:=by
    have:=(Ye.mp e).1
    simpa using this
   rw [Yg hl] at e
   cases e
   exact .inl ⟨rfl,rfl,by rw [<-F.len]; exact hl⟩
  ·rw [Ya (Ne.symm q)] at e
   exact .inr ⟨q,e⟩
 have old:∀j ys,ρ[j]?=some (Sl.own ys)->∀a,σ[j]?=some (some (V.ref a))->a≠p:=fun j ys h a e z=>by
  obtain ⟨a',us,q1,q2,q3,q4⟩:=F.own j ys h
  rw [e] at q1
  cases q1
  rw [z,hp] at q3
  cases q3
 refine ⟨G,by simp [F.len],fun j d h=>?_,fun j ys h=>?_,fun j k ys zs a hne h1 h2 h3=>?_⟩
 ·rcases oth j _ h with ⟨_,z,_⟩ | ⟨q,z⟩
  ·cases z
  ·rw [Ya (Ne.symm q)]
   obtain ⟨v,q1,q2⟩:=F.val j d z
   exact ⟨v,q1,q2.ext E⟩
 ·rcases oth j _ h with ⟨rfl,z,hl⟩ | ⟨q,z⟩
  ·cases z
   exact ⟨p,vs,by rw [Yg hl],Ys,Z9,r.ext E⟩
  ·rw [Ya (Ne.symm q)]
   obtain ⟨a,us,q1,q2,q3,q4⟩:=F.own j ys z
   exact ⟨a,us,q1,Yo _ q2,by rw [ZM (zq q3 hp)]; exact q3,q4.ext E⟩
 ·rcases oth j _ h1 with ⟨rfl,z1,hl⟩ | ⟨q1,z1⟩
  ·rcases oth k _ h2 with ⟨rfl,z2,_⟩ | ⟨q2,z2⟩
   ·exact absurd rfl hne
   ·rw [Yg hl] at h3
    cases h3
    rw [Ya (Ne.symm q2)]
    exact fun z=>old k zs z2 _ z rfl
  ·rw [Ya (Ne.symm q1)] at h3
   rcases oth k _ h2 with ⟨rfl,z2,hl⟩ | ⟨q2,z2⟩
   ·rw [Yg hl]
    intro z
    cases z
    exact old j ys z1 _ h3 rfl
   ·rw [Ya (Ne.symm q2)]
    exact F.ne j k ys zs a hne z1 z2 h3
noncomputable def Zjn (i:Nat) (f:AM):SM:=fun ρ θ=>(f ρ θ).bind fun xs θ=>if xs.length<=BIG then .ok (.nx,ρ.set i (.own xs)) θ else .bad
theorem Znm {σ:St} {H:Hp} {B:Bx} {θ:Sto} {ρ:List Sl} {f:AM} {k:List D->Sto->R (Fl×List Sl)} {Dn:Zfz} (F:Frm X.cl B θ ρ σ H) (h:wpS X σ B H ((f ρ θ).bind k) Dn) :
  tMA X f σ H (fun v H1=>∃B1 θ1 d,ExtE B B1 H H1/\Frm X.cl B1 θ1 ρ σ H1/\RepL B1 H1 d v/\wpS X σ B1 H1 (k d θ1) Dn):=
 ⟨B,θ,ρ,F,(wpS.bind (Rel:=RepL) h).mono fun v H1 ⟨B1,θ1,d,E,G,r,w⟩=>⟨B1,θ1,d,E,F.ext E G,r,w⟩⟩
theorem ZmB (i:Nat) {x:Str} {es:List Expr} {f:AM} {pos pos' lpos:Pos} (hN:X.N.Nodup) (he:MA X es f) (hi:X.N[i]?=some x:=by rfl) (hx:Loc X.env.scope x:=by first | exact Or.inl rfl | exact Or.inr rfl)
  (hs:swapsWith (.List es lpos) (some (.Name x pos')) pos.line X.env=pure false:=by rfl) (hf:X.fn x=true\/X.env.scope.names.lookup x=some .local:=by first | exact .inl rfl | exact .inr rfl):MS X (.Assign [.Name x pos'] (.List es lpos) pos) (Zjn i f):=
 PS.imp (ZnA hN hi hx (Zk1 he) hs hf) fun D σ H h=>by
 obtain ⟨B,θ,ρ,F,w⟩:=h
 refine ZbG (Znm F w) ?_
 rintro vs H1 ⟨B1,θ1,xs,E1,F1,rd,w1⟩
 split at w1
 ·rename_i hz
  refine ⟨by rw [rd.len]; exact zR hz,fun p hp=>?_⟩
  obtain ⟨E2,F2⟩:=F1.setOwn i hp rd
  exact w1 _ _ _ E2 F2
 ·exact w1.elim
theorem Frm.updOwn {cl:Mo} {B:Bx} {θ:Sto} {ρ:List Sl} {σ:St} {H:Hp} (F:Frm cl B θ ρ σ H) {i:Nat} {xs ys:List D} {us:List V} {a:Addr} (h:ρ[i]?=some (Sl.own xs)) (ha:σ[i]?=some (some (.ref a))) (r:RepL B H ys us) :
  ExtS B B H (upd H a (.lst us))/\Frm cl B θ (ρ.set i (.own ys)) σ (upd H a (.lst us)):=by
 obtain ⟨a',vs,q1,q2,q3,q4⟩:=F.own i xs h
 rw [ha] at q1
 cases q1
 have hc:∀j,j<B.n->B.m j≠a:=fun j hj z=>(F.good.cF j hj).2 (by rw [z]; exact q2)
 have E:ExtS B B H (upd H a (.lst us)):=⟨Yb _,fun _ _=>rfl,fun i h h'=>absurd h' (YI.mpr h),fun b o e _ hb=>by rw [ZM (fun z=>hb (by rw [z]; exact q2))]; exact e,fun b e=>by
  by_cases q:b=a
  ·rw [q,Z9]; simp
  ·rw [ZM q]; exact e,fun _ h=>.inl h,rfl,rfl⟩
 have hl:i < ρ.length:=(Ye.mp h).1
 have oth:∀(j:Nat) (s:Sl),(ρ.set i (Sl.own ys))[j]?=some s->(j=i/\s=.own ys)\/(j≠i/\ρ[j]?=some s):=fun j s e=>by
  by_cases q:j=i
  ·subst q
   rw [Yg hl] at e
   cases e
   exact .inl ⟨rfl,rfl⟩
  ·rw [Ya (Ne.symm q)] at e
   exact .inr ⟨q,e⟩
 refine ⟨E,⟨⟨F.good.len,F.good.inj,fun j c e=>(F.good.cel j c e).ext E fun u q=>by
   have hj:j<B.n:=by rw [<-F.good.len]; exact (Ye.mp e).1
   rw [ZM (hc j hj)]; exact q,F.good.cF,fun b z=>E.sm b (F.good.Fs b z),fun b z=>E.sm b (F.good.oS b z),F.good.oF,F.good.kc⟩,by simp [F.len],fun j d e=>?_,fun j zs e=>?_,fun j k zs ws b hne h1 h2 h3=>?_⟩⟩
 ·rcases oth j _ e with ⟨_,z⟩ | ⟨_,z⟩
  ·cases z
  ·obtain ⟨v,p1,p2⟩:=F.val j d z
   exact ⟨v,p1,p2.ext E⟩
 ·rcases oth j _ e with ⟨rfl,z⟩ | ⟨q,z⟩
  ·cases z
   exact ⟨a,us,ha,q2,Z9,r.ext E⟩
  ·obtain ⟨b,ws,p1,p2,p3,p4⟩:=F.own j zs z
   refine ⟨b,ws,p1,p2,?_,p4.ext E⟩
   rw [ZM (fun z'=>F.ne i j xs zs a (Ne.symm q) h z ha (by rw [<-z']; exact p1))]
   exact p3
 ·have o1:∃zs',ρ[j]?=some (Sl.own zs'):=by
   rcases oth j _ h1 with ⟨rfl,_⟩ | ⟨_,z⟩
   ·exact ⟨xs,h⟩
   ·exact ⟨_,z⟩
  have o2:∃ws',ρ[k]?=some (Sl.own ws'):=by
   rcases oth k _ h2 with ⟨rfl,_⟩ | ⟨_,z⟩
   ·exact ⟨xs,h⟩
   ·exact ⟨_,z⟩
  obtain ⟨zs',o1⟩:=o1
  obtain ⟨ws',o2⟩:=o2
  exact F.ne j k zs' ws' b hne o1 o2 h3
noncomputable def Zgc (i:Nat) (f:EM):SM:=fun ρ θ=>(f ρ θ).bind fun d θ=>match ρ[i]? with
 | some (Sl.own xs)=>if xs.length<BIG then .ok (.nx,ρ.set i (.own (xs++[d]))) θ else .bad
 | _=>.bad
theorem ZmD (i:Nat) {x:Str} {e:Expr} {f:EM} {p apos pos pos':Pos} (he:ME X e f) (hN:X.N[i]?=some x:=by rfl) (hv:Vis X.env.scope x:=by first | exact Or.inl rfl | exact Or.inr (Or.inl rfl) | exact Or.inr (Or.inr rfl))
  (hd:(x == ("__debug__":Str))=false:=by decide) (hcd:(x == ("__classdict__":Str))=false:=by decide)
  (hpe:∀{to:TE},PE X (.Name x p) to->PE X (.Call (.Attribute (.Name x p) "append" apos) [e] [] pos) (tBM X.K "list" Zjf to (Zlv (tM X f) Zni)))
  (hs:swapsWith (.Call (.Attribute (.Name x p) "append" apos) [e] [] pos) none pos'.line X.env=pure false:=by rfl):MS X (.Expr (.Call (.Attribute (.Name x p) "append" apos) [e] [] pos) pos') (Zgc i f):=
 PS.imp (ZlB (hpe (ZnF hN hv hd hcd)) hs) fun D σ H h=>by
 obtain ⟨B,θ,ρ,F,w⟩:=h
 have own:∃xs,ρ[i]?=some (Sl.own xs):=by
  unfold Zgc at w
  cases q:f ρ θ with
  | bad=>rw [q] at w; exact w.elim
  | ex c θ'=>rw [q] at w; exact False.elim w
  | ok d θ'=>
   rw [q] at w
   simp only [R.bind_ok] at w
   split at w
   ·rename_i xs e; exact ⟨xs,e⟩
   ·exact w.elim
 obtain ⟨xs,hx⟩:=own
 obtain ⟨a,vs,q1,q2,q3,q4⟩:=F.own i xs hx
 refine ⟨.ref a,q1,.inl ⟨rfl,vs,SqL.of q3⟩,?_⟩
 refine ZK (ZdS F w) ?_
 rintro y H1 ⟨B1,θ1,d,E1,F1,rd,w1⟩
 rw [hx] at w1
 simp only at w1
 split at w1
 ·rename_i hz
  obtain ⟨a',us,p1,p2,p3,p4⟩:=F1.own i xs hx
  rw [q1] at p1
  cases p1
  refine ⟨a,us,y,rfl,rfl,p3,by rw [p4.len]; exact Yl hz (zR (Yb _)),?_⟩
  obtain ⟨E2,F2⟩:=F1.updOwn hx q1 (p4.app (show RepL B1 H1 [d] [y] from ⟨y,[],rfl,rd,rfl⟩))
  exact w1 _ _ _ E2 F2
 ·exact w1.elim
noncomputable def Zga (i:Nat) (f:SM):SM:=fun ρ θ=>match ρ[i]? with
 | some (Sl.own xs)=>f (ρ.set i (.val (.lst xs))) θ
 | _=>f ρ θ
theorem ZkT {i:Nat} {f:SM} {D:Zfz} {σ:St} {H:Hp} (h:tMS X (Zga i f) D σ H):tMS X f D σ H:=by
 obtain ⟨B,θ,ρ,F,w⟩:=h
 unfold Zga at w
 split at w
 ·rename_i xs hx
  obtain ⟨a,vs,q1,q2,q3,q4⟩:=F.own i xs hx
  let B':Bx:={ B with os:=B.os.filter fun b=>decide (b≠a) }
  have sub:∀b,b∈B'.os->b∈B.os/\b≠a:=fun b hb=>by
   have:=YN.mp hb
   exact ⟨this.1,of_decide_eq_true this.2⟩
  have E:ExtS B B' H H:=⟨Yb _,fun _ _=>rfl,fun i h h'=>absurd h' (YI.mpr h),fun _ _ e _ _=>e,fun _ e=>e,fun b hb=>.inl (sub b hb).1,rfl,rfl⟩
  have hc:∀j,j<B.n->B.m j≠a:=fun j hj z=>(F.good.cF j hj).2 (by rw [z]; exact q2)
  have G:Good X.cl B' θ H:=⟨F.good.len,F.good.inj,fun j c e=>(F.good.cel j c e).ext E fun _ q=>q,fun j hj=>⟨(F.good.cF j hj).1,fun z=>(F.good.cF j hj).2 (sub _ z).1⟩,F.good.Fs,fun b z=>F.good.oS b (sub b z).1,fun b z=>F.good.oF b (sub b z).1,F.good.kc⟩
  have rv:RepV B' H (.lst xs) (.ref a):=⟨a,vs,rfl,q3,⟨hc,F.good.oF a q2,fun z=>(sub a z).2 rfl⟩,q4.ext E⟩
  have hl:i < ρ.length:=(Ye.mp hx).1
  have oth:∀(j:Nat) (s:Sl),(ρ.set i (Sl.val (.lst xs)))[j]?=some s->(j=i/\s=.val (.lst xs))\/(j≠i/\ρ[j]?=some s):=fun j s e=>by
   by_cases q:j=i
   ·subst q
    rw [Yg hl] at e
    cases e
    exact .inl ⟨rfl,rfl⟩
   ·rw [Ya (Ne.symm q)] at e
    exact .inr ⟨q,e⟩
  refine ⟨B',θ,_,⟨G,by simp [F.len],fun j d e=>?_,fun j ys e=>?_,fun j k ys zs b hne h1 h2 h3=>?_⟩,wpS.trans w E⟩
  ·rcases oth j _ e with ⟨rfl,z⟩ | ⟨_,z⟩
   ·cases z; exact ⟨_,q1,rv⟩
   ·obtain ⟨v,p1,p2⟩:=F.val j d z
    exact ⟨v,p1,p2.ext E⟩
  ·rcases oth j _ e with ⟨_,z⟩ | ⟨q,z⟩
   ·cases z
   ·obtain ⟨b,ws,p1,p2,p3,p4⟩:=F.own j ys z
    refine ⟨b,ws,p1,YN.mpr ⟨p2,decide_eq_true fun z'=>?_⟩,p3,p4.ext E⟩
    subst z'
    exact F.ne i j xs ys b (Ne.symm q) hx z q1 p1
  ·rcases oth j _ h1 with ⟨_,z⟩ | ⟨_,z1⟩
   ·cases z
   ·rcases oth k _ h2 with ⟨_,z⟩ | ⟨_,z2⟩
    ·cases z
    ·exact F.ne j k ys zs b hne z1 z2 h3
 ·exact ⟨B,θ,ρ,F,w⟩
theorem ZmC (i:Nat) {st:Stmt} {f:SM} (h:MS X st f):MS X st (Zga i f):=PS.imp h fun _ _ _ q=>ZkT q
noncomputable def Zd7 (n:Nat) (ds:List D):List Sl:=ds.map Sl.val++List.replicate (n-ds.length) Sl.no
noncomputable def ZQ (np nn:Nat) (fb:SM):GM:=fun ds θ=>if ds.length=np then (fb (Zd7 nn ds) θ).bind fun p θ=>match p.1 with
 | .nx=>.ok .non θ
 | .rt d=>.ok d θ
 | _=>.bad
 else .bad
def spM (X:Mo) (f:GM):Sp:=fun vs H Q E=>∃B θ ds,B.os=[]/\Good X B θ H/\RepL B H ds vs/\(match f ds θ with
 | .ok d θ'=>∀B' H' v,ExtE B B' H H'->Good X B' θ' H'->RepV B' H' d v->Q v H'
 | .ex c θ'=>False
 | .bad=>False)
def Zo (P:Program) (w:World) (K:PySem.W.Frag) (mg:Str->Option Value) (base:Heap) (k:Nat) (x:Str) (f:GM):Prop:=∃ps,Def P w K mg base k x ps (spM ⟨Zai mg,K⟩ f)
theorem Zmm {cl:Mo} {B:Bx} {θ:Sto} {H:Hp} {ds:List D} {vs:List V} {N:List Str} {nn:Nat} (G:Good cl B θ H) (r:RepL B H ds vs) (hn:N.length=nn):Frm cl B θ (Zd7 nn ds) (Zez N vs) H:=by
 subst hn
 have hl:=r.len
 have key:∀(i:Nat) (s:Sl),(Zd7 N.length ds)[i]?=some s->s=.no\/∃d,s=.val d/\∃v,(Zez N vs)[i]?=some (some v)/\RepV B H d v:=fun i s e=>by
  unfold Zd7 at e
  by_cases q:i<ds.length
  ·rw [Yp (by simpa using q),Yr,List.getElem?_eq_getElem q] at e
   cases e
   obtain ⟨v,h1,h2⟩:=r.get (List.getElem?_eq_getElem q)
   refine .inr ⟨_,rfl,v,?_,h2⟩
   unfold Zez
   rw [Yp (by simpa [hl] using q),Yr,h1]
   rfl
  ·rw [YA (by simpa using q)] at e
   exact .inl (List.eq_of_mem_replicate (List.mem_of_getElem? e))
 refine ⟨G,by simp [Zd7,Zez,hl],fun i d e=>?_,fun i xs e=>?_,fun i j xs ys a _ e _=>?_⟩
 ·rcases key i _ e with z | ⟨d',z,v',h1,h2⟩
  ·cases z
  ·cases z; exact ⟨v',h1,h2⟩
 ·rcases key i _ e with z | ⟨d',z,_⟩<;>cases z
 ·rcases key i _ e with z | ⟨d',z,_⟩<;>cases z
theorem mfn {P:Program} {w:World} {K:PySem.W.Frag} {mg:Str->Option Value} {base:Heap} {x qual:Str} {st:Stmt} {N ps:List Str} {k:Nat} {fb:SM} {f:Addr} {fd:FuncData} (F:Fun K x qual st f fd) (S:Zp N ps (Zk st)) (np nn:Nat) (hp:ps.length=np) (hn:N.length=nn)
  (hbody:∀(cdv:Value) (A:Around) (outer:List Env) (s:Shared) (H:Hp) (E:XK),Room k (A.deeper (envOfC qual (Zk st) s.heap.objs.size f cdv))->MSs (ZhX CX0 P w K mg base N qual (Zk st) f cdv A outer s H E).nox (Zbz st) fb) :
  FnOk P w K mg base CX0 (k+1) f fd ps (spM ⟨Zai mg,K⟩ (ZQ np nn fb)):=by
 refine F.ok S ?_ ?_
 ·rintro vs H Q E ⟨B,θ,ds,_,_,r,q⟩
  unfold ZQ at q
  split at q
  ·rename_i h
   split at h
   ·rename_i hl; rw [r.len,hl,hp]
   ·cases h
  ·exact q.elim
  ·exact q.elim
 ·intro cdv A outer s H vs Q E hr h
  obtain ⟨B,θ,ds,hos,G,r,q⟩:=h
  refine ⟨tMS (ZhX CX0 P w K mg base N qual (Zk st) f cdv A outer s H E).nox fb,hbody cdv A outer s H E hr,B,θ,Zd7 nn ds,Zmm G r hn,?_⟩
  unfold ZQ at q
  by_cases hl:ds.length=np
  ·rw [if_pos hl] at q
   cases e:fb (Zd7 nn ds) θ with
   | bad=>rw [e] at q; exact q.elim
   | ex c θ'=>rw [e] at q; exact q.elim
   | ok p θ'=>
    rw [e] at q
    obtain ⟨fl,ρ'⟩:=p
    intro B' H' σ' E' F'
    have hos':∀a,a∈B.os->False:=fun a ha=>by rw [hos] at ha; cases ha
    let B2:Bx:={ B' with os:=[] }
    have E2:ExtE B B2 H H':=⟨⟨E'.n,E'.m,E'.fr,E'.keep,E'.sm,fun a ha=>(nomatch ha),E'.F,E'.ks⟩,hos.symm,fun a o ha=>(hos' a ha).elim⟩
    have E3:ExtS B' B2 H' H':=⟨Yb _,fun _ _=>rfl,fun i h h'=>absurd h' (YI.mpr h),fun _ _ e _ _=>e,fun _ e=>e,fun b hb=>(nomatch hb),rfl,rfl⟩
    have G2:Good ⟨Zai mg,K⟩ B2 θ' H':=⟨F'.good.len,F'.good.inj,fun j c e=>(F'.good.cel j c e).ext E3 fun _ q=>q,fun j hj=>⟨(F'.good.cF j hj).1,fun z=>nomatch z⟩,F'.good.Fs,fun b z=>(nomatch z),fun b z=>(nomatch z),F'.good.kc⟩
    cases fl with
    | nx=>exact q B2 H' .non E2 G2 rfl
    | rt d=>exact fun v rv=>q B2 H' v E2 G2 (rv.ext E3)
    | bk=>exact q.elim
    | ct=>exact q.elim
  ·rw [if_neg hl] at q
   exact q.elim
theorem ZX {P:Program} {w:World} {K:PySem.W.Frag} {mg:Str->Option Value} {base:Heap} {x:Str} {st:Stmt} {N ps:List Str} {k:Nat} {fb:SM} (D0:Zv K mg x st ps) (S:Zp N ps (Zk st)) (np nn:Nat) (hp:ps.length=np) (hn:N.length=nn)
  (hbody:∀(f:Addr) (cdv:Value) (A:Around) (outer:List Env) (s:Shared) (H:Hp) (E:XK),Room k (A.deeper (envOfC x (Zk st) s.heap.objs.size f cdv))->MSs (ZhX CX0 P w K mg base N x (Zk st) f cdv A outer s H E).nox (Zbz st) fb):Zo P w K mg base (k+1) x (ZQ np nn fb):=by
 obtain ⟨f,fd,F,b,m⟩:=D0
 exact ⟨ps,f,fd,mfn F S np nn hp hn (hbody f),b,F.kp,m⟩
noncomputable def Bx.inC (B:Bx):Bx:={ B with F:=fun a=>B.F a\/a∈B.os,os:=[] }
theorem inC_ok {B:Bx} {a:Addr}:B.inC.ok a↔B.ok a:=by
 constructor
 ·rintro ⟨h1,h2,h3⟩
  exact ⟨h1,fun z=>h2 (.inl z),fun z=>h2 (.inr z)⟩
 ·rintro ⟨h1,h2,h3⟩
  exact ⟨h1,fun z=>z.elim h2 h3,fun z=>nomatch z⟩
mutual
theorem RepV.same {B B':Bx} {H:Hp} (hn:B'.n=B.n) (hm:B'.m=B.m) (hk:B'.ks=B.ks) (ho:∀a,B.ok a->B'.ok a):∀{d:D} {v:V},RepV B H d v->RepV B' H d v
 | .non,_,h=>h
 | .bl _,_,h=>h
 | .int _,_,h=>h
 | .str _,_,h=>h
 | .ty _,_,h=>h
 | .scr _,_,h=>by
  obtain ⟨a,e,h⟩:=h
  refine ⟨a,e,?_⟩
  rcases h with ⟨o,h,k⟩ | h
  ·exact .inl ⟨o,h,ho a k⟩
  ·exact .inr (by rw [hk]; exact h)
 | .tup _,_,h=>by obtain ⟨a,vs,e,h,k,l⟩:=h; exact ⟨a,vs,e,h,ho a k,RepL.same hn hm hk ho l⟩
 | .lst _,_,h=>by obtain ⟨a,vs,e,h,k,l⟩:=h; exact ⟨a,vs,e,h,ho a k,RepL.same hn hm hk ho l⟩
 | .ref l,_,h=>⟨by rw [hn]; exact h.1,by rw [hm]; exact h.2⟩
theorem RepL.same {B B':Bx} {H:Hp} (hn:B'.n=B.n) (hm:B'.m=B.m) (hk:B'.ks=B.ks) (ho:∀a,B.ok a->B'.ok a):∀{ds:List D} {vs:List V},RepL B H ds vs->RepL B' H ds vs
 | [],_,h=>h
 | _::_,_,h=>by obtain ⟨v,r,e,hv,hr⟩:=h; exact ⟨v,r,e,RepV.same hn hm hk ho hv,RepL.same hn hm hk ho hr⟩
end
theorem RepKV.same {κ:Type} {B B':Bx} {H:Hp} (hn:B'.n=B.n) (hm:B'.m=B.m) (hk:B'.ks=B.ks) (ho:∀a,B.ok a->B'.ok a):∀{ks:List (κ×D)} {vs:List (κ×V)},RepKV B H ks vs->RepKV B' H ks vs
 | _,_,.nil=>.nil
 | _,_,.cons h t=>.cons ⟨h.1,RepV.same hn hm hk ho h.2⟩ (RepKV.same hn hm hk ho t)
theorem CellOk.same {cl:Mo} {B B':Bx} {H:Hp} {a:Addr} {c:Cell} (hn:B'.n=B.n) (hm:B'.m=B.m) (hk:B'.ks=B.ks) (ho:∀a,B.ok a->B'.ok a) (k:CellOk cl B H a c):CellOk cl B' H a c:=by
 cases c with
 | lst xs=>obtain ⟨vs,e,r⟩:=k; exact ⟨vs,e,r.same hn hm hk ho⟩
 | dK kvs=>obtain ⟨vs,e,r⟩:=k; exact ⟨vs,e,r.same hn hm hk ho⟩
 | dT kvs=>obtain ⟨vs,e,r⟩:=k; exact ⟨vs,e,r.same hn hm hk ho⟩
 | ins C fs=>obtain ⟨dx,vs,e,r⟩:=k; exact ⟨dx,vs,e,r.same hn hm hk ho⟩
theorem Zol {cl:Mo} {B:Bx} {θ:Sto} {H:Hp} (G:Good cl B θ H):Good cl B.inC θ H:=
 ⟨G.len,G.inj,fun i c e=>CellOk.same (B:=B) (B':=B.inC) rfl rfl rfl (fun a=>inC_ok.mpr) (G.cel i c e),fun i hi=>⟨fun z=>z.elim (G.cF i hi).1 (G.cF i hi).2,fun z=>nomatch z⟩,fun a z=>z.elim (G.Fs a) (G.oS a),fun a z=>(nomatch z),fun a z=>(nomatch z),G.kc⟩
theorem Zwa {cl:Mo} {B B':Bx} {θ θ':Sto} {H H':Hp} (G:Good cl B θ H) (E:ExtE B.inC B' H H') (G':Good cl B' θ' H') :
  ExtE B { B' with F:=B.F,os:=B.os } H H'/\Good cl { B' with F:=B.F,os:=B.os } θ' H'/\∀d v,RepV B' H' d v->RepV { B' with F:=B.F,os:=B.os } H' d v:=by
 have hF:B'.F=fun a=>B.F a\/a∈B.os:=E.F
 have ho:∀a,B'.ok a->Bx.ok { B' with F:=B.F,os:=B.os } a:=fun a ⟨h1,h2,h3⟩=>by
  rw [hF] at h2
  exact ⟨h1,fun z=>h2 (.inl z),fun z=>h2 (.inr z)⟩
 have keep:∀a o,H a=some o->(∀i,i<B.n->B.m i≠a)->H' a=some o:=fun a o h k=>E.keep a o h k (fun z=>nomatch z)
 refine ⟨⟨⟨E.n,E.m,E.fr,fun a o h k _=>keep a o h k,E.sm,fun a h=>.inl h,rfl,E.ks⟩,rfl,fun a o _ k h=>keep a o h k⟩,⟨G'.len,G'.inj,fun i c e=>CellOk.same (B:=B') (B':={ B' with F:=B.F,os:=B.os }) rfl rfl rfl ho (G'.cel i c e),fun i hi=>?_,fun a z=>E.sm a (G.Fs a z),fun a z=>E.sm a (G.oS a z),G.oF,G'.kc⟩,fun d v r=>RepV.same (B:=B') (B':={ B' with F:=B.F,os:=B.os }) rfl rfl rfl ho r⟩
 have:=(G'.cF i hi).1
 rw [hF] at this
 exact ⟨fun z=>this (.inl z),fun z=>this (.inr z)⟩
theorem Zl5 {f:GM} {σ:St} {B:Bx} {θ:Sto} {H:Hp} {ds:List D} {vs:List V} {Q:VK} {E:XK} (G:Good X.cl B θ H) (r:RepL B H ds vs) (w:wpR X σ RepV B H (f ds θ) Q):spM X.cl f vs H Q E:=by
 refine ⟨B.inC,θ,ds,rfl,Zol G,RepL.same (B:=B) (B':=B.inC) rfl rfl rfl (fun a=>inC_ok.mpr) r,?_⟩
 cases e:f ds θ with
 | bad=>rw [e] at w; exact w
 | ex c θ'=>rw [e] at w; exact w
 | ok d θ'=>
  rw [e] at w
  intro B' H' v E' G' rv
  obtain ⟨h1,h2,h3⟩:=Zwa G E' G'
  exact w _ H' v h1 h2 (h3 d v rv)
theorem Zh {k j:Nat} {x:Str} {f:GM} {p pos:Pos} {e:Expr} {es:List Expr} {fs:AM} (D0:Zo X.prog X.w X.K X.mg X.base k x f) (hr:Room j X.A) (hj:k<=j) (ha:MA X (e::es) fs) (hg:Gl X x:=by rfl) (hdb:(x == ("__debug__":Str))=false:=by decide)
  (he:starEach (e::es) X.env=(false,eval e X.env)::starEach es X.env:=by rfl) (hpl:(backTo pos (starEach es X.env)).any (·.1)=false:=by rfl):ME X (.Call (.Name x p) (e::es) [] pos) (mCB f fs):=by
 obtain ⟨ps,D0⟩:=D0
 refine PE.imp (ZnO D0 hr hj ha hg hdb he hpl) fun σ H Q h=>?_
 obtain ⟨B,θ,ρ,F,w⟩:=h
 refine ZbG (ZgZ F w) ?_
 rintro vs H1 ⟨B1,θ1,ds,E1,F1,rd,w1⟩
 rw [YV]
 exact Zl5 F1.good rd w1
end
end L2.MM
namespace L2.MM
open PySem PySem.Spec PyProof.Rows PySem.SeqAt
noncomputable section
def Zly (K:PySem.W.Frag):Sp:=fun vs H Q _=>∃(a:Addr) (ns:List Int),vs=[.ref a]/\ZrI H/\SqL K H a (ns.map V.int)/\ns.length<=63/\∀H',Q (.bl true) H'
theorem Zrg {P:Program} {w:World} {K:PySem.W.Frag} {mg:Str->Option Value} {base:Heap} {k:Nat} {f:Addr} {fd:FuncData} {ps:List Str} {g:GM} (h:∀ns:List Int,ns.length<=63->∃θ',g [.scr ns] []=.ok (.bl true) θ')
  (F:FnOk P w K mg base CX0 k f fd ps (spM ⟨Zai mg,K⟩ g)):FnOk P w K mg base CX0 k f fd ps (Zly K):=by
 refine F.imp ?_
 rintro vs H Q E ⟨a,ns,rfl,hO,hS,hl,q⟩
 obtain ⟨θ',e⟩:=h ns hl
 refine ⟨⟨0,fun _=>0,fun _=>False,[],KL K⟩,[],[.scr ns],rfl,⟨rfl,fun i j hi=>absurd hi (Jc _),fun i c h=>by simp at h,fun i hi=>absurd hi (Jc _),fun a h=>h.elim,fun a h=>(nomatch h),fun a h=>(nomatch h),fun a ns h=>h⟩,?_,?_⟩
 ·refine ⟨.ref a,[],rfl,⟨a,rfl,?_⟩,rfl⟩
  rcases hS with (h1 | ⟨o,h1⟩) | h1
  ·rcases hO a with z | ⟨o,xs,z⟩
   ·rw [z] at h1; cases h1
   ·rw [z] at h1; cases h1
  ·exact .inl ⟨o,h1,fun i hi=>absurd hi (Jc _),fun z=>z,fun z=>(nomatch z)⟩
  ·exact .inr h1
 ·rw [e]
  intro B' H' v _ _ rv
  cases (show v=V.bl true from rv)
  exact q H'
end
end L2.MM
namespace L2.MM
open PySem PySem.Spec PyProof.Rows PySem.SeqAt
noncomputable section
section
variable {i j k:Nat} {ρ:List Sl} {θ:Sto} {f g h:EM} {fs:AM} {t u:TMr}
@[simp] theorem ZAg:Zd i ρ θ=match ρ[i]? with | some (Sl.val d)=>.ok d θ | _=>.bad:=nr rfl
@[simp] theorem x_c {d:D}:mC d ρ θ=.ok d θ:=nr rfl
@[simp] theorem Zmd {o:OM}:mOp o f g ρ θ=(f ρ θ).bind fun x θ=>(g ρ θ).bind fun y θ=>o x y θ:=nr rfl
@[simp] theorem ZyY:ZC f ρ θ=(f ρ θ).bind fun x θ=>match x with | .bl k=>.ok k θ | _=>.bad:=nr rfl
@[simp] theorem Zvl:zV f ρ θ=(f ρ θ).bind fun x θ=>match ZfW θ x with | some k=>.ok k θ | none=>.bad:=nr rfl
@[simp] theorem ZAv:ZeI t u ρ θ=(t ρ θ).bind fun k θ=>if k=true then u ρ θ else .ok false θ:=nr rfl
@[simp] theorem ZAP:mOr t u ρ θ=(t ρ θ).bind fun k θ=>if k=true then .ok true θ else u ρ θ:=nr rfl
@[simp] theorem ZAk:ZeV t ρ θ=(t ρ θ).bind fun k θ=>.ok (!k) θ:=nr rfl
noncomputable def ZuR (g:Sto->R D):D->Sto->R D
 | .bl true,θ=>g θ
 | .bl false,θ=>.ok (.bl false) θ
 | _,_=>.bad
noncomputable def orK (g:Sto->R D):D->Sto->R D
 | .bl true,θ=>.ok (.bl true) θ
 | .bl false,θ=>g θ
 | _,_=>.bad
@[simp] theorem Zxe {g:Sto->R D} {k:Bool}:ZuR g (.bl k) θ=if k=true then g θ else .ok (.bl false) θ:=by cases k<;>rfl
@[simp] theorem ZzH {g:Sto->R D} {k:Bool}:orK g (.bl k) θ=if k=true then .ok (.bl true) θ else g θ:=by cases k<;>rfl
@[simp] theorem Zy9:Zdf f g ρ θ=(f ρ θ).bind (ZuR (g ρ)):=by
 show (f ρ θ).bind _=_
 congr 1
 funext x θ
 cases x<;>first | rfl | (rename_i b; cases b<;>rfl)
@[simp] theorem ZAj:ZmF f g ρ θ=(f ρ θ).bind (orK (g ρ)):=by
 show (f ρ θ).bind _=_
 congr 1
 funext x θ
 cases x<;>first | rfl | (rename_i b; cases b<;>rfl)
@[simp] theorem Zwq {p:Prop} [Decidable p] {m:Bool}:(if p then R.ok (D.bl m) θ else R.ok (D.bl false) θ)=R.ok (D.bl (decide p && m)) θ:=by by_cases h:p<;>simp [h]
@[simp] theorem Zw5 {p:Prop} [Decidable p] {m:Bool}:(if p then R.ok (D.bl true) θ else R.ok (D.bl m) θ)=R.ok (D.bl (decide p || m)) θ:=by by_cases h:p<;>simp [h]
@[simp] theorem Zve {p:Prop} [Decidable p] {m:Bool}:(if p then R.ok m θ else R.ok false θ)=R.ok (decide p && m) θ:=by by_cases h:p<;>simp [h]
@[simp] theorem Zwp {p:Prop} [Decidable p] {m:Bool}:(if p then R.ok true θ else R.ok m θ)=R.ok (decide p || m) θ:=by by_cases h:p<;>simp [h]
@[simp] theorem Zy4:Zn9 f ρ θ=(f ρ θ).bind fun x θ=>match ZfW θ x with | some k=>.ok (.bl (!k)) θ | none=>.bad:=nr rfl
@[simp] theorem ZAm:ZzK f ρ θ=(f ρ θ).bind fun x θ=>match x with | .int i=>.ok (.int (-i)) θ | _=>.bad:=nr rfl
@[simp] theorem ZAq:Zf9 t f g ρ θ=(t ρ θ).bind fun k θ=>if k=true then f ρ θ else g ρ θ:=nr rfl
@[simp] theorem ZwT {o o':OM}:ZgH o o' f g h ρ θ=(f ρ θ).bind fun x θ=>(g ρ θ).bind fun y θ=>(o x y θ).bind (ZuR fun θ=>(h ρ θ).bind fun w θ=>o' y w θ):=by
 show (f ρ θ).bind _=_
 congr 1
 funext x θ
 congr 1
 funext y θ
 congr 1
 funext z θ
 cases z<;>first | rfl | (rename_i b; cases b<;>rfl)
@[simp] theorem ZAl:Zi ρ θ=.ok [] θ:=nr rfl
@[simp] theorem Zy8:Zc f fs ρ θ=(f ρ θ).bind fun x θ=>(fs ρ θ).bind fun xs θ=>.ok (x::xs) θ:=nr rfl
@[simp] theorem ZAh:Zbj fs ρ θ=(fs ρ θ).bind fun xs θ=>if xs.length<=BIG then .ok (.tup xs) θ else .bad:=nr rfl
@[simp] theorem ZAp:Zba fs ρ θ=(fs ρ θ).bind fun xs θ=>if xs.length<=BIG then .ok (.lst xs) θ else .bad:=nr rfl
@[simp] theorem ZAR {o:GM}:mCB o fs ρ θ=(fs ρ θ).bind fun xs θ=>o xs θ:=nr rfl
@[simp] theorem Zvp:Zaw ρ θ=.ok none θ:=nr rfl
@[simp] theorem Zy3:Zb4 f ρ θ=(f ρ θ).bind fun x θ=>match x with | .int i=>.ok (some i) θ | _=>.bad:=nr rfl
@[simp] theorem ZAO {lo hi:PM}:mSl f lo hi ρ θ=(f ρ θ).bind fun x θ=>(lo ρ θ).bind fun l θ=>(hi ρ θ).bind fun h θ=>match Zgx θ x l h with
 | some d=>.ok d θ
 | none=>.bad:=nr rfl
@[simp] theorem ZAi {lo hi st:PM}:Zrc f lo hi st ρ θ=(f ρ θ).bind fun x θ=>(lo ρ θ).bind fun l θ=>(hi ρ θ).bind fun h θ=>(st ρ θ).bind fun s θ=>match zK θ x with
 | some xs=>if s≠some 0/\(ZdV xs l h s).length<=BIG then .ok (.lst (ZdV xs l h s)) θ else .bad
 | none=>.bad:=nr rfl
@[simp] theorem Zy1:Zb3 fs ρ θ=(fs ρ θ).bind fun ds θ=>match ds with
 | [.int j]=>if -1000000<=j/\j<=1000000 then .ok (.rng 0 j.toNat) θ else .bad
 | _=>.bad:=by
 unfold Zb3; exact nr rfl
variable {a b:SM} {Fl':Fl×List Sl}
@[simp] theorem ZyZ:ZN ρ θ=.ok (.nx,ρ) θ:=nr rfl
@[simp] theorem ZAu:Zrd ρ θ=.bad:=nr rfl
@[simp] theorem ZT {ρ':List Sl}:ZhE (.ok (.nx,ρ') θ) a=a ρ' θ:=nr rfl
@[simp] theorem ZuX {ρ':List Sl} {d:D}:ZhE (.ok (.rt d,ρ') θ) a=.ok (.rt d,ρ') θ:=nr rfl
@[simp] theorem Za1:Zr a b ρ θ=ZhE (a ρ θ) b:=nr rfl
@[simp] theorem ZtA:zj f ρ θ=(f ρ θ).bind fun _ θ=>.ok (.nx,ρ) θ:=nr rfl
@[simp] theorem Zvo:ZP f ρ θ=(f ρ θ).bind fun d θ=>.ok (.rt d,ρ) θ:=nr rfl
@[simp] theorem Zy2:Zf8 ρ θ=.ok (.rt .non,ρ) θ:=nr rfl
@[simp] theorem Zi8:mIf t a b ρ θ=(t ρ θ).bind fun k θ=>if k=true then a ρ θ else b ρ θ:=nr rfl
@[simp] theorem ZjK:Z5 i f ρ θ=(f ρ θ).bind fun d θ=>.ok (.nx,ρ.set i (.val d)) θ:=nr rfl
@[simp] theorem Zvn:Zjn i fs ρ θ=(fs ρ θ).bind fun xs θ=>if xs.length<=BIG then .ok (.nx,ρ.set i (.own xs)) θ else .bad:=nr rfl
@[simp] theorem Zvt:Zgc i f ρ θ=(f ρ θ).bind fun d θ=>match ρ[i]? with
 | some (Sl.own xs)=>if xs.length<BIG then .ok (.nx,ρ.set i (.own (xs++[d]))) θ else .bad
 | _=>.bad:=nr rfl
@[simp] theorem Zvs:Zga i a ρ θ=match ρ[i]? with | some (Sl.own xs)=>a (ρ.set i (.val (.lst xs))) θ | _=>a ρ θ:=nr rfl
@[simp] theorem ZbX {ρ':List Sl}:Zg1 a (.nx,ρ') θ=a ρ' θ:=nr rfl
@[simp] theorem ZAt {np nn:Nat} {ds:List D}:ZQ np nn a ds θ=if ds.length=np then (a (Zd7 nn ds) θ).bind fun p θ=>match p.1 with | .nx=>.ok .non θ | .rt d=>.ok d θ | _=>.bad else .bad:=nr rfl
@[simp] theorem ZwP {n:Nat} {ds:List D}:Zd7 n ds=ds.map Sl.val++List.replicate (n-ds.length) Sl.no:=nr rfl
@[simp] theorem ZeJ {xs:List D}:seqOf θ (.tup xs)=some xs:=nr rfl
@[simp] theorem ZuW {b:Bool}:ZfW θ (.bl b)=some b:=nr rfl
@[simp] theorem Ztw {ns:List Int}:ZfW θ (.scr ns)=some (!(ns.map D.int).isEmpty):=nr rfl
@[simp] theorem Zty {xs:List D}:look θ (.lst xs)=.lst xs:=nr rfl
@[simp] theorem Ztz {n:Int}:look θ (.int n)=.int n:=nr rfl
@[simp] theorem Ztx {n:Str}:look θ (.str n)=.str n:=nr rfl
@[simp] theorem Zm3 {xs:List D} {n:Int}:ixM (.lst xs) (.int n) θ=match atI xs n with | some d=>.ok d θ | none=>.bad:=nr rfl
@[simp] theorem ZjL {xs:List D} {n:Int}:ixM (.tup xs) (.int n) θ=match atI xs n with | some d=>.ok d θ | none=>.bad:=nr rfl
@[simp] theorem Zvr {xs:List Int} {n:Int}:ixM (.scr xs) (.int n) θ=match atI (xs.map D.int) n with | some d=>.ok d θ | none=>.bad:=nr rfl
@[simp] theorem Zvq {xs:List D}:Zdr [.lst xs] θ=.ok (.int xs.length) θ:=nr rfl
@[simp] theorem Zme {xs:List D}:Zdr [.tup xs] θ=.ok (.int xs.length) θ:=nr rfl
@[simp] theorem ZuY {xs:List Int}:Zdr [.scr xs] θ=.ok (.int (xs.map D.int).length) θ:=nr rfl
@[simp] theorem Zvm {xs:List D}:Zmk [.lst xs] θ=match Zgi xs with | some ns=>.ok (.int ns.sum) θ | none=>.bad:=nr rfl
@[simp] theorem ZAn {m n:Int}:Zki [.int m,.int n] θ=.ok (.int (if n<m then n else m)) θ:=nr rfl
@[simp] theorem Zy5 {m n k:Int}:Zki [.int m,.int n,.int k] θ=.ok (.int (if n<m then (if k<n then k else n) else (if k<m then k else m))) θ:=nr rfl
@[simp] theorem ZAo {m n:Int}:Zrb [.int m,.int n] θ=.ok (.int (if n > m then n else m)) θ:=nr rfl
@[simp] theorem Zm2 {xs:List D} {lo hi:Option Int}:Zgx θ (.lst xs) lo hi=some (.lst (ZbA xs lo hi)):=nr rfl
@[simp] theorem ZAQ {x:D}:isM x .non θ=.ok (.bl (ZcJ x)) θ:=nr rfl
@[simp] theorem ZwQ {x:D}:Zju x .non θ=.ok (.bl (!ZcJ x)) θ:=nr rfl
end
mutual
noncomputable def pl:Nat->D->Bool
 | _,.non=>true
 | _,.bl _=>true
 | _,.int _=>true
 | _,.str x=>PyData.strOk x
 | k+1,.tup xs=>pls k xs
 | k+1,.lst xs=>pls k xs
 | _,_=>false
noncomputable def pls:Nat->List D->Bool
 | _,[]=>true
 | k,d::r=>pl k d && pls k r
end
mutual
noncomputable def noB:D->Bool
 | .bl _=>false
 | .tup xs=>ZhL xs
 | .lst xs=>ZhL xs
 | _=>true
noncomputable def ZhL:List D->Bool
 | []=>true
 | d::r=>noB d && ZhL r
end
mutual
theorem ZlC:∀(k:Nat) (d:D),pl k d=true->plain d=true/\(dat d).canLay0=true/\(dat d).depth<=k
 | _,.non,_=>⟨rfl,rfl,YG _⟩
 | _,.bl _,_=>⟨rfl,rfl,YG _⟩
 | _,.int _,_=>⟨rfl,rfl,YG _⟩
 | k,.str x,h=>⟨rfl,by cases k<;>simpa [pl,dat,PyData.canLay0] using h,YG _⟩
 | k+1,.tup xs,h=>by
  obtain ⟨a,b,c⟩:=ZkZ k xs (by simpa [pl] using h)
  exact ⟨a,b,by simp only [dat,PyData.depth]; omega⟩
 | k+1,.lst xs,h=>by
  obtain ⟨a,b,c⟩:=ZkZ k xs (by simpa [pl] using h)
  exact ⟨a,b,by simp only [dat,PyData.depth]; omega⟩
 | 0,.tup xs,h=>by simp [pl] at h
 | 0,.lst xs,h=>by simp [pl] at h
 | 0,.ty _,h=>by simp [pl] at h
 | 0,.scr _,h=>by simp [pl] at h
 | 0,.ref _,h=>by simp [pl] at h
 | _+1,.ty _,h=>by simp [pl] at h
 | _+1,.scr _,h=>by simp [pl] at h
 | _+1,.ref _,h=>by simp [pl] at h
theorem ZkZ:∀(k:Nat) (ds:List D),pls k ds=true->Zca ds=true/\PyData.canLayAll0 (Ze0 ds)=true/\PyData.depthAll (Ze0 ds)<=k
 | _,[],_=>⟨rfl,rfl,YG _⟩
 | k,d::r,h=>by
  have h':pl k d=true/\pls k r=true:=by simpa [pls] using h
  obtain ⟨a,b,c⟩:=ZlC k d h'.1
  obtain ⟨a',b',c'⟩:=ZkZ k r h'.2
  exact ⟨by simp [Zca,a,a'],by simp [Ze0,PyData.canLayAll0,b,b'],by simp only [Ze0,PyData.depthAll]; omega⟩
end
mutual
theorem ZlM:∀(d e:D),noB d=true->noB e=true->noMix (dat d) (dat e)=true:=fun d e p q=>by
 cases d with
 | bl _=>simp [noB] at p
 | tup xs=>
  cases e with
  | bl _=>simp [noB] at q
  | tup ys=>simp only [dat,noMix]; exact ZhK xs ys p q
  | _=>simp [dat,noMix]
 | lst xs=>
  cases e with
  | bl _=>simp [noB] at q
  | lst ys=>simp only [dat,noMix]; exact ZhK xs ys p q
  | _=>simp [dat,noMix]
 | _=>cases e<;>simp_all [noB,dat,noMix]
theorem ZhK:∀(ds es:List D),ZhL ds=true->ZhL es=true->noMixAll (Ze0 ds) (Ze0 es)=true
 | [],[],_,_=>rfl
 | [],_::_,_,_=>rfl
 | _::_,[],_,_=>rfl
 | d::ds,e::es,p,q=>by
  have p':noB d=true/\ZhL ds=true:=by simpa [ZhL] using p
  have q':noB e=true/\ZhL es=true:=by simpa [ZhL] using q
  simp only [Ze0,noMixAll,Yt]
  exact ⟨ZlM d e p'.1 q'.1,ZhK ds es p'.2 q'.2⟩
end
theorem Ziv {k:Nat} {d:D} (h:pl k d=true) (hk:k<=64):shaped (dat d)=true:=by
 obtain ⟨_,b,c⟩:=ZlC k d h
 unfold shaped
 rw [b,decide_eq_true (by omega)]
 rfl
theorem ZfO {x y:D} (h1:pl 9 x=true) (h2:pl 9 y=true) (h3:noB x=true) (h4:noB y=true):ZkM x y:=
 ⟨(ZlC _ _ h1).1,(ZlC _ _ h2).1,Ziv h1 (by decide),Ziv h2 (by decide),ZlM x y h3 h4⟩
section
open Classical
theorem Zle {x y:D} {θ:Sto} (h:ZkM (look θ x) (look θ y)):eqM x y θ=.ok (.bl (decide (look θ x=look θ y))) θ:=if_pos h
theorem Zjl {x y:D} {θ:Sto} (h:ZkM (look θ x) (look θ y)):neM x y θ=.ok (.bl (!decide (look θ x=look θ y))) θ:=if_pos h
end
@[simp] theorem Zv3 (k:Nat) (ns:List Int):pls k (ns.map D.int)=true:=by
 induction ns with
 | nil=>rfl
 | cons n r ih=>simp only [Yf,pls,ih,Bool.and_true]; cases k<;>rfl
@[simp] theorem Zvc (ns:List Int):ZhL (ns.map D.int)=true:=by
 induction ns with
 | nil=>rfl
 | cons n r ih=>simp only [Yf,ZhL,ih,Bool.and_true]; rfl
@[simp] theorem Zr6 (ns ms:List Int):(ns.map D.int=ms.map D.int)↔ns=ms:=by
 constructor
 ·intro h
  have:∀(ns ms:List Int),ns.map D.int=ms.map D.int->ns=ms:=fun ns=>by
   induction ns with
   | nil=>intro ms h; cases ms with
    | nil=>rfl
    | cons _ _=>cases h
   | cons n r ih=>intro ms h; cases ms with
    | nil=>cases h
    | cons m s=>simp at h; rw [h.1,ih s h.2]
  exact this ns ms h
 ·intro h; rw [h]
@[simp] theorem Zz4 (a b:Int) (θ:Sto):eqM (.int a) (.int b) θ=.ok (.bl (decide (a=b))) θ:=by
 rw [Zle (ZfO rfl rfl rfl rfl)]
 simp
@[simp] theorem ZzI (a b:Int) (θ:Sto):neM (.int a) (.int b) θ=.ok (.bl (!decide (a=b))) θ:=by
 rw [Zjl (ZfO rfl rfl rfl rfl)]
 simp
@[simp] theorem Zq5 (a b:List Int) (θ:Sto):neM (.lst (a.map D.int)) (.lst (b.map D.int)) θ=.ok (.bl (!decide (a=b))) θ:=by
 rw [Zjl (ZfO (by simp [pl]) (by simp [pl]) (by simp [noB]) (by simp [noB]))]
 simp
end
end L2.MM
namespace L2.MM
open PySem PySem.Spec PyProof.Rows PySem.SeqAt My
noncomputable section
@[simp] theorem ZAf:BIG=100000:=nr rfl
noncomputable def il (ns:List Int):D:=.lst (ns.map D.int)
noncomputable def itp (ns:List Int):D:=.tup (ns.map D.int)
section
variable {θ:Sto} {a b ns ms:List Int} {i j:Int}
@[simp] theorem ZAM:D.lst (ns.map D.int)=il ns:=nr rfl
theorem Zdg:D.lst []=il []:=rfl
@[simp] theorem ZAL (x y:Int):D.lst [.int x,.int y]=il [x,y]:=nr rfl
@[simp] theorem ZAK (x y z:Int):D.lst [.int x,.int y,.int z]=il [x,y,z]:=nr rfl
@[simp] theorem Zwt:zK θ (il a)=some (a.map D.int):=nr rfl
@[simp] theorem Zoj:zn (il a) (il b) θ=if a.length+b.length<=BIG then .ok (il (a++b)) θ else .bad:=by
 unfold il
 rw [ZoO]
 simp [il]
theorem Zrj (h:a.length+b.length<=100000):zn (il a) (il b) θ=.ok (il (a++b)) θ:=by
 rw [Zoj,if_pos h]
@[simp] theorem ZzQ:Zdr [il a] θ=.ok (.int a.length) θ:=by
 unfold il; rw [Zvq]; simp
@[simp] theorem ZzO:Zdr [itp a] θ=.ok (.int a.length) θ:=by
 unfold itp; rw [Zme]; simp
theorem ZrD {α β:Type} (f:α->β) (xs:List α) (n:Int):atI (xs.map f) n=(atI xs n).map f:=by
 unfold L2.atI
 rw [List.length_map]
 cases ixN xs.length n with
 | none=>rfl
 | some k=>simp
theorem Zr7:ixM (il a) (.int i) θ=match atI a i with | some z=>.ok (.int z) θ | none=>.bad:=by
 unfold il
 rw [Zm3,ZrD]
 cases atI a i<;>rfl
theorem ZoK {xs:List Int} {i:Int} (h0:0<=i) (h:i<xs.length):atI xs i=some (xs.getD i.toNat 0):=by
 have c:i=((i.toNat:Nat):Int):=by omega
 rw [c]
 refine Zgr ?_
 have d:i.toNat<xs.length:=by omega
 rw [List.getD_eq_getElem?_getD,Int.toNat_natCast,List.getElem?_eq_getElem d]
 rfl
noncomputable def gt (a:List Int) (i:Nat):Int:=a.getD i 0
theorem ZeX (h0:0<=i) (h:i<a.length):ixM (il a) (.int i) θ=.ok (.int (gt a i.toNat)) θ:=by rw [Zr7,ZoK h0 h]; rfl
@[simp] theorem ZzS {x:Int} {r:List Int}:ixM (il (x::r)) (.int 0) θ=.ok (.int x) θ:=ZeX (a:=x::r) (i:=0) (by decide) (by rw [Yc]; omega)
@[simp] theorem ZzR {x y:Int} {r:List Int}:ixM (il (x::y::r)) (.int 1) θ=.ok (.int y) θ:=ZeX (a:=x::y::r) (i:=1) (by decide) (by rw [Yc,Yc]; omega)
@[simp high] theorem ZAT {x:D} {r:List D}:ixM (.tup (x::r)) (.int 0) θ=.ok x θ:=by
 rw [ZjL,show (0:Int)=((0:Nat):Int) from rfl,Zgr (j:=0) (v:=x) rfl]
@[simp high] theorem ZAS {x y:D} {r:List D}:ixM (.tup (x::y::r)) (.int 1) θ=.ok y θ:=by
 rw [ZjL,show (1:Int)=((1:Nat):Int) from rfl,Zgr (j:=1) (v:=y) rfl]
theorem ZoC {α β:Type} (f:α->β) (xs:List α) (lo hi:Option Int):ZbA (xs.map f) lo hi=(ZbA xs lo hi).map f:=by
 unfold ZbA
 rw [List.length_map,List.map_take,List.map_drop]
@[simp] theorem Zoi {lo hi:Option Int}:Zgx θ (il a) lo hi=some (il (ZbA a lo hi)):=by
 unfold il; rw [Zm2,ZoC]
@[simp] theorem Zw6:ZlU [itp a] θ=.ok (il a) θ:=nr rfl
@[simp] theorem Zws:ZhD [il a] θ=.ok (itp a) θ:=nr rfl
@[simp] theorem ZzP:Zmk [il a] θ=.ok (.int a.sum) θ:=by unfold il; rw [Zvm,Zog]
@[simp] theorem ZAF:neM (il a) (il b) θ=.ok (.bl (!decide (a=b))) θ:=Zq5 a b θ
theorem ZgB {α β:Type} (f:α->β) (xs:List α) (lo hi st:Option Int):ZdV (xs.map f) lo hi st=(ZdV xs lo hi st).map f:=by
 unfold ZdV
 rw [List.length_map,List.map_filterMap]
 congr
 funext k
 simp
theorem ZhO:∀{ns ms:List Int},ns.map V.int=ms.map V.int->ns=ms
 | [],[],_=>rfl
 | [],_::_,h=>by cases h
 | _::_,[],h=>by cases h
 | _::_,_::_,h=>by simp at h; rw [h.1,ZhO h.2]
@[simp] theorem Zr1 (ns:List Int):ZdV ns none none (some 2)=ZeD ns:=ZhO (by
 have:=ZmR ns
 rw [show ZeN (ns.map V.int) none none (some 2)=ZdV (ns.map V.int) none none (some 2) from rfl,ZgB] at this
 exact this)
@[simp] theorem Zue (ns:List Int):ZdV ns (some 1) none (some 2)=ZhI ns:=ZhO (by
 have:=ZoB ns
 rw [show ZeN (ns.map V.int) (some 1) none (some 2)=ZdV (ns.map V.int) (some 1) none (some 2) from rfl,ZgB] at this
 exact this)
end
theorem Zjd {n d:Nat} {k:Int} (h:0<=k):HT.sIx n d (some k)=min k.toNat n:=by
 have c:k=((k.toNat:Nat):Int):=by omega
 rw [c]
 exact HT.sIx_nat n d k.toNat
theorem Zcw {α:Type} (xs:List α) {k:Int} (h:0<=k):ZbA xs none (some k)=xs.take k.toNat:=by
 unfold ZbA
 rw [HT.sIx_none,Zjd h,Jm,Nat.sub_zero,<-List.take_take,List.take_length]
theorem Zdh {α:Type} (xs:List α) {k:Int} (h:0<=k):ZbA xs (some k) none=xs.drop k.toNat:=by
 unfold ZbA
 rw [HT.sIx_none,Zjd h]
 by_cases q:k.toNat<=xs.length
 ·rw [Jd q,YE]
  rw [Yv]
  exact Yb _
 ·rw [Ji (by omega),YT,YU (by omega)]
  simp
theorem Zrw {α:Type} (xs:List α) {k l:Int} (h:0<=k) (h':0<=l):ZbA xs (some k) (some l)=(xs.drop k.toNat).take (l.toNat-k.toNat):=by
 unfold ZbA
 rw [Zjd h,Zjd h']
 by_cases q:k.toNat<=xs.length
 ·rw [Jd q]
  by_cases r:l.toNat<=xs.length
  ·rw [Jd r]
  ·rw [Ji (by omega),YE (by rw [Yv]; exact Yb _),YE (by rw [Yv]; omega)]
 ·rw [Ji (a:=k.toNat) (by omega),YT,YU (i:=k.toNat) (by omega)]
  simp
section
variable {θ:Sto} {ρ:List Sl}
@[simp] theorem Zfl {lo:Int} {n:Nat}:(Src.rng lo n).items θ=some ((List.range n).map fun (i:Nat)=>D.int (lo+(i:Int))):=nr rfl
open Classical in
theorem ZiR {S:Src} {all:List D} {elt:D->Sto->R D} {θ:Sto} (f:D->D) (hS:S.items θ=some all):∀(xs acc:List D),(∀x∈xs,elt x θ=.ok (f x) θ)->(acc.length+xs.length<=BIG)->Zgl S all elt xs acc θ=.ok (.lst (acc++xs.map f)) θ
 | [],acc,_,hl=>by
  unfold Zgl
  rw [if_pos ⟨hS,by simpa using hl⟩]
  simp
 | x::r,acc,h,hl=>by
  unfold Zgl
  rw [if_pos hS,h x Ys]
  rw [R.bind_ok,ZiR f hS r (acc++[f x]) (fun y hy=>h y (Yo _ hy)) (by simp at hl ⊢; omega)]
  simp
theorem ZiH {fi:IM} {src:List Nat} {elt:EM} {lo:Int} {n:Nat} {θ':Sto} (f:Int->D) (hi:fi ρ θ=.ok (.rng lo n) θ') (hn:n<=BIG) (he:∀i:Nat,i<n->elt (inEnv src ρ (.int (lo+i))) θ'=.ok (f (lo+i)) θ') :
  ZcI fi src elt ρ θ=.ok (.lst ((List.range n).map fun (i:Nat)=>f (lo+i))) θ':=by
 unfold ZcI
 rw [hi,R.bind_ok]
 simp only [Zfl]
 rw [if_pos (by simpa using hn),ZiR (fun d=>match d with | .int k=>f k | d=>d) rfl]
 ·simp
 ·intro x hx
  obtain ⟨i,hi,rfl⟩:=YJ.mp hx
  exact he i (List.mem_range.mp hi)
 ·simpa using hn
@[simp] theorem Zwr {src:List Nat} {x:D}:inEnv src ρ x=Sl.val x::src.map fun (j:Nat)=>match ρ[j]? with | some (Sl.val d)=>Sl.val d | _=>Sl.no:=nr rfl
open Classical in
theorem for_rng {lo:Int} {n:Nat} {all:List D} {tg:TgM} {body:SM} (st:Nat->List Sl) (hs:∀i ρ1,i<n->tg (.int (lo+i)) (st i)=some ρ1->body ρ1 θ=.ok (.nx,st (i+1)) θ) (ht:∀i,i<n->∃ρ1,tg (.int (lo+i)) (st i)=some ρ1) (hall:all=(List.range n).map fun (i:Nat)=>D.int (lo+(i:Int))) :
  Zel (.rng lo n) all tg body all (st 0) θ=.ok (.nx,st n) θ:=by
 subst hall
 have key:∀m,m<=n->Zel (.rng lo n) ((List.range n).map fun (i:Nat)=>D.int (lo+(i:Int))) tg body (((List.range n).map fun (i:Nat)=>D.int (lo+(i:Int))).drop (n-m)) (st (n-m)) θ=.ok (.nx,st n) θ:=fun m=>by
  induction m with
  | zero=>
   intro _
   rw [Nat.sub_zero,YU (by simp)]
   simp [Zel]
  | succ m ih=>
   intro hm
   have hlt:n-(m+1)<n:=by omega
   rw [Yz (by simpa using hlt)]
   obtain ⟨ρ1,h1⟩:=ht (n-(m+1)) hlt
   have h2:=hs (n-(m+1)) ρ1 hlt h1
   have e:n-(m+1)+1=n-m:=by omega
   simp only [List.getElem_map,List.getElem_range,Zel,Zfl,if_true,h1]
   rw [h2,R.bind_ok,ZbX,e]
   exact ih (by omega)
 have:=key n (Yb _)
 rw [Y6,Jm] at this
 exact this
end
end
end L2.MM
namespace L2.MM
open PySem PySem.Spec PyProof.Rows PySem.SeqAt
noncomputable section
variable {X:Cx}
noncomputable def ZaC (f:Str) (v:D):List (Str×D)->List (Str×D)
 | []=>[(f,v)]
 | (g,x)::r=>if g=f then (g,v)::r else (g,x)::ZaC f v r
theorem RepKV.put {B:Bx} {H:Hp} {f:Str} {d:D} {v:V} (q:RepV B H d v):∀{fs:List (Str×D)} {vs:List (Str×V)},RepKV B H fs vs->RepKV B H (ZaC f d fs) (ZdU f v vs)
 | _,_,.nil=>.cons ⟨rfl,q⟩ .nil
 | (g,x)::fs,(g',y)::vs,.cons h t=>by
  obtain ⟨h1,h2⟩:=h
  cases (show g=g' from h1)
  unfold ZaC ZdU
  by_cases e:g=f
  ·rw [if_pos e,if_pos e]; exact .cons ⟨rfl,q⟩ t
  ·rw [if_neg e,if_neg e]; exact .cons ⟨rfl,h2⟩ (RepKV.put q t)
theorem RepKV.len {κ:Type} {B:Bx} {H:Hp}:∀{fs:List (κ×D)} {vs:List (κ×V)},RepKV B H fs vs->vs.length=fs.length
 | _,_,.nil=>rfl
 | _,_,.cons _ t=>by rw [Yc,Yc,RepKV.len t]
theorem RepKV.get {B:Bx} {H:Hp} {f:Str} {d:D}:∀{fs:List (Str×D)} {vs:List (Str×V)},RepKV B H fs vs->fs.lookup f=some d->∃v,vs.lookup f=some v/\RepV B H d v
 | _,_,.nil,h=>by cases h
 | (g,x)::fs,(g',y)::vs,.cons h t,e=>by
  obtain ⟨h1,h2⟩:=h
  cases (show g=g' from h1)
  rw [YD] at e ⊢
  cases q:f == g with
  | true=>rw [q] at e; cases e; exact ⟨y,rfl,h2⟩
  | false=>rw [q] at e; exact RepKV.get t e
noncomputable def ZeW (θ:Sto):D->Option (Nat×Str×List (Str×D))
 | .ref l=>match θ[l]? with
  | some (.ins C fs)=>some (l,C,fs)
  | _=>none
 | _=>none
theorem Zks {cl:Mo} {B:Bx} {θ:Sto} {H:Hp} (G:Good cl B θ H) {d:D} {v:V} {l:Nat} {C:Str} {fs:List (Str×D)} (r:RepV B H d v) (h:ZeW θ d=some (l,C,fs)) :
  l<B.n/\v=.ref (B.m l)/\∃dx vs,H (B.m l)=some (.ins (cl.cl C) dx vs)/\RepKV B H fs vs:=by
 cases d with
 | ref k=>
  simp only [ZeW] at h
  split at h
  ·rename_i C' fs' e
   cases h
   obtain ⟨hl,rfl⟩:=r
   obtain ⟨dx,vs,h1,h2⟩:=G.cel _ _ e
   exact ⟨hl,rfl,dx,vs,h1,h2⟩
  ·cases h
 | _=>cases h
noncomputable def zN (cs:List Str) (f:Str):D->Sto->R D:=fun d θ=>match ZeW θ d with
 | some (_,C,fs)=>if cs.contains C=true then (match fs.lookup f with
  | some v=>.ok v θ
  | none=>.bad) else .bad
 | none=>.bad
noncomputable def ZD (cs:List Str) (f:Str) (fe:EM):EM:=fun ρ θ=>(fe ρ θ).bind (zN cs f)
def Zse (X:Cx) (f:Str) (C:Str):Prop:=Cls X.K (X.cl.cl C)/\NoAttr X.K (X.cl.cl C) f
theorem Zq {P:Str->Prop} {a:Str} (h:P a):∀C,[a].contains C=true->P C:=fun C hc=>by
 have:C=a:=by simpa using hc
 rw [this]; exact h
theorem Zn {cs:List Str} {f:Str} {e:Expr} {fe:EM} {pos:Pos} (hc:∀C,cs.contains C=true->Zse X f C) (he:ME X e fe) (hb:attributeBase e f X.env (eval e X.env)=eval e X.env:=by rfl):ME X (.Attribute e f pos) (ZD cs f fe):=by
 refine PE.imp (Zun he hb) fun σ H Q h=>?_
 obtain ⟨B,θ,ρ,F,w⟩:=h
 refine ZK (step F w) ?_
 rintro v H1 ⟨B1,θ1,d,E1,F1,rd,w1⟩
 unfold zN at w1
 split at w1
 ·rename_i l C fs e1
  split at w1
  ·rename_i hC
   split at w1
   ·rename_i y ey
    obtain ⟨hl,rfl,dx,vs,h1,h2⟩:=Zks F1.good rd e1
    obtain ⟨u,h3,h4⟩:=h2.get ey
    exact ⟨_,_,dx,vs,u,rfl,h1,(hc C hC).1,(hc C hC).2,h3,ZU F1.good h4 w1⟩
   ·exact w1.elim
  ·exact w1.elim
 ·exact w1.elim
noncomputable def za (cs:List Str) (f:Str) (y d:D) (θ:Sto):Option Sto:=match ZeW θ d with
 | some (l,C,fs)=>if cs.contains C=true/\fs.length<1000 then some (θ.set l (.ins C (ZaC f y fs))) else none
 | none=>none
noncomputable def ZA (cs:List Str) (f:Str) (fe fv:EM):SM:=fun ρ θ=>(fv ρ θ).bind fun y θ=>(fe ρ θ).bind fun d θ=>match za cs f y d θ with
 | some θ'=>.ok (.nx,ρ) θ'
 | none=>.bad
theorem Zs {cs:List Str} {f:Str} {o value:Expr} {fe fv:EM} {pos pos':Pos} (hc:∀C,cs.contains C=true->Zse X f C) (he:ME X o fe) (hv:ME X value fv) (hs:swapsWith value (some (.Attribute o f pos')) pos.line X.env=pure false:=by rfl) :
  MS X (.Assign [.Attribute o f pos'] value pos) (ZA cs f fe fv):=
 PS.imp (Zub he hv hs) fun D σ H h=>by
 obtain ⟨B,θ,ρ,F,w⟩:=h
 refine ZK (ZdS F w) ?_
 rintro y H1 ⟨B1,θ1,dy,E1,F1,ry,w1⟩
 refine ZK (ZdS F1 w1) ?_
 rintro v H2 ⟨B2,θ2,d,E2,F2,rd,w2⟩
 unfold za at w2
 cases e1:ZeW θ2 d with
 | none=>rw [e1] at w2; exact w2.elim
 | some q=>
  obtain ⟨l,C,fs⟩:=q
  rw [e1] at w2
  simp only at w2
  by_cases hC:cs.contains C=true/\fs.length<1000
  ·rw [if_pos hC] at w2
   obtain ⟨hl,rfl,dx,vs,h1,h2⟩:=Zks F2.good rd e1
   refine ⟨_,_,dx,vs,rfl,h1,(hc C hC.1).1,(hc C hC.1).2,by rw [h2.len]; exact hC.2,?_⟩
   have E3:=ZcY F2.good hl (.ins (X.cl.cl C) dx (ZdU f y vs))
   have G3:=ZcK F2.good hl (o:=.ins (X.cl.cl C) dx (ZdU f y vs)) (c:=.ins C (ZaC f dy fs)) ⟨dx,_,Z9,(h2.put (ry.ext E2.toExtS)).ext E3.toExtS⟩
   exact w2 _ _ _ E3.toExtS (F2.ext E3 G3)
  ·rw [if_neg hC] at w2
   exact w2.elim
structure MMk (P:Program) (w:World) (K:PySem.W.Frag) (mg:Str->Option Value) (base:Heap) (k:Nat) (C:Str) (f:GM):Prop where
 ex:∃(fI:Addr) (fd:FuncData) (ps:List Str),Mk K (Zai mg C) fI/\FnOk P w K mg base CX0 k fI fd ps (spM ⟨Zai mg,K⟩ f)/\Binds K fd ps []
 mg:mg C=some (.ref (Zai mg C))
noncomputable def mkG (C:Str) (f:GM):GM:=fun vs θ=>(f (.ref θ.length::vs) (θ++[.ins C []])).bind fun v θ'=>match v with
 | .non=>.ok (.ref θ.length) θ'
 | _=>.bad
theorem wpR.made {σ:St} {B:Bx} {θ:Sto} {H:Hp} {C:Str} {f:GM} {ds:List D} {vs:List V} {Q:VK} {E:XK} (G:Good X.cl B θ H) (r:RepL B H ds vs) (w:wpR X σ RepV B H (mkG C f ds θ) Q) :
  ∀x dx,H x=none->H dx=none->dx≠x->spM X.cl f (.ref x::(vs++[])) (upd (upd H dx (.own x)) x (.ins (X.cl.cl C) dx [])) (fun v H2=>v=.non/\Q (.ref x) H2) E:=by
 intro x dx hx hdx ne
 have E1:=ZcZ G hdx (.own x)
 have G1:=ZeY G hdx (.own x)
 have hx1:upd H dx (.own x) x=none:=by rw [ZM (Ne.symm ne)]; exact hx
 have E2:=ZdY G1 hx1 (.ins (X.cl.cl C) dx [])
 have G2:Good X.cl (B.push x) (θ++[.ins C []]) _:=Zfq G1 hx1 (o:=.ins (X.cl.cl C) dx []) (c:=.ins C []) ⟨dx,[],Z9,.nil⟩
 have rx:RepV (B.push x) (upd (upd H dx (.own x)) x (.ins (X.cl.cl C) dx [])) (.ref θ.length) (.ref x):=⟨by rw [G.len]; exact YC _,by rw [G.len]; show V.ref x=V.ref (if B.n=B.n then x else B.m B.n); rw [if_pos rfl]⟩
 rw [YV]
 refine Zl5 (σ:=σ) G2 (show RepL _ _ (.ref θ.length::ds) (.ref x::vs) from ⟨_,_,rfl,rx,r.ext (E1.trans E2).toExtS⟩) ?_
 have w1:=wpR.trans w (E1.trans E2)
 refine (wpR.bind (Rel:=RepV) w1).mono ?_
 rintro v H3 ⟨B3,θ3,d,E3,G3,rd,w3⟩
 cases d with
 | non=>exact ⟨rd,ZU G3 (rx.ext E3.toExtS) w3⟩
 | _=>exact w3.elim
theorem Zq8 {k j:Nat} {x:Str} {f:GM} {p pos:Pos} {e:Expr} {es:List Expr} {fs:AM} (M:MMk X.prog X.w X.K X.mg X.base k x f) (hr:Room j X.A) (hj:k+1<=j) (ha:MA X (e::es) fs) (hg:Gl X x:=by rfl) (hdb:(x == ("__debug__":Str))=false:=by decide)
  (he:starEach (e::es) X.env=(false,eval e X.env)::starEach es X.env:=by rfl) (hpl:(backTo pos (starEach es X.env)).any (·.1)=false:=by rfl):ME X (.Call (.Name x p) (e::es) [] pos) (mCB (mkG x f) fs):=by
 obtain ⟨fI,fd,ps,m,F0,b⟩:=M.ex
 refine PE.imp (ZqS m F0 (hr.mono hj) hg M.mg b .nil ZnR ha hdb he hpl) fun σ H Q h=>?_
 obtain ⟨B,θ,ρ,F,w⟩:=h
 refine ZbG (ZgZ F w) ?_
 rintro vs H1 ⟨B1,θ1,ds,E1,F1,rd,w1⟩
 exact wpR.made F1.good rd w1
theorem Zkl {k j:Nat} {x:Str} {f:GM} {p pos:Pos} (M:MMk X.prog X.w X.K X.mg X.base k x f) (hr:Room j X.A) (hj:k+1<=j) (hg:Gl X x:=by rfl) (hdb:(x == ("__debug__":Str))=false:=by decide):ME X (.Call (.Name x p) [] [] pos) (mCB (mkG x f) Zi):=by
 obtain ⟨fI,fd,ps,m,F0,b⟩:=M.ex
 refine PE.imp (ZnI m F0 (hr.mono hj) hg M.mg b .nil ZnR hdb) fun σ H Q h=>?_
 obtain ⟨B,θ,ρ,F,w⟩:=h
 exact wpR.made (ds:=[]) (vs:=[]) F.good (show RepL B H [] [] from rfl) w
structure ZAN (P:Program) (w:World) (K:PySem.W.Frag) (mg:Str->Option Value) (base:Heap) (k:Nat) (C m:Str) (f:GM):Prop where
 ex:∃(fa:Addr) (fd:FuncData) (ps:List Str),ZAb K (Zai mg C) m fa/\FnOk P w K mg base CX0 k fa fd ps (spM ⟨Zai mg,K⟩ f)/\Binds K fd ps []
 cl:Cls K (Zai mg C)
instance {C C':Str} {gs:List (Str×D)} {m:Str}:Decidable (C'=C/\gs.lookup m=none):=by
 cases h:gs.lookup m with
 | none=>exact if e:C'=C then isTrue ⟨e,rfl⟩ else isFalse fun z=>e z.1
 | some _=>exact isFalse fun z=>nomatch z.2
theorem mmk {P:Program} {w:World} {K:PySem.W.Frag} {mg:Str->Option Value} {base:Heap} {x qual:Str} {st:Stmt} {N ps:List Str} {k:Nat} {fb:SM} {f:Addr} {fd:FuncData} {C:Str} (F:Fun K x qual st f fd) (S:Zp N ps (Zk st)) (np nn:Nat) (hp:ps.length=np) (hn:N.length=nn) (b:Binds K fd ps []) (M:Mk K (Zai mg C) f) (hm:mg C=some (.ref (Zai mg C)))
  (hbody:∀(cdv:Value) (A:Around) (outer:List Env) (s:Shared) (H:Hp) (E:XK),Room k (A.deeper (envOfC qual (Zk st) s.heap.objs.size f cdv))->MSs (ZhX CX0 P w K mg base N qual (Zk st) f cdv A outer s H E).nox (Zbz st) fb):MMk P w K mg base (k+1) C (ZQ np nn fb):=
 ⟨⟨f,fd,ps,M,mfn F S np nn hp hn hbody,b⟩,hm⟩
noncomputable def Zk7:EM:=fun _ θ=>.ok (.ref θ.length) (θ++[.dK []])
theorem Zn7 {pos:Pos}:ME X (.Dict [] [] pos) Zk7:=by
 refine PE.imp ZnM fun σ H Q h=>?_
 obtain ⟨B,θ,ρ,F,w⟩:=h
 intro p hp
 have G:=F.good
 exact w (B.push p) _ _ (ZdY G hp _) (Zfq G hp ⟨[],Z9,.nil⟩) ⟨by rw [G.len]; exact YC _,by rw [G.len]; show V.ref p=V.ref (if B.n=B.n then p else B.m B.n); rw [if_pos rfl]⟩
section
variable {ρ:List Sl} {θ:Sto} {fe fv fo:EM} {cs:List Str} {f:Str}
@[simp] theorem ZAr:ZD cs f fe ρ θ=(fe ρ θ).bind (zN cs f):=nr rfl
@[simp] theorem Zy0:ZA cs f fe fv ρ θ=(fv ρ θ).bind fun y θ=>(fe ρ θ).bind fun d θ=>match za cs f y d θ with
 | some θ'=>.ok (.nx,ρ) θ'
 | none=>.bad:=nr rfl
@[simp] theorem ZwS:Zk7 ρ θ=.ok (.ref θ.length) (θ++[.dK []]):=nr rfl
end
end
end L2.MM
namespace L2.MM
open PySem PySem.Spec PyProof.Rows PySem.SeqAt
def Mk0 (K:PySem.W.Frag) (mg:Str->Option Value) (C qual:Str) (st:Stmt) (ps:List Str):Prop:=
 ∃(f:Addr) (fd:FuncData),Fun K "__init__" qual st f fd/\Binds K fd ps []/\Mk K (Zai mg C) f/\mg C=some (.ref (Zai mg C))
theorem Zl4 {mg:Str->Option Value} {x:Str} {a:Addr} (h:mg x=some (.ref a)):Zai mg x=a:=by unfold Zai; rw [h]
theorem mk0 {P:Program} {w:World} {K:PySem.W.Frag} {mg:Str->Option Value} {base:Heap} {qual:Str} {st:Stmt} {N ps:List Str} {k:Nat} {fb:SM} {C:Str} (D:Mk0 K mg C qual st ps) (S:Zp N ps (Zk st)) (np nn:Nat) (hp:ps.length=np) (hn:N.length=nn)
  (hbody:∀(f:Addr) (cdv:Value) (A:Around) (outer:List Env) (s:Shared) (H:Hp) (E:XK),Room k (A.deeper (envOfC qual (Zk st) s.heap.objs.size f cdv))->MSs (ZhX CX0 P w K mg base N qual (Zk st) f cdv A outer s H E).nox (Zbz st) fb):MMk P w K mg base (k+1) C (ZQ np nn fb):=by
 obtain ⟨f,fd,F,b,M,hm⟩:=D
 exact mmk F S np nn hp hn b M hm (hbody f)
end L2.MM
namespace My
open PySem L2 L2.MM
noncomputable section
def Zgq:SM:=(ZbQ (ZC (mOp gtM (Zd 1) (mC (.int 65535)))) (Z5 1 (mOp zn (mOp zG (Zd 1) (mC (.int 65536))) (mOp Zen (Zd 1) (mC (.int 65536))))) 200)
def Zib:SM:=(Zr (Z5 1 (mOp zn (mOp Zeg (mC (.int 256)) (mCB Zmk (Zc (Zrc (Zd 0) Zaw Zaw (Zb4 (mC (.int 2)))) Zi))) (mCB Zmk (Zc (Zrc (Zd 0) (Zb4 (mC (.int 1))) Zaw (Zb4 (mC (.int 2)))) Zi))))
 (Zr Zgq
 (ZP (Zd 1))))
def Zdd:GM:=ZQ 1 2 Zib
def Zh3:SM:=(ZP (mOp Zdq (mC (.int 65535)) (mCB Zdd (Zc (Zd 0) Zi))))
def ZeO:GM:=ZQ 1 1 Zh3
def Zma:SM:=(ZP (Zf9 (ZC (mOp neM (mOp ZwK (Zd 0) (Zd 1)) (mC (.int 0)))) (mC (.int 1)) (mC (.int 0))))
def ZfA:GM:=ZQ 2 2 Zma
def Zh8:SM:=(Zr (Z5 1 (mOp ixM (Zd 0) (mC (.int 4))))
 (ZP (mOp zn (mOp zn (mCB Zdr (Zc (mOp ixM (Zd 0) (mC (.int 7))) Zi)) (mCB ZfA (Zc (Zd 1) (Zc (mC (.int 2)) Zi)))) (mCB ZfA (Zc (Zd 1) (Zc (mC (.int 1)) Zi))))))
def ZcH:GM:=ZQ 1 2 Zh8
def Zd3:SM:=(ZP (mOp Zeg (mC (.int 16)) (mOp Zen (Zd 0) (mC (.int 4)))))
def zY:GM:=ZQ 1 1 Zd3
def ZfE:SM:=(ZP (Zba (Zc (mOp zG (mOp Zen (Zd 0) (mC (.int 256))) (mC (.int 256))) (Zc (mOp zG (Zd 0) (mC (.int 256))) Zi))))
def zr:GM:=ZQ 1 1 ZfE
def Zfc:SM:=(ZP (mOp zn (mCB zr (Zc (mOp Zen (Zd 0) (mC (.int 65536))) Zi)) (mCB zr (Zc (Zd 0) Zi))))
def Zbw:GM:=ZQ 1 1 Zfc
def Zch:SM:=(Zr (Z5 1 (mOp zn (mCB zr (Zc (mOp ixM (Zd 0) (mC (.int 0))) Zi)) (mCB zr (Zc (mOp ixM (Zd 0) (mC (.int 1))) Zi))))
 (Zr (Z5 2 (mOp zn (mCB Zbw (Zc (mOp ixM (Zd 0) (mC (.int 2))) Zi)) (mCB Zbw (Zc (mOp ixM (Zd 0) (mC (.int 3))) Zi))))
 (Zr (Z5 3 (Zf9 (ZC (mOp eqM (mOp ixM (Zd 0) (mC (.int 6))) (mC (.int 0)))) (mC (.int 20)) (mC (.int 24))))
 (ZP (mOp zn (mOp zn (mOp zn (Zd 1) (Zd 2)) (Zba (Zc (mCB zY (Zc (Zd 3) Zi)) (Zc (mOp ixM (Zd 0) (mC (.int 4))) Zi)))) (mCB zr (Zc (mOp ixM (Zd 0) (mC (.int 5))) Zi)))))))
def zX:GM:=ZQ 1 4 Zch
def ZdF:SM:=(ZP (Zf9 (ZC (mOp eqM (Zd 0) (mC (.int 0)))) (Zba Zi) (mOp zn (Zba (Zc (mC (.int 2)) (Zc (mC (.int 4)) Zi))) (mCB zr (Zc (Zd 0) Zi)))))
def Za9:GM:=ZQ 1 1 ZdF
def Zl9:SM:=(Zr (Z5 1 (mCB zX (Zc (Zd 0) Zi)))
 (Zr (Z5 2 (mOp zn (mOp zn (Zba (Zc (mC (.int 0)) (Zc (mC (.int 0)) Zi))) (mCB Za9 (Zc (mOp ixM (Zd 0) (mC (.int 6))) Zi))) (mCB ZlU (Zc (mOp ixM (Zd 0) (mC (.int 7))) Zi))))
 (ZP (mOp zn (mOp zn (Zd 1) (mCB zr (Zc (mCB ZeO (Zc (mOp zn (mOp zn (Zd 1) (Zba (Zc (mC (.int 0)) (Zc (mC (.int 0)) Zi)))) (Zd 2)) Zi)) Zi))) (Zd 2)))))
def Zj7:GM:=ZQ 1 3 Zl9
def Zg8:SM:=(ZP (mOp Zeg (mOp Zen (mOp ixM (Zd 0) (mC (.int 12))) (mC (.int 16))) (mC (.int 4))))
def Zbv:GM:=ZQ 1 1 Zg8
noncomputable def Zh2:SM:=(ZP (mOp zn (mOp Zeg (mC (.int 256)) (mOp ixM (Zd 0) (Zd 1))) (mOp ixM (Zd 0) (mOp zn (Zd 1) (mC (.int 1))))))
noncomputable def Zan:GM:=ZQ 2 2 Zh2
def Zce:SM:=(ZP (Zdf (mOp eqM (mCB ZfA (Zc (mOp ixM (Zd 0) (mC (.int 13))) (Zc (mC (.int 2)) Zi))) (mC (.int 1))) (Zdf (mOp eqM (mOp ixM (Zd 0) (mC (.int 20))) (mC (.int 2))) (Zdf (mOp eqM (mOp ixM (Zd 0) (mC (.int 21))) (mC (.int 4))) (mOp geM (mCB Zan (Zc (Zd 0) (Zc (mC (.int 22)) Zi))) (mC (.int 4)))))))
def zW:GM:=ZQ 1 1 Zce
def ZbB:SM:=(ZP (Zdf (mOp geM (mCB Zdr (Zc (Zd 0) Zi)) (mC (.int 20))) (Zdf (mOp inM (mOp ixM (Zd 0) (mC (.int 12))) (Zbj (Zc (mCB zY (Zc (mC (.int 20)) Zi)) (Zc (mCB zY (Zc (mC (.int 24)) Zi)) Zi)))) (Zdf (mOp leM (mOp ixM (Zd 0) (mC (.int 13))) (mC (.int 31))) (Zdf (ZgH leM leM (mC (.int 0)) (mOp Zdq (mCB Zdr (Zc (Zd 0) Zi)) (mCB Zbv (Zc (Zd 0) Zi))) (mC (.int 16))) (Zdf (mOp eqM (mCB Zan (Zc (Zd 0) (Zc (mC (.int 18)) Zi))) (mC (.int 0))) (Zdf (ZmF (mOp eqM (mCB Zbv (Zc (Zd 0) Zi)) (mC (.int 20))) (mCB zW (Zc (Zd 0) Zi))) (mOp eqM (mCB Zdd (Zc (Zd 0) Zi)) (mC (.int 65535))))))))))
def Zap:GM:=ZQ 1 1 ZbB
noncomputable def Zg9:SM:=(ZP (mOp zn (mOp Zeg (mC (.int 65536)) (mCB Zan (Zc (Zd 0) (Zc (Zd 1) Zi)))) (mCB Zan (Zc (Zd 0) (Zc (mOp zn (Zd 1) (mC (.int 2))) Zi)))))
noncomputable def Zc4:GM:=ZQ 2 2 Zg9
def ZgR:SM:=(mIf (ZeV (zV (mCB Zap (Zc (Zd 0) Zi)))) Zrd ZN)
def ZjD:SM:=(Zr ZgR
 (Zr (Z5 1 (mCB Zbv (Zc (Zd 0) Zi)))
 (Zr (Z5 2 (Zf9 (ZC (mOp eqM (Zd 1) (mC (.int 24)))) (mCB Zan (Zc (Zd 0) (Zc (mC (.int 22)) Zi))) (mC (.int 0))))
 (Zr (Z5 3 (Zbj (Zc (mCB Zan (Zc (Zd 0) (Zc (mC (.int 0)) Zi))) (Zc (mCB Zan (Zc (Zd 0) (Zc (mC (.int 2)) Zi))) Zi))))
 (Zr (Z5 4 (Zbj (Zc (mCB Zc4 (Zc (Zd 0) (Zc (mC (.int 4)) Zi))) (Zc (mCB Zc4 (Zc (Zd 0) (Zc (mC (.int 8)) Zi))) Zi))))
 (ZP (mOp zn (mOp zn (Zd 3) (Zd 4)) (Zbj (Zc (mOp ixM (Zd 0) (mC (.int 13))) (Zc (mCB Zan (Zc (Zd 0) (Zc (mC (.int 14)) Zi))) (Zc (Zd 2) (Zc (mCB ZhD (Zc (mSl (Zd 0) (Zb4 (Zd 1)) Zaw) Zi)) Zi))))))))))))
def ZiA:GM:=ZQ 1 5 ZjD
def ZfS:SM:=(mIf (zV (Zd 0)) (ZP (mOp ixM (Zd 0) (mOp zG (Zd 1) (mCB Zdr (Zc (Zd 0) Zi))))) ZN)
def Zig:SM:=(Zr ZfS
 (ZP (mC (.int 0))))
def ZgK:GM:=ZQ 2 2 Zig
def Zmb:SM:=(Zr (Z5 2 (mOp zG (mOp zn (mCB ZgK (Zc (Zd 0) (Zc (Zd 1) Zi))) (mOp Zeg (mC (.int 104729)) (mOp zn (Zd 1) (mC (.int 1))))) (mC (.int 4294967291))))
 (Zr (Z5 2 (mOp zG (mOp Zeg (Zd 2) (mC (.int 48271))) (mC (.int 4294967279))))
 (ZP (mOp zG (mOp zn (mOp Zeg (mOp Zen (Zd 2) (mC (.int 64))) (mC (.int 69621))) (Zd 2)) (mC (.int 4294967231))))))
def ZaF:GM:=ZQ 2 3 Zmb
noncomputable def cell (ns:List Int) (k:Int):Int:=if ns.length=0 then 0 else ns.getD (k % (ns.length:Int)).toNat 0
noncomputable def mix (ns:List Int) (k:Int):Int:=
 ((cell ns k+104729*(k+1)) % 4294967291*48271 % 4294967279/64*69621+(cell ns k+104729*(k+1)) % 4294967291*48271 % 4294967279) % 4294967231
theorem Zn4 (ns:List Int) (k:Int):0<=mix ns k/\mix ns k<4294967231:=by
 unfold mix; omega
theorem ZrC {ns:List Int} {k:Int} (h:0<ns.length):atI (ns.map D.int) (k % (ns.length:Int))=some (.int (cell ns k)):=by
 have a:=Int.emod_nonneg k (show (ns.length:Int)≠0 by omega)
 have b:=Int.emod_lt_of_pos k (show (0:Int)<ns.length by omega)
 have c:(k % (ns.length:Int))=(((k % (ns.length:Int)).toNat:Nat):Int):=by omega
 rw [c]
 refine Zgr ?_
 have d:(k % (ns.length:Int)).toNat<ns.length:=by omega
 rw [Yr,List.getElem?_eq_getElem d]
 unfold cell
 rw [if_neg (by omega),List.getD_eq_getElem?_getD,List.getElem?_eq_getElem d]
 rfl
@[simp] theorem Zzl (ns:List Int) (k:Int) (θ:Sto):ZgK [.scr ns,.int k] θ=.ok (.int (cell ns k)) θ:=by
 by_cases h:ns.length=0
 ·have:ns=[]:=List.eq_nil_of_length_eq_zero h
  subst this
  simp [ZgK,Zig,ZfS,cell]
 ·have h1:ns.isEmpty=false:=by cases ns with
   | nil=>exact absurd rfl h
   | cons _ _=>rfl
  have h2:0<ns.length:=by omega
  simp [ZgK,Zig,ZfS,h1,h2,ZrC (k:=k) h2]
@[simp] theorem ZAw (ns:List Int) (k:Int) (θ:Sto):ZaF [.scr ns,.int k] θ=.ok (.int (mix ns k)) θ:=by
 simp [ZaF,Zmb,ZfT,mix]
theorem Zho {t:TMr} {body:SM} {n:Nat} {ρ:List Sl} {θ:Sto}:ZbQ t body (n+1) ρ θ=(t ρ θ).bind fun k θ=>if k=true then (body ρ θ).bind (Zg1 (ZbQ t body n)) else .ok (.nx,ρ) θ:=rfl
abbrev Zr9:TMr:=ZC (mOp gtM (Zd 1) (mC (.int 65535)))
abbrev Zsa:SM:=Z5 1 (mOp zn (mOp zG (Zd 1) (mC (.int 65536))) (mOp Zen (Zd 1) (mC (.int 65536))))
theorem Zld (t:Int) (x:Sl) (r:List Sl) (θ:Sto):Zr9 (x::.val (.int t)::r) θ=.ok (decide (65535<t)) θ:=by simp
theorem Zoq (t:Int) (x:Sl) (r:List Sl) (θ:Sto):Zsa (x::.val (.int t)::r) θ=.ok (.nx,x::.val (.int (t % 65536+t/65536))::r) θ:=by simp
theorem Zqp {t:Int} (n:Nat) (h0:0<=t) (h1:t<4294967296) (x:Sl) (r:List Sl) (θ:Sto):ZbQ Zr9 Zsa (n+3) (x::.val (.int t)::r) θ=.ok (.nx,x::.val (.int (ZbM t))::r) θ:=by
 rw [Zho,Zld,R.bind_ok]
 by_cases c1:65535<t
 ·have s1:=ZiO c1
  rw [if_pos (by simpa using c1),Zoq,R.bind_ok,ZbX]
  have hu:t % 65536+t/65536<=131070:=by omega
  generalize t % 65536+t/65536=u at s1 hu
  rw [Zho,Zld,R.bind_ok]
  by_cases c2:65535<u
  ·have s2:=ZiO c2
   rw [if_pos (by simpa using c2),Zoq,R.bind_ok,ZbX]
   have hv:u % 65536+u/65536<=65535:=by omega
   generalize u % 65536+u/65536=v at s2 hv
   rw [Zho,Zld,R.bind_ok,if_neg (by simp; omega),<-s1.1,<-s2.1,ZfN s2.2.1 hv]
  ·rw [if_neg (by simpa using c2),<-s1.1,ZfN s1.2.1 (by omega)]
 ·rw [if_neg (by simpa using c1),ZfN h0 (by omega)]
theorem Zmg {t:Int} (h0:0<=t) (h1:t<4294967296) (x:Sl) (r:List Sl) (θ:Sto):ZbQ (ZC (mOp gtM (Zd 1) (mC (.int 65535)))) (Z5 1 (mOp zn (mOp zG (Zd 1) (mC (.int 65536))) (mOp Zen (Zd 1) (mC (.int 65536))))) 200 (x::.val (.int t)::r) θ=.ok (.nx,x::.val (.int (ZbM t))::r) θ:=Zqp 197 h0 h1 x r θ
def Byt (ns:List Int):Prop:=(∀z∈ns,0<=z/\z<=255)/\ns.length<=1000
theorem Zlj:∀{ns:List Int} {m:Nat},(∀z∈ns,0<=z/\z<=255)->ns.length<=2*m->Zac ns<=65535*m
 | [],m,_,_=>by simp [Zac]; omega
 | [a],m,h,hl=>by
  have:=h a (by simp)
  simp [Zac] at hl ⊢
  omega
 | a::b::r,m,h,hl=>by
  have h1:=h a (by simp)
  have h2:=h b (by simp)
  obtain ⟨m,rfl⟩:∃k,m=k+1:=⟨m-1,by simp at hl; omega⟩
  have:=Zlj (ns:=r) (m:=m) (fun z hz=>h z (by simp [hz])) (by simp at hl; omega)
  simp [Zac]
  omega
theorem Byt.sum {ns:List Int} (h:Byt ns):0<=Zac ns/\Zac ns<4294967296:=by
 refine ⟨Zli fun z hz=>(h.1 z hz).1,?_⟩
 have:=Zlj (m:=500) h.1 (by have:=h.2; omega)
 omega
theorem ZjR {ns:List Int} (h:Byt ns) (θ:Sto):Zdd [il ns] θ=.ok (.int (ZbM (Zac ns))) θ:=by
 have l1:=ZiQ ns
 have l2:=Zj8 ns
 have l3:=h.2
 have hs:=h.sum
 have e:=Zlk ns
 simp [Zdd,Zib,Zgq,ZgB,ZfT,show (ZeD ns).length<=100000 by omega,show (ZhI ns).length<=100000 by omega,e]
 rw [Zmg hs.1 hs.2]
 simp
theorem Znc {ns:List Int} (h:Byt ns) (θ:Sto):ZeO [il ns] θ=.ok (.int (65535-ZbM (Zac ns))) θ:=by
 simp [ZeO,Zh3,ZjR h]
structure Seg where
 src:Int
 goal:Int
 num:Int
 ans:Int
 flags:Int
 win:Int
 most:Int
 data:List Int
noncomputable def Seg.d (s:Seg):D:=.tup [.int s.src,.int s.goal,.int s.num,.int s.ans,.int s.flags,.int s.win,.int s.most,itp s.data]
structure Seg.Ok (s:Seg):Prop where
 src:0<=s.src/\s.src<=65535
 goal:0<=s.goal/\s.goal<=65535
 num:0<=s.num/\s.num<=4294967295
 ans:0<=s.ans/\s.ans<=4294967295
 flags:0<=s.flags/\s.flags<=31
 win:0<=s.win/\s.win<=65535
 most:s.most=0\/(4<=s.most/\s.most<=65535/\s.flags/2 % 2=1)
 data:(∀z∈s.data,0<=z/\z<=255)/\s.data.length<=16
section
variable {s:Seg} {θ:Sto}
@[simp] theorem d0:ixM s.d (.int 0) θ=.ok (.int s.src) θ:=nr rfl
@[simp] theorem d1:ixM s.d (.int 1) θ=.ok (.int s.goal) θ:=nr rfl
@[simp] theorem d2:ixM s.d (.int 2) θ=.ok (.int s.num) θ:=nr rfl
@[simp] theorem d3:ixM s.d (.int 3) θ=.ok (.int s.ans) θ:=nr rfl
@[simp] theorem d4:ixM s.d (.int 4) θ=.ok (.int s.flags) θ:=nr rfl
@[simp] theorem d5:ixM s.d (.int 5) θ=.ok (.int s.win) θ:=nr rfl
@[simp] theorem d6:ixM s.d (.int 6) θ=.ok (.int s.most) θ:=nr rfl
@[simp] theorem d7:ixM s.d (.int 7) θ=.ok (itp s.data) θ:=nr rfl
end
noncomputable def two (k:Int):List Int:=[k/256 % 256,k % 256]
noncomputable def ZmO (k:Int):List Int:=two (k/65536)++two k
noncomputable def hd (s:Seg):Int:=if s.most=0 then 80 else 96
noncomputable def Zb8 (s:Seg):List Int:=two s.src++two s.goal++(ZmO s.num++ZmO s.ans)++[hd s,s.flags]++two s.win
noncomputable def Zdv (m:Int):List Int:=if m=0 then [] else [2,4]++two m
def Qs (s:Seg):List Int:=[0,0]++Zdv s.most++s.data
noncomputable def putL (s:Seg):List Int:=Zb8 s++two (65535-ZbM (Zac (Zb8 s++[0,0]++Qs s)))++Qs s
@[simp] theorem ZrM (k:Int) (θ:Sto):zr [.int k] θ=.ok (il (two k)) θ:=by
 simp [zr,ZfE,two]
@[simp] theorem two_len (k:Int):(two k).length=2:=rfl
@[simp] theorem ZwB (k:Int):(ZmO k).length=4:=rfl
@[simp] theorem Zvk (s:Seg):(Zb8 s).length=16:=rfl
@[simp] theorem Zqo (k:Int) (θ:Sto):Zbw [.int k] θ=.ok (il (ZmO k)) θ:=by
 simp [Zbw,Zfc,ZmO]
@[simp] theorem Zng (k:Int) (θ:Sto):zY [.int k] θ=.ok (.int (16*(k/4))) θ:=by
 simp [zY,Zd3,ZfT]
@[simp] theorem ZmY (k:Int) (θ:Sto):Za9 [.int k] θ=.ok (il (Zdv k)) θ:=by
 by_cases h:k=0<;>simp [Za9,ZdF,Zdv,h,Zdg]
@[simp] theorem ZwY (s:Seg) (θ:Sto):zX [s.d] θ=.ok (il (Zb8 s)) θ:=by
 by_cases h:s.most=0<;>simp [zX,Zch,Zb8,hd,h]
theorem ZiF (m:Int):(Zdv m).length<=4:=by unfold Zdv; split<;>simp
theorem Zeq (k:Int):∀z∈two k,0<=z/\z<=255:=by
 intro z hz
 simp [two] at hz
 rcases hz with rfl | rfl<;>omega
theorem ZkH (k:Int):∀z∈ZmO k,0<=z/\z<=255:=by
 intro z hz
 rcases Yw.mp hz with h | h
 ·exact Zeq _ z h
 ·exact Zeq _ z h
theorem ZbN {a b:List Int} (h1:∀z∈a,0<=z/\z<=255) (h2:∀z∈b,0<=z/\z<=255):∀z∈a++b,0<=z/\z<=255:=fun z hz=>(Yw.mp hz).elim (h1 z) (h2 z)
theorem ZiS {s:Seg} (h:0<=s.flags/\s.flags<=255):∀z∈Zb8 s,0<=z/\z<=255:=by
 refine ZbN (ZbN (ZbN (ZbN (Zeq _) (Zeq _)) (ZbN (ZkH _) (ZkH _))) ?_) (Zeq _)
 intro z hz
 simp at hz
 rcases hz with rfl | rfl
 ·unfold hd; split<;>omega
 ·exact h
theorem ZoH (m:Int):∀z∈Zdv m,0<=z/\z<=255:=by
 unfold Zdv
 split
 ·intro z hz; simp at hz
 ·refine ZbN ?_ (Zeq _)
  intro z hz
  simp at hz
  omega
theorem Zh0 {s:Seg} (h:∀z∈s.data,0<=z/\z<=255):∀z∈Qs s,0<=z/\z<=255:=by
 refine ZbN (ZbN ?_ (ZoH _)) h
 intro z hz
 simp at hz
 omega
theorem ZfP (s:Seg):(Qs s).length<=6+s.data.length:=by
 have:=ZiF s.most
 simp [Qs]
 omega
structure Seg.Put (s:Seg):Prop where
 flags:0<=s.flags/\s.flags<=255
 data:(∀z∈s.data,0<=z/\z<=255)/\s.data.length<=100
theorem Seg.Ok.put {s:Seg} (h:s.Ok):s.Put:=⟨⟨h.flags.1,by have:=h.flags.2; omega⟩,h.data.1,by have:=h.data.2; omega⟩
theorem Seg.Put.byt {s:Seg} (h:s.Put):Byt (Zb8 s++[0,0]++Qs s):=by
 refine ⟨ZbN (ZbN (ZiS h.flags) ?_) (Zh0 h.data.1),?_⟩
 ·intro z hz
  simp at hz
  omega
 ·have:=ZfP s
  have:=h.data.2
  simp
  omega
theorem Zvy {s:Seg} (h:s.Put) (θ:Sto):Zj7 [s.d] θ=.ok (il (putL s)) θ:=by
 have b:=h.byt
 have l1:=ZiF s.most
 have l2:=h.data.2
 have l3:=ZfP s
 have e1:0::0::(Zdv s.most++s.data)=Qs s:=rfl
 have e2:=Znc b θ
 simp only [YF,List.cons_append,YW] at e2
 simp (disch:=first | done | (simp; done) | omega | (simp; omega)) [Zj7,Zl9,Zrj,-Zoj,e1,e2]
 simp [putL,show 18+(Qs s).length<=100000 by omega]
theorem Zhw {a b c:List Int} (ha:a.length % 2=0) (hb:b.length % 2=0):Zac (a++b++c)=Zac a+Zac b+Zac c:=by
 rw [Zhx (by rw [Yj]; omega),Zhx ha]
theorem Znw {s:Seg} (h:s.Put):ZbM (Zac (putL s))=65535:=by
 have b:=h.byt
 have w0:=b.sum
 have e1:Zac (putL s)=Zac (Zb8 s)+Zac (two (65535-ZbM (Zac (Zb8 s++[0,0]++Qs s))))+Zac (Qs s):=Zhw (by simp) (by simp)
 have e2:Zac (Zb8 s++[0,0]++Qs s)=Zac (Zb8 s)+Zac [0,0]+Zac (Qs s):=Zhw (by simp) (by simp)
 have e3:Zac [0,0]=0:=by simp [Zac]
 have f:=Zrr w0.1
 have e4:Zac (two (65535-ZbM (Zac (Zb8 s++[0,0]++Qs s))))=256*((65535-ZbM (Zac (Zb8 s++[0,0]++Qs s)))/256)+(65535-ZbM (Zac (Zb8 s++[0,0]++Qs s))) % 256:=by
  have:=f.2.1
  have:=f.1
  simp only [Zac,two]
  omega
 have c:=Zlc w0.1
 rw [e1,e4]
 rw [e3] at e2
 have:Zac (Zb8 s)+(256*((65535-ZbM (Zac (Zb8 s++[0,0]++Qs s)))/256)+(65535-ZbM (Zac (Zb8 s++[0,0]++Qs s))) % 256)+Zac (Qs s)=Zac (Zb8 s++[0,0]++Qs s)+(256*((65535-ZbM (Zac (Zb8 s++[0,0]++Qs s)))/256)+(65535-ZbM (Zac (Zb8 s++[0,0]++Qs s))) % 256):=by omega
 rw [this]
 exact c
theorem ZqG {s:Seg} (h:s.Put):Byt (putL s):=by
 refine ⟨ZbN (ZbN (ZiS h.flags) (Zeq _)) (Zh0 h.data.1),?_⟩
 have:=ZfP s
 have:=h.data.2
 simp [putL]
 omega
theorem ZlA {s:Seg}:(putL s).length=(if s.most=0 then 20 else 24)+s.data.length:=by
 unfold putL Qs Zdv
 by_cases h:s.most=0<;>simp [h]<;>omega
theorem ZkY (s:Seg):∃x y,putL s=[s.src/256 % 256,s.src % 256,s.goal/256 % 256,s.goal % 256,s.num/65536/256 % 256,s.num/65536 % 256,s.num/256 % 256,s.num % 256,
  s.ans/65536/256 % 256,s.ans/65536 % 256,s.ans/256 % 256,s.ans % 256,hd s,s.flags,s.win/256 % 256,s.win % 256,x,y,0,0]++(Zdv s.most++s.data):=⟨_,_,rfl⟩
@[simp] theorem ZcF {a:List Int} {i:Int} (h0:0<=i) (h:i+1<a.length) (θ:Sto):Zan [il a,.int i] θ=.ok (.int (256*gt a i.toNat+gt a (i+1).toNat)) θ:=by
 simp [Zan,Zh2,ZeX (θ:=θ) h0 (show i<a.length by omega),ZeX (θ:=θ) (show 0<=i+1 by omega) h,ZfT]
@[simp] theorem Zit {a:List Int} {i:Int} (h0:0<=i) (h:i+3<a.length) (θ:Sto):Zc4 [il a,.int i] θ=.ok (.int (65536*(256*gt a i.toNat+gt a (i+1).toNat)+(256*gt a (i+2).toNat+gt a (i+2+1).toNat))) θ:=by
 simp [Zc4,Zg9,ZcF (θ:=θ) h0 (show i+1<a.length by omega),ZcF (θ:=θ) (show 0<=i+2 by omega) (show i+2+1<a.length by omega),ZfT]
@[simp] theorem Zir {a:List Int} (h:12<a.length) (θ:Sto):Zbv [il a] θ=.ok (.int (gt a 12/16*4)) θ:=by
 have:=ZeX (a:=a) (θ:=θ) (i:=12) (by decide) (by omega)
 simp [Zbv,Zg8,this,ZfT]
noncomputable def bit (f k:Int):Int:=if Builtin.bitAnd f k=0 then 0 else 1
@[simp] theorem ZAx (f k:Int) (θ:Sto):ZfA [.int f,.int k] θ=.ok (.int (bit f k)) θ:=by
 by_cases h:Builtin.bitAnd f k=0<;>simp [ZfA,Zma,bit,h]
theorem ZrA:∀n:Fin 32,bit (n.val:Int) 1=(n.val:Int) % 2/\bit (n.val:Int) 2=(n.val:Int)/2 % 2/\bit (n.val:Int) 4=(n.val:Int)/4 % 2/\bit (n.val:Int) 8=(n.val:Int)/8 % 2/\bit (n.val:Int) 16=(n.val:Int)/16 % 2:=by decide
theorem Zz7 {f:Int} (h:0<=f/\f<=31):bit f 1=f % 2/\bit f 2=f/2 % 2/\bit f 4=f/4 % 2/\bit f 8=f/8 % 2/\bit f 16=f/16 % 2:=by
 have:=ZrA ⟨f.toNat,by omega⟩
 simp only at this
 rw [show ((f.toNat:Nat):Int)=f by omega] at this
 exact this
theorem Zne (s:Seg) (θ:Sto):ZcH [s.d] θ=.ok (.int (s.data.length+bit s.flags 2+bit s.flags 1)) θ:=by
 simp [ZcH,Zh8]
noncomputable def at2 (a:List Int) (i:Nat):Int:=256*gt a i+gt a (i+1)
noncomputable def at4 (a:List Int) (i:Nat):Int:=65536*at2 a i+at2 a (i+2)
noncomputable def longOk (a:List Int):Bool:=decide (bit (gt a 13) 2=1) && (decide (gt a 20=2) && (decide (gt a 21=4) && decide (4<=at2 a 22)))
noncomputable def Zcm (a:List Int):Int:=gt a 12/16*4
noncomputable def Za6 (a:List Int):Bool:=decide (20<=a.length) && (decide (gt a 12=80\/gt a 12=96) && (decide (gt a 13<=31) && (decide (0<=(a.length:Int)-Zcm a/\(a.length:Int)-Zcm a<=16) &&
 (decide (at2 a 18=0) && ((decide (Zcm a=20) || longOk a) && decide (ZbM (Zac a)=65535))))))
theorem ZtL {a:List Int} (h:24<=a.length) (θ:Sto):zW [il a] θ=.ok (.bl (longOk a)) θ:=by
 have g:=fun (i:Int) (h0:0<=i) (h1:i<a.length)=>ZeX (a:=a) (θ:=θ) (i:=i) h0 h1
 have g13:=g 13 (by decide) (by omega)
 have g20:=g 20 (by decide) (by omega)
 have g21:=g 21 (by decide) (by omega)
 have g22:=ZcF (a:=a) (i:=22) (by decide) (by omega) θ
 simp only [show (13:Int).toNat=13 from rfl,show (20:Int).toNat=20 from rfl,show (21:Int).toNat=21 from rfl,show (22:Int).toNat=22 from rfl,show (22+1:Int).toNat=23 from rfl] at g13 g20 g21 g22
 unfold longOk at2
 simp [zW,Zce,g13,g20,g21,g22]
theorem Zri (x y z:Int) (θ:Sto):inM (.int x) (.tup [.int y,.int z]) θ=.ok (.bl (decide (x=y\/x=z))) θ:=by
 have e:inD θ (.int x) (.tup [.int y,.int z])=some (decide (y=x) || (decide (z=x) || false)):=rfl
 have e2:(decide (y=x) || (decide (z=x) || false))=decide (x=y\/x=z):=by
  rw [Jb]
  simp only [YO,decide_eq_true_eq,Y1,or_false]
  constructor
  ·rintro (h | h)
   ·exact .inl h.symm
   ·exact .inr h.symm
  ·rintro (h | h)
   ·exact .inl h.symm
   ·exact .inr h.symm
 unfold inM
 rw [e,e2]
theorem Zc6 {a:List Int} (h:Byt a) (θ:Sto):Zap [il a] θ=.ok (.bl (Za6 a)) θ:=by
 by_cases c1:20<=a.length
 ·have g:=fun (i:Int) (h0:0<=i) (h1:i<a.length)=>ZeX (a:=a) (θ:=θ) (i:=i) h0 h1
  have g12:=g 12 (by decide) (by omega)
  have g13:=g 13 (by decide) (by omega)
  have g18:=ZcF (a:=a) (i:=18) (by decide) (by omega) θ
  have gh:=Zir (a:=a) (by omega) θ
  have gf:=ZjR h θ
  have c1':(20:Int)<=a.length:=by omega
  simp only [show (12:Int).toNat=12 from rfl,show (13:Int).toNat=13 from rfl,show (18:Int).toNat=18 from rfl,show (18+1:Int).toNat=19 from rfl] at g12 g13 g18
  by_cases c2:gt a 12=80
  ·rw [c2] at g12 gh
   simp [Zap,ZbB,Za6,Zcm,at2,c1,c1',g12,g13,g18,gh,gf,Zri,c2]<;>rfl
  ·by_cases c3:gt a 12=96
   ·rw [c3] at g12 gh
    by_cases c4:24<=a.length
    ·have gl:=ZtL c4 θ
     simp [Zap,ZbB,Za6,Zcm,at2,c1,c1',g12,g13,g18,gh,gf,Zri,c3,gl]<;>rfl
    ·have c5:¬(24:Int)<=(a.length:Int):=by omega
     simp [Zap,ZbB,Za6,Zcm,at2,c1,c1',g12,g13,g18,gh,gf,Zri,c3,c5]<;>rfl
   ·simp [Zap,ZbB,Za6,Zcm,at2,c1,c1',g12,g13,g18,gh,gf,Zri,c2,c3]
 ·have c1':¬(20:Int)<=a.length:=by omega
  simp [Zap,ZbB,Za6,c1,c1']
noncomputable def Zcb (a:List Int):Seg:=⟨at2 a 0,at2 a 2,at4 a 4,at4 a 8,gt a 13,at2 a 14,if Zcm a=24 then at2 a 22 else 0,a.drop (Zcm a).toNat⟩
theorem Zkp {a:List Int} (h:Za6 a=true):20<=a.length/\((Zcm a=20)\/(Zcm a=24/\24<=a.length/\longOk a=true))/\(a.length:Int)-Zcm a<=16/\gt a 13<=31:=by
 unfold Za6 at h
 simp only [Yt,decide_eq_true_eq,YO] at h
 obtain ⟨h1,h2,h3,h4,h5,h6,h7⟩:=h
 refine ⟨h1,?_,h4.2,h3⟩
 rcases h2 with h2 | h2
 ·left; unfold Zcm; rw [h2]; rfl
 ·right
  have e:Zcm a=24:=by unfold Zcm; rw [h2]; rfl
  refine ⟨e,by have:=h4.1; rw [e] at this; omega,?_⟩
  rcases h6 with h6 | h6
  ·rw [e] at h6; cases h6
  ·exact h6
theorem Zlr {a:List Int} (h:Byt a) (hr:Za6 a=true) (θ:Sto):ZiA [il a] θ=.ok (Zcb a).d θ:=by
 obtain ⟨l1,l2,l3,l4⟩:=Zkp hr
 have ir:=Zc6 h θ
 rw [hr] at ir
 have gh:=Zir (a:=a) (by omega) θ
 have g13:=ZeX (a:=a) (θ:=θ) (i:=13) (by decide) (by omega)
 have q0:=ZcF (a:=a) (i:=0) (by decide) (by omega) θ
 have q2:=ZcF (a:=a) (i:=2) (by decide) (by omega) θ
 have q14:=ZcF (a:=a) (i:=14) (by decide) (by omega) θ
 have q4:=Zit (a:=a) (i:=4) (by decide) (by omega) θ
 have q8:=Zit (a:=a) (i:=8) (by decide) (by omega) θ
 simp only [show (13:Int).toNat=13 from rfl,show (0:Int).toNat=0 from rfl,show (0+1:Int).toNat=1 from rfl,show (2:Int).toNat=2 from rfl,show (2+1:Int).toNat=3 from rfl,show (14:Int).toNat=14 from rfl,show (14+1:Int).toNat=15 from rfl,
  show (4:Int).toNat=4 from rfl,show (4+1:Int).toNat=5 from rfl,show (4+2:Int).toNat=6 from rfl,show (4+2+1:Int).toNat=7 from rfl,show (8:Int).toNat=8 from rfl,show (8+1:Int).toNat=9 from rfl,show (8+2:Int).toNat=10 from rfl,show (8+2+1:Int).toNat=11 from rfl] at g13 q0 q2 q14 q4 q8
 have gh':Zbv [il a] θ=.ok (.int (Zcm a)) θ:=gh
 have ps:∀x:Int,0<=x->ZbA a (some x) none=a.drop x.toNat:=fun x hx=>Zdh a hx
 rcases l2 with e | ⟨e,l5,_⟩
 ·simp [ZiA,ZjD,ZgR,ir,gh',e,g13,q0,q2,q4,q8,q14,ps,Zcb,Seg.d,at2,at4]
 ·have q22:=ZcF (a:=a) (i:=22) (by decide) (by omega) θ
  simp only [show (22:Int).toNat=22 from rfl,show (22+1:Int).toNat=23 from rfl] at q22
  simp [ZiA,ZjD,ZgR,ir,gh',e,g13,q0,q2,q4,q8,q14,q22,ps,Zcb,Seg.d,at2,at4]
theorem Znv (s:Seg):gt (putL s) 12=hd s/\gt (putL s) 13=s.flags/\at2 (putL s) 18=0/\at2 (putL s) 0=256*(s.src/256 % 256)+s.src % 256/\at2 (putL s) 2=256*(s.goal/256 % 256)+s.goal % 256/\
  at4 (putL s) 4=65536*(256*(s.num/65536/256 % 256)+s.num/65536 % 256)+(256*(s.num/256 % 256)+s.num % 256)/\at4 (putL s) 8=65536*(256*(s.ans/65536/256 % 256)+s.ans/65536 % 256)+(256*(s.ans/256 % 256)+s.ans % 256)/\
  at2 (putL s) 14=256*(s.win/256 % 256)+s.win % 256:=by
 obtain ⟨x,y,e⟩:=ZkY s
 rw [e]
 unfold at4 at2
 refine ⟨rfl,rfl,?_,rfl,rfl,rfl,rfl,rfl⟩
 show 256*(0:Int)+0=0
 rfl
theorem Zj5 (s:Seg) (h:s.most≠0):gt (putL s) 20=2/\gt (putL s) 21=4/\at2 (putL s) 22=256*(s.most/256 % 256)+s.most % 256:=by
 obtain ⟨x,y,e⟩:=ZkY s
 have e2:Zdv s.most=[2,4,s.most/256 % 256,s.most % 256]:=by unfold Zdv; rw [if_neg h]; rfl
 rw [e,e2]
 unfold at2
 exact ⟨rfl,rfl,rfl⟩
theorem Zms {s:Seg} (h:s.Ok):Za6 (putL s)=true:=by
 obtain ⟨g12,g13,g18,_⟩:=Znv s
 have hl:=ZlA (s:=s)
 have hd':=h.data.2
 have hf:=Znw h.put
 have hw:=h.flags
 unfold Za6 longOk Zcm
 simp only [Yt,decide_eq_true_eq,YO]
 rw [g12,g13,g18,hf,hl]
 by_cases m:s.most=0
 ·have e:hd s=80:=if_pos m
  rw [e,if_pos m]
  simp
  omega
 ·have e:hd s=96:=if_neg m
  obtain ⟨p1,p2,p3⟩:=Zj5 s m
  have hm:4<=s.most/\s.most<=65535/\s.flags/2 % 2=1:=h.most.resolve_left m
  have hb:=(Zz7 h.flags).2.1
  rw [e,if_neg m,p1,p2,p3,hb]
  simp
  omega
theorem Zox (s:Seg):(putL s).drop (if s.most=0 then 20 else 24)=s.data:=by
 obtain ⟨x,y,e⟩:=ZkY s
 rw [e]
 by_cases m:s.most=0
 ·rw [if_pos m]
  simp [Zdv,m]
 ·rw [if_neg m]
  simp [Zdv,m,two]
theorem Zrn {s:Seg} (h:s.Ok):Zcb (putL s)=s:=by
 obtain ⟨g12,g13,g18,g0,g2,g4,g8,g14⟩:=Znv s
 have e0:=Zox s
 obtain ⟨⟨a1,a2⟩,⟨b1,b2⟩,⟨c1,c2⟩,⟨d1,d2⟩,_,⟨f1,f2⟩,hm,_⟩:=h
 unfold Zcb Zcm
 rw [g12,g13,g0,g2,g4,g8,g14]
 obtain ⟨src,goal,num,ans,flags,win,most,data⟩:=s
 simp only at *
 by_cases m:most=0
 ·subst m
  have e:hd ⟨src,goal,num,ans,flags,win,0,data⟩=80:=rfl
  rw [e]
  simp only [if_true] at e0
  simp [e0]
  omega
 ·have e:hd ⟨src,goal,num,ans,flags,win,most,data⟩=96:=if_neg m
  obtain ⟨_,_,p3⟩:=Zj5 ⟨src,goal,num,ans,flags,win,most,data⟩ m
  simp only at p3
  rw [e,p3]
  rw [if_neg m] at e0
  simp [e0]
  have:=hm.resolve_left m
  omega
noncomputable def ZfF:SM:=(ZA ["Pile"] "row" (Zd 0) (Zba Zi))
noncomputable def Zb0:GM:=ZQ 1 1 ZfF
def Zh5:SM:=(ZP (mOp Zdq (mC (.int 64)) (mCB Zdr (Zc (ZD ["Pile"] "row" (Zd 0)) Zi))))
def Zec:GM:=ZQ 1 1 Zh5
def ZkI:SM:=(ZP (mOp zG (mOp zn (Zd 0) (Zd 1)) (mC (.int 4294967296))))
def zw:GM:=ZQ 2 2 ZkI
def Zh7:SM:=(ZP (mOp Zdq (mOp zG (mOp zn (mOp Zdq (Zd 0) (Zd 1)) (mC (.int 2147483648))) (mC (.int 4294967296))) (mC (.int 2147483648))))
def zI:GM:=ZQ 2 2 Zh7
def Zew:SM:=(Zr (ZA ["End"] "ours" (Zd 0) (Zd 1))
 (Zr (ZA ["End"] "theirs" (Zd 0) (Zd 2))
 (Zr (ZA ["End"] "state" (Zd 0) (Zf9 (zV (Zd 4)) (mC (.str "syn sent")) (mC (.str "listen"))))
 (Zr (ZA ["End"] "error" (Zd 0) (mC (.str "")))
 (Zr (ZA ["End"] "first" (Zd 0) (Zd 3))
 (Zr (ZA ["End"] "una" (Zd 0) (Zd 3))
 (Zr (ZA ["End"] "nxt" (Zd 0) (Zd 3))
 (Zr (ZA ["End"] "rcv" (Zd 0) (mC (.int 0)))
 (Zr (ZA ["End"] "wnd" (Zd 0) (mC (.int 0)))
 (Zr (ZA ["End"] "told" (Zd 0) (mC (.int 0)))
 (Zr (ZA ["End"] "told_by" (Zd 0) (mC (.int 0)))
 (Zr (ZA ["End"] "most" (Zd 0) (mC (.int 12)))
 (Zr (ZA ["End"] "written" (Zd 0) (mCB (mkG "Pile" Zb0) Zi))
 (Zr (ZA ["End"] "come" (Zd 0) (mCB (mkG "Pile" Zb0) Zi))
 (Zr (ZA ["End"] "early" (Zd 0) Zk7)
 (Zr (ZA ["End"] "early_fin" (Zd 0) (mC .non))
 (Zr (ZA ["End"] "has_closed" (Zd 0) (mC (.bl false)))
 (Zr (ZA ["End"] "behind" (Zd 0) (mCB zw (Zc (Zd 3) (Zc (mC (.int 1)) Zi))))
 (Zr (ZA ["End"] "owed_reset" (Zd 0) (mC .non))
 (Zr (ZA ["End"] "owes_syn" (Zd 0) (mC (.bl false)))
 (Zr (ZA ["End"] "owes_answer" (Zd 0) (mC (.bl false)))
 (Zr (ZA ["End"] "probes" (Zd 0) (mC (.bl false)))
 (Zr (ZA ["End"] "since" (Zd 0) (mC (.int 0)))
 (Zr (ZA ["End"] "wait" (Zd 0) (mC (.int 1000)))
 (ZA ["End"] "tries" (Zd 0) (mC (.int 0)))))))))))))))))))))))))))
def Zct:GM:=ZQ 5 5 Zew
noncomputable def ZeF:SM:=(Zr (ZA ["End"] "since" (Zd 0) (Zd 1))
 (Zr (ZA ["End"] "wait" (Zd 0) (mC (.int 1000)))
 (ZA ["End"] "tries" (Zd 0) (mC (.int 0)))))
noncomputable def zc:GM:=ZQ 2 2 ZeF
noncomputable def ZiZ:SM:=(ZP (ZD ["End"] "state" (Zd 0)))
noncomputable def Zeb:GM:=ZQ 1 1 ZiZ
noncomputable def Zi0:SM:=(ZP (ZD ["End"] "error" (Zd 0)))
noncomputable def Zfo:GM:=ZQ 1 1 Zi0
def Ze6:SM:=(ZP (mCB Zec (Zc (ZD ["End"] "come" (Zd 0)) Zi)))
def zT:GM:=ZQ 1 1 Ze6
noncomputable def ZdZ:SM:=(ZP (mCB Zki (Zc (ZD ["End"] "most" (Zd 0)) (Zc (mC (.int 16)) Zi))))
noncomputable def Zao:GM:=ZQ 1 1 ZdZ
def Ze4:SM:=(mIf (ZC (mOp eqM (ZD ["End"] "state" (Zd 0)) (mC (.str "syn sent")))) (ZP (Zbj (Zc (ZD ["End"] "ours" (Zd 0)) (Zc (ZD ["End"] "theirs" (Zd 0)) (Zc (ZD ["End"] "first" (Zd 0)) (Zc (mC (.int 0)) (Zc (mC (.int 2)) (Zc (mC (.int 64)) (Zc (mC (.int 16)) (Zc (Zbj Zi) Zi)))))))))) ZN)
def Zgm:SM:=(Zr (ZA ["End"] "owes_syn" (Zd 0) (mC (.bl false)))
 (Zr Ze4
 (ZP (Zbj (Zc (ZD ["End"] "ours" (Zd 0)) (Zc (ZD ["End"] "theirs" (Zd 0)) (Zc (ZD ["End"] "first" (Zd 0)) (Zc (ZD ["End"] "rcv" (Zd 0)) (Zc (mOp zn (mC (.int 2)) (mC (.int 16))) (Zc (mC (.int 64)) (Zc (mC (.int 16)) (Zc (Zbj Zi) Zi))))))))))))
def ZbR:GM:=ZQ 1 1 Zgm
def Ze2:SM:=(ZP (Zbj (Zc (ZD ["End"] "ours" (Zd 0)) (Zc (ZD ["End"] "theirs" (Zd 0)) (Zc (Zd 1) (Zc (ZD ["End"] "rcv" (Zd 0)) (Zc (mOp zn (Zd 2) (mC (.int 16))) (Zc (mCB zT (Zc (Zd 0) Zi)) (Zc (mC (.int 0)) (Zc (mCB ZhD (Zc (Zd 3) Zi)) Zi))))))))))
def zH:GM:=ZQ 4 4 Ze2
def ZcM:SM:=(mIf (ZC (mOp eqM (ZD ["End"] "tries" (Zd 0)) (mC (.int 6)))) (Zr (ZA ["End"] "state" (Zd 0) (mC (.str "closed")))
  (Zr (ZA ["End"] "error" (Zd 0) (mC (.str "time")))
  (ZP (mC .non)))) ZN)
def ZdG:SM:=(mIf (ZC (mOp inM (ZD ["End"] "state" (Zd 0)) (Zbj (Zc (mC (.str "syn sent")) (Zc (mC (.str "syn come")) Zi))))) (ZP (mCB ZbR (Zc (Zd 0) Zi))) ZN)
def Zd4:SM:=(Zr ZcM
 (Zr (ZA ["End"] "tries" (Zd 0) (mOp zn (ZD ["End"] "tries" (Zd 0)) (mC (.int 1))))
 (Zr (ZA ["End"] "wait" (Zd 0) (mCB Zki (Zc (mOp Zeg (mC (.int 2)) (ZD ["End"] "wait" (Zd 0))) (Zc (mC (.int 16000)) Zi))))
 (Zr (ZA ["End"] "since" (Zd 0) (Zd 1))
 (Zr ZdG
 (Zr (Z5 2 (mSl (ZD ["Pile"] "row" (ZD ["End"] "written" (Zd 0))) Zaw (Zb4 (mCB Zki (Zc (mCB zI (Zc (ZD ["End"] "nxt" (Zd 0)) (Zc (ZD ["End"] "una" (Zd 0)) Zi))) (Zc (mCB Zao (Zc (Zd 0) Zi)) Zi))))))
 (ZP (mCB zH (Zc (Zd 0) (Zc (ZD ["End"] "una" (Zd 0)) (Zc (Zf9 (ZC (mOp gtM (mCB Zdr (Zc (Zd 2) Zi)) (mC (.int 0)))) (mC (.int 0)) (mC (.int 1))) (Zc (Zd 2) Zi))))))))))))
def Zdt:GM:=ZQ 2 3 Zd4
noncomputable def Zbf:SM:=(mIf (ZeV (zV (ZD ["End"] "owes_answer" (Zd 0)))) (ZP (mC .non)) ZN)
def ZbE:SM:=(Zr Zbf
 (Zr (ZA ["End"] "owes_answer" (Zd 0) (mC (.bl false)))
 (ZP (mCB zH (Zc (Zd 0) (Zc (ZD ["End"] "nxt" (Zd 0)) (Zc (mC (.int 0)) (Zc (Zba Zi) Zi))))))))
def Zad:GM:=ZQ 1 1 ZbE
def Zh1:SM:=(ZP (mCB zI (Zc (ZD ["End"] "behind" (Zd 0)) (Zc (ZD ["End"] "nxt" (Zd 0)) Zi))))
def ZbI:GM:=ZQ 1 1 Zh1
def Zd2:SM:=(ZP (Zdf (mOp inM (ZD ["End"] "state" (Zd 0)) (Zbj (Zc (mC (.str "open")) (Zc (mC (.str "wait one")) (Zc (mC (.str "close wait")) (Zc (mC (.str "closing")) (Zc (mC (.str "last ack")) Zi))))))) (mOp gtM (mCB ZbI (Zc (Zd 0) Zi)) (mC (.int 0)))))
def Zaq:GM:=ZQ 1 1 Zd2
def ZeG:SM:=(ZP (Zdf (mOp inM (ZD ["End"] "state" (Zd 0)) (Zbj (Zc (mC (.str "wait one")) (Zc (mC (.str "closing")) (Zc (mC (.str "last ack")) Zi))))) (mOp eqM (mCB ZbI (Zc (Zd 0) Zi)) (mC (.int 0)))))
def ZbK:GM:=ZQ 1 1 ZeG
def Zgp:SM:=(ZP (ZmF (mCB Zaq (Zc (Zd 0) Zi)) (mCB ZbK (Zc (Zd 0) Zi))))
def ZbT:GM:=ZQ 1 1 Zgp
def Zes:SM:=(Zr (Z5 2 (ZD ["End"] "nxt" (Zd 0)))
 (Zr (Z5 3 (mCB Zki (Zc (mCB Zao (Zc (Zd 0) Zi)) (Zc (mCB ZbI (Zc (Zd 0) Zi)) (Zc (Zd 1) Zi)))))
 (Zr (Z5 4 (mCB zI (Zc (Zd 2) (Zc (ZD ["End"] "una" (Zd 0)) Zi))))
 (Zr (ZA ["End"] "nxt" (Zd 0) (mCB zw (Zc (Zd 2) (Zc (Zd 3) Zi))))
 (ZP (mCB zH (Zc (Zd 0) (Zc (Zd 2) (Zc (Zf9 (ZC (mOp eqM (mCB ZbI (Zc (Zd 0) Zi)) (mC (.int 0)))) (mC (.int 8)) (mC (.int 0))) (Zc (mSl (ZD ["Pile"] "row" (ZD ["End"] "written" (Zd 0))) (Zb4 (Zd 4)) (Zb4 (mOp zn (Zd 4) (Zd 3)))) Zi))))))))))
def Zcq:GM:=ZQ 2 5 Zes
def Zg7:SM:=(Zr (Z5 1 (ZD ["End"] "nxt" (Zd 0)))
 (Zr (ZA ["End"] "nxt" (Zd 0) (mCB zw (Zc (Zd 1) (Zc (mC (.int 1)) Zi))))
 (ZP (mCB zH (Zc (Zd 0) (Zc (Zd 1) (Zc (mC (.int 1)) (Zc (Zba Zi) Zi))))))))
def ZdW:GM:=ZQ 1 2 Zg7
def ZdO:SM:=(Zr (ZA ["End"] "probes" (Zd 0) (mC (.bl false)))
 (ZP (Zf9 (zV (mCB Zaq (Zc (Zd 0) Zi))) (mCB Zcq (Zc (Zd 0) (Zc (Zd 1) Zi))) (mCB ZdW (Zc (Zd 0) Zi)))))
def Za2:GM:=ZQ 2 2 ZdO
def ZdN:SM:=(mIf (ZC (mOp eqM (ZD ["End"] "nxt" (Zd 0)) (ZD ["End"] "una" (Zd 0)))) (zj (mCB zc (Zc (Zd 0) (Zc (Zd 1) Zi)))) ZN)
def Ze7:SM:=(Zr ZdN
 (Zr (ZA ["End"] "nxt" (Zd 0) (mCB zw (Zc (ZD ["End"] "first" (Zd 0)) (Zc (mC (.int 1)) Zi))))
 (ZP (mCB ZbR (Zc (Zd 0) Zi)))))
def Zc3:GM:=ZQ 2 2 Ze7
def zz:SM:=(mIf (ZC (mOp inM (ZD ["End"] "state" (Zd 0)) (Zbj (Zc (mC (.str "syn sent")) (Zc (mC (.str "syn come")) Zi))))) (ZP (Zf9 (mOr (ZC (mOp eqM (ZD ["End"] "nxt" (Zd 0)) (ZD ["End"] "first" (Zd 0)))) (zV (ZD ["End"] "owes_syn" (Zd 0)))) (mCB Zc3 (Zc (Zd 0) (Zc (Zd 1) Zi))) (mC .non))) ZN)
def Zau:SM:=(mIf (mOr (ZC (mOp leM (Zd 2) (mC (.int 0)))) (ZeV (zV (mCB ZbT (Zc (Zd 0) Zi))))) (ZP (mC .non)) ZN)
def ZbW:SM:=(mIf (ZC (mOp eqM (ZD ["End"] "nxt" (Zd 0)) (ZD ["End"] "una" (Zd 0)))) (zj (mCB zc (Zc (Zd 0) (Zc (Zd 1) Zi)))) ZN)
def zS:SM:=(Zr zz
 (Zr (Z5 2 (mOp Zdq (ZD ["End"] "wnd" (Zd 0)) (mCB zI (Zc (ZD ["End"] "nxt" (Zd 0)) (Zc (ZD ["End"] "una" (Zd 0)) Zi)))))
 (Zr Zau
 (Zr ZbW
 (Zr (ZA ["End"] "owes_answer" (Zd 0) (mC (.bl false)))
 (ZP (mCB Za2 (Zc (Zd 0) (Zc (Zd 2) Zi)))))))))
def zb:GM:=ZQ 2 3 zS
def Zia:SM:=(ZP (mOp geM (mOp Zdq (Zd 1) (ZD ["End"] "since" (Zd 0))) (ZD ["End"] "wait" (Zd 0))))
def Zdc:GM:=ZQ 2 2 Zia
def zl:SM:=(mIf (mOr (ZC (mOp neM (ZD ["End"] "nxt" (Zd 0)) (ZD ["End"] "una" (Zd 0)))) (mOr (ZC (mOp neM (ZD ["End"] "wnd" (Zd 0)) (mC (.int 0)))) (ZeV (zV (mCB ZbT (Zc (Zd 0) Zi)))))) (Zr (ZA ["End"] "probes" (Zd 0) (mC (.bl false)))
  (ZP (mC .non))) ZN)
noncomputable def ZaL:SM:=(mIf (ZeV (zV (ZD ["End"] "probes" (Zd 0)))) (Zr (ZA ["End"] "probes" (Zd 0) (mC (.bl true)))
  (zj (mCB zc (Zc (Zd 0) (Zc (Zd 1) Zi))))) ZN)
def ZaK:SM:=(mIf (ZeV (zV (mCB Zdc (Zc (Zd 0) (Zc (Zd 1) Zi))))) (ZP (mC .non)) ZN)
def zy:SM:=(Zr zl
 (Zr ZaL
 (Zr ZaK
 (Zr (ZA ["End"] "since" (Zd 0) (Zd 1))
 (ZP (mCB Za2 (Zc (Zd 0) (Zc (mC (.int 1)) Zi))))))))
def zd:GM:=ZQ 2 2 zy
noncomputable def Ze5:SM:=(Zr (Z5 1 (ZD ["End"] "owed_reset" (Zd 0)))
 (Zr (ZA ["End"] "owed_reset" (Zd 0) (mC .non))
 (ZP (Zd 1))))
noncomputable def ZcX:GM:=ZQ 1 2 Ze5
noncomputable def ZdD:SM:=(mIf (ZC (mOp Zju (ZD ["End"] "owed_reset" (Zd 0)) (mC .non))) (ZP (mCB ZcX (Zc (Zd 0) Zi))) ZN)
def Zfb:SM:=(mIf (ZeI (ZC (mOp eqM (ZD ["End"] "state" (Zd 0)) (mC (.str "time wait")))) (ZC (mOp geM (mOp Zdq (Zd 1) (ZD ["End"] "since" (Zd 0))) (mC (.int 120000))))) (ZA ["End"] "state" (Zd 0) (mC (.str "closed"))) ZN)
noncomputable def Zb7:SM:=(mIf (ZC (mOp inM (ZD ["End"] "state" (Zd 0)) (Zbj (Zc (mC (.str "closed")) (Zc (mC (.str "listen")) Zi))))) (ZP (mC .non)) ZN)
def ZcL:SM:=(mIf (ZeI (ZC (mOp neM (ZD ["End"] "nxt" (Zd 0)) (ZD ["End"] "una" (Zd 0)))) (zV (mCB Zdc (Zc (Zd 0) (Zc (Zd 1) Zi))))) (ZP (mCB Zdt (Zc (Zd 0) (Zc (Zd 1) Zi)))) ZN)
def Zb6:SM:=(mIf (ZC (mOp isM (Zd 2) (mC .non))) (Z5 2 (mCB zd (Zc (Zd 0) (Zc (Zd 1) Zi)))) ZN)
def Zb5:SM:=(mIf (ZC (mOp isM (Zd 2) (mC .non))) (Z5 2 (mCB Zad (Zc (Zd 0) Zi))) ZN)
def Zfu:SM:=(Zr ZdD
 (Zr Zfb
 (Zr Zb7
 (Zr ZcL
 (Zr (Z5 2 (mCB zb (Zc (Zd 0) (Zc (Zd 1) Zi))))
 (Zr Zb6
 (Zr Zb5
 (ZP (Zd 2)))))))))
def Zed:GM:=ZQ 2 3 Zfu
def Zh4:SM:=(Zr (Z5 2 (mCB Zed (Zc (Zd 0) (Zc (Zd 1) Zi))))
 (ZP (Zf9 (ZC (mOp isM (Zd 2) (mC .non))) (Zba Zi) (mCB Zj7 (Zc (Zd 2) Zi)))))
def ZdJ:GM:=ZQ 2 3 Zh4
def Zh6:SM:=(ZP (mCB (mkG "End" Zct) (Zc (Zd 0) (Zc (Zd 1) (Zc (Zd 2) (Zc (Zd 3) Zi))))))
def ZbJ:GM:=ZQ 4 4 Zh6
inductive State where
 | closed | Qu | Qg | Qf | opn | Qh | Qi | Qk | Qm | Ql | Qj
 deriving DecidableEq
noncomputable def State.s:State->Str
 | .closed=>"closed" | .Qu=>"listen" | .Qg=>"syn sent" | .Qf=>"syn come" | .opn=>"open" | .Qh=>"wait one" | .Qi=>"wait two" | .Qk=>"close wait" | .Qm=>"closing" | .Ql=>"last ack" | .Qj=>"time wait"
inductive Err where
 | none | refused | reset | time
 deriving DecidableEq
noncomputable def Err.s:Err->Str
 | .none=>"" | .refused=>"refused" | .reset=>"reset" | .time=>"time"
structure Zm where
 ours:Int
 Qt:Int
 Qw:State
 error:Err
 first:Int
 una:Int
 nxt:Int
 rcv:Int
 wnd:Int
 told:Int
 Qn:Int
 most:Int
 Qr:List Int
 come:List Int
 Qv:List (Int×Int)
 Qd:Option Int
 Qc:Bool
 Qs:Int
 Qb:Option Seg
 Qe:Bool
 Qa:Bool
 Qo:Bool
 Qq:Int
 wait:Int
 Qp:Int
noncomputable def Zhn:Option Int->D
 | none=>.non
 | some i=>.int i
noncomputable def Zbs:Option Seg->D
 | none=>.non
 | some s=>s.d
noncomputable def fields (l:Nat) (e:Zm):List (Str×D):=[("ours",.int e.ours),("theirs",.int e.Qt),("state",.str e.Qw.s),("error",.str e.error.s),("first",.int e.first),("una",.int e.una),("nxt",.int e.nxt),("rcv",.int e.rcv),("wnd",.int e.wnd),("told",.int e.told),("told_by",.int e.Qn),("most",.int e.most),("written",.ref (l+1)),("come",.ref (l+2)),("early",.ref (l+3)),("early_fin",Zhn e.Qd),("has_closed",.bl e.Qc),("behind",.int e.Qs),("owed_reset",Zbs e.Qb),("owes_syn",.bl e.Qe),("owes_answer",.bl e.Qa),("probes",.bl e.Qo),("since",.int e.Qq),("wait",.int e.wait),("tries",.int e.Qp)]
noncomputable def c0 (l:Nat) (e:Zm):Cell:=.ins "End" (fields l e)
noncomputable def c1 (e:Zm):Cell:=.ins "Pile" [("row",il e.Qr)]
noncomputable def c2 (e:Zm):Cell:=.ins "Pile" [("row",il e.come)]
noncomputable def c3 (e:Zm):Cell:=.dK (e.Qv.map fun p=>(Sum.inl p.1,D.int p.2))
noncomputable def upE (θ:Sto) (l:Nat) (e:Zm):Sto:=(((θ.set l (c0 l e)).set (l+1) (c1 e)).set (l+2) (c2 e)).set (l+3) (c3 e)
theorem at0 {θ:Sto} {l:Nat} (h:l+3 < θ.length) (e:Zm):(upE θ l e)[l]?=some (c0 l e):=by
 unfold upE
 rw [Ya (by omega),Ya (by omega),Ya (by omega),Yg (by omega)]
theorem at1 {θ:Sto} {l:Nat} (h:l+3 < θ.length) (e:Zm):(upE θ l e)[l+1]?=some (c1 e):=by
 unfold upE
 rw [Ya (by omega),Ya (by omega),Yg (by simp; omega)]
theorem ZwJ {θ:Sto} {l:Nat} (h:l+3 < θ.length) (e:Zm):(upE θ l e)[l+2]?=some (c2 e):=by
 unfold upE
 rw [Ya (by omega),Yg (by simp; omega)]
theorem ZdT {θ:Sto} {l:Nat} (h:l+3 < θ.length) (e e':Zm) (h1:e'.Qr=e.Qr) (h2:e'.come=e.come) (h3:e'.Qv=e.Qv):(upE θ l e).set l (c0 l e')=upE θ l e':=by
 unfold upE
 rw [show c1 e'=c1 e by unfold c1; rw [h1],show c2 e'=c2 e by unfold c2; rw [h2],show c3 e'=c3 e by unfold c3; rw [h3]]
 apply List.ext_getElem?
 intro i
 simp only [YZ,Yx]
 by_cases h3:l=i
 ·subst h3; simp
 ·simp [h3]
theorem Zax {θ:Sto} {l:Nat} (h:l+3 < θ.length) (e:Zm):ZeW (upE θ l e) (.ref l)=some (l,("End":Str),fields l e):=by
 show (match (upE θ l e)[l]? with | some (Cell.ins C fs)=>some (l,C,fs) | _=>none)=_
 rw [at0 h]
 rfl
theorem ce:(["End"]:List Str).contains "End"=true:=by decide +kernel
theorem cp:(["Pile"]:List Str).contains "Pile"=true:=by decide +kernel
@[simp] theorem ZzZ {θ:Sto} {l:Nat} (h:l+3 < θ.length) (e:Zm):zN ["End"] "ours" (.ref l) (upE θ l e)=.ok (.int e.ours) (upE θ l e):=by
 unfold zN
 rw [Zax h]
 simp only [ce,if_true]
 rw [show (fields l e).lookup ("ours":Str)=some (.int e.ours) by with_unfolding_all rfl]
@[simp] theorem Zww {θ:Sto} {l:Nat} (h:l+3 < θ.length) (e:Zm):zN ["End"] "theirs" (.ref l) (upE θ l e)=.ok (.int e.Qt) (upE θ l e):=by
 unfold zN
 rw [Zax h]
 simp only [ce,if_true]
 rw [show (fields l e).lookup ("theirs":Str)=some (.int e.Qt) by with_unfolding_all rfl]
@[simp] theorem Zw9 {θ:Sto} {l:Nat} (h:l+3 < θ.length) (e:Zm):zN ["End"] "state" (.ref l) (upE θ l e)=.ok (.str e.Qw.s) (upE θ l e):=by
 unfold zN
 rw [Zax h]
 simp only [ce,if_true]
 rw [show (fields l e).lookup ("state":Str)=some (.str e.Qw.s) by with_unfolding_all rfl]
@[simp] theorem Zxc {θ:Sto} {l:Nat} (h:l+3 < θ.length) (e:Zm):zN ["End"] "error" (.ref l) (upE θ l e)=.ok (.str e.error.s) (upE θ l e):=by
 unfold zN
 rw [Zax h]
 simp only [ce,if_true]
 rw [show (fields l e).lookup ("error":Str)=some (.str e.error.s) by with_unfolding_all rfl]
@[simp] theorem Zxb {θ:Sto} {l:Nat} (h:l+3 < θ.length) (e:Zm):zN ["End"] "first" (.ref l) (upE θ l e)=.ok (.int e.first) (upE θ l e):=by
 unfold zN
 rw [Zax h]
 simp only [ce,if_true]
 rw [show (fields l e).lookup ("first":Str)=some (.int e.first) by with_unfolding_all rfl]
@[simp] theorem ZAH {θ:Sto} {l:Nat} (h:l+3 < θ.length) (e:Zm):zN ["End"] "una" (.ref l) (upE θ l e)=.ok (.int e.una) (upE θ l e):=by
 unfold zN
 rw [Zax h]
 simp only [ce,if_true]
 rw [show (fields l e).lookup ("una":Str)=some (.int e.una) by with_unfolding_all rfl]
@[simp] theorem ZAJ {θ:Sto} {l:Nat} (h:l+3 < θ.length) (e:Zm):zN ["End"] "nxt" (.ref l) (upE θ l e)=.ok (.int e.nxt) (upE θ l e):=by
 unfold zN
 rw [Zax h]
 simp only [ce,if_true]
 rw [show (fields l e).lookup ("nxt":Str)=some (.int e.nxt) by with_unfolding_all rfl]
@[simp] theorem ZAI {θ:Sto} {l:Nat} (h:l+3 < θ.length) (e:Zm):zN ["End"] "rcv" (.ref l) (upE θ l e)=.ok (.int e.rcv) (upE θ l e):=by
 unfold zN
 rw [Zax h]
 simp only [ce,if_true]
 rw [show (fields l e).lookup ("rcv":Str)=some (.int e.rcv) by with_unfolding_all rfl]
@[simp] theorem ZAG {θ:Sto} {l:Nat} (h:l+3 < θ.length) (e:Zm):zN ["End"] "wnd" (.ref l) (upE θ l e)=.ok (.int e.wnd) (upE θ l e):=by
 unfold zN
 rw [Zax h]
 simp only [ce,if_true]
 rw [show (fields l e).lookup ("wnd":Str)=some (.int e.wnd) by with_unfolding_all rfl]
@[simp] theorem ZzW {θ:Sto} {l:Nat} (h:l+3 < θ.length) (e:Zm):zN ["End"] "told" (.ref l) (upE θ l e)=.ok (.int e.told) (upE θ l e):=by
 unfold zN
 rw [Zax h]
 simp only [ce,if_true]
 rw [show (fields l e).lookup ("told":Str)=some (.int e.told) by with_unfolding_all rfl]
@[simp] theorem Zvi {θ:Sto} {l:Nat} (h:l+3 < θ.length) (e:Zm):zN ["End"] "told_by" (.ref l) (upE θ l e)=.ok (.int e.Qn) (upE θ l e):=by
 unfold zN
 rw [Zax h]
 simp only [ce,if_true]
 rw [show (fields l e).lookup ("told_by":Str)=some (.int e.Qn) by with_unfolding_all rfl]
@[simp] theorem Zz0 {θ:Sto} {l:Nat} (h:l+3 < θ.length) (e:Zm):zN ["End"] "most" (.ref l) (upE θ l e)=.ok (.int e.most) (upE θ l e):=by
 unfold zN
 rw [Zax h]
 simp only [ce,if_true]
 rw [show (fields l e).lookup ("most":Str)=some (.int e.most) by with_unfolding_all rfl]
@[simp] theorem Zvh {θ:Sto} {l:Nat} (h:l+3 < θ.length) (e:Zm):zN ["End"] "written" (.ref l) (upE θ l e)=.ok (.ref (l+1)) (upE θ l e):=by
 unfold zN
 rw [Zax h]
 simp only [ce,if_true]
 rw [show (fields l e).lookup ("written":Str)=some (.ref (l+1)) by with_unfolding_all rfl]
@[simp] theorem Zz1 {θ:Sto} {l:Nat} (h:l+3 < θ.length) (e:Zm):zN ["End"] "come" (.ref l) (upE θ l e)=.ok (.ref (l+2)) (upE θ l e):=by
 unfold zN
 rw [Zax h]
 simp only [ce,if_true]
 rw [show (fields l e).lookup ("come":Str)=some (.ref (l+2)) by with_unfolding_all rfl]
@[simp] theorem Zxd {θ:Sto} {l:Nat} (h:l+3 < θ.length) (e:Zm):zN ["End"] "early" (.ref l) (upE θ l e)=.ok (.ref (l+3)) (upE θ l e):=by
 unfold zN
 rw [Zax h]
 simp only [ce,if_true]
 rw [show (fields l e).lookup ("early":Str)=some (.ref (l+3)) by with_unfolding_all rfl]
@[simp] theorem Zr8 {θ:Sto} {l:Nat} (h:l+3 < θ.length) (e:Zm):zN ["End"] "early_fin" (.ref l) (upE θ l e)=.ok (Zhn e.Qd) (upE θ l e):=by
 unfold zN
 rw [Zax h]
 simp only [ce,if_true]
 rw [show (fields l e).lookup ("early_fin":Str)=some (Zhn e.Qd) by with_unfolding_all rfl]
@[simp] theorem Zrq {θ:Sto} {l:Nat} (h:l+3 < θ.length) (e:Zm):zN ["End"] "has_closed" (.ref l) (upE θ l e)=.ok (.bl e.Qc) (upE θ l e):=by
 unfold zN
 rw [Zax h]
 simp only [ce,if_true]
 rw [show (fields l e).lookup ("has_closed":Str)=some (.bl e.Qc) by with_unfolding_all rfl]
@[simp] theorem Zwy {θ:Sto} {l:Nat} (h:l+3 < θ.length) (e:Zm):zN ["End"] "behind" (.ref l) (upE θ l e)=.ok (.int e.Qs) (upE θ l e):=by
 unfold zN
 rw [Zax h]
 simp only [ce,if_true]
 rw [show (fields l e).lookup ("behind":Str)=some (.int e.Qs) by with_unfolding_all rfl]
@[simp] theorem Zrp {θ:Sto} {l:Nat} (h:l+3 < θ.length) (e:Zm):zN ["End"] "owed_reset" (.ref l) (upE θ l e)=.ok (Zbs e.Qb) (upE θ l e):=by
 unfold zN
 rw [Zax h]
 simp only [ce,if_true]
 rw [show (fields l e).lookup ("owed_reset":Str)=some (Zbs e.Qb) by with_unfolding_all rfl]
@[simp] theorem ZuL {θ:Sto} {l:Nat} (h:l+3 < θ.length) (e:Zm):zN ["End"] "owes_syn" (.ref l) (upE θ l e)=.ok (.bl e.Qe) (upE θ l e):=by
 unfold zN
 rw [Zax h]
 simp only [ce,if_true]
 rw [show (fields l e).lookup ("owes_syn":Str)=some (.bl e.Qe) by with_unfolding_all rfl]
@[simp] theorem ZoX {θ:Sto} {l:Nat} (h:l+3 < θ.length) (e:Zm):zN ["End"] "owes_answer" (.ref l) (upE θ l e)=.ok (.bl e.Qa) (upE θ l e):=by
 unfold zN
 rw [Zax h]
 simp only [ce,if_true]
 rw [show (fields l e).lookup ("owes_answer":Str)=some (.bl e.Qa) by with_unfolding_all rfl]
@[simp] theorem Zwx {θ:Sto} {l:Nat} (h:l+3 < θ.length) (e:Zm):zN ["End"] "probes" (.ref l) (upE θ l e)=.ok (.bl e.Qo) (upE θ l e):=by
 unfold zN
 rw [Zax h]
 simp only [ce,if_true]
 rw [show (fields l e).lookup ("probes":Str)=some (.bl e.Qo) by with_unfolding_all rfl]
@[simp] theorem Zxa {θ:Sto} {l:Nat} (h:l+3 < θ.length) (e:Zm):zN ["End"] "since" (.ref l) (upE θ l e)=.ok (.int e.Qq) (upE θ l e):=by
 unfold zN
 rw [Zax h]
 simp only [ce,if_true]
 rw [show (fields l e).lookup ("since":Str)=some (.int e.Qq) by with_unfolding_all rfl]
@[simp] theorem ZzV {θ:Sto} {l:Nat} (h:l+3 < θ.length) (e:Zm):zN ["End"] "wait" (.ref l) (upE θ l e)=.ok (.int e.wait) (upE θ l e):=by
 unfold zN
 rw [Zax h]
 simp only [ce,if_true]
 rw [show (fields l e).lookup ("wait":Str)=some (.int e.wait) by with_unfolding_all rfl]
@[simp] theorem Zw8 {θ:Sto} {l:Nat} (h:l+3 < θ.length) (e:Zm):zN ["End"] "tries" (.ref l) (upE θ l e)=.ok (.int e.Qp) (upE θ l e):=by
 unfold zN
 rw [Zax h]
 simp only [ce,if_true]
 rw [show (fields l e).lookup ("tries":Str)=some (.int e.Qp) by with_unfolding_all rfl]
@[simp] theorem ZvP {θ:Sto} {l:Nat} (h:l+3 < θ.length) (e:Zm) (v:Int):za ["End"] "theirs" (.int v) (.ref l) (upE θ l e)=some (upE θ l { e with Qt:=v }):=by
 unfold za
 rw [Zax h]
 simp only [ce]
 rw [if_pos ⟨trivial,show 25<1000 by decide⟩,show ZaC ("theirs":Str) (.int v) (fields l e)=fields l { e with Qt:=v } by with_unfolding_all rfl]
 exact congrArg some (ZdT h e { e with Qt:=v } rfl rfl rfl)
@[simp] theorem Zw0 {θ:Sto} {l:Nat} (h:l+3 < θ.length) (e:Zm) (v:State):za ["End"] "state" (.str v.s) (.ref l) (upE θ l e)=some (upE θ l { e with Qw:=v }):=by
 unfold za
 rw [Zax h]
 simp only [ce]
 rw [if_pos ⟨trivial,show 25<1000 by decide⟩,show ZaC ("state":Str) (.str v.s) (fields l e)=fields l { e with Qw:=v } by with_unfolding_all rfl]
 exact congrArg some (ZdT h e { e with Qw:=v } rfl rfl rfl)
@[simp] theorem Zw2 {θ:Sto} {l:Nat} (h:l+3 < θ.length) (e:Zm) (v:Err):za ["End"] "error" (.str v.s) (.ref l) (upE θ l e)=some (upE θ l { e with error:=v }):=by
 unfold za
 rw [Zax h]
 simp only [ce]
 rw [if_pos ⟨trivial,show 25<1000 by decide⟩,show ZaC ("error":Str) (.str v.s) (fields l e)=fields l { e with error:=v } by with_unfolding_all rfl]
 exact congrArg some (ZdT h e { e with error:=v } rfl rfl rfl)
@[simp] theorem ZAz {θ:Sto} {l:Nat} (h:l+3 < θ.length) (e:Zm) (v:Int):za ["End"] "una" (.int v) (.ref l) (upE θ l e)=some (upE θ l { e with una:=v }):=by
 unfold za
 rw [Zax h]
 simp only [ce]
 rw [if_pos ⟨trivial,show 25<1000 by decide⟩,show ZaC ("una":Str) (.int v) (fields l e)=fields l { e with una:=v } by with_unfolding_all rfl]
 exact congrArg some (ZdT h e { e with una:=v } rfl rfl rfl)
@[simp] theorem ZAB {θ:Sto} {l:Nat} (h:l+3 < θ.length) (e:Zm) (v:Int):za ["End"] "nxt" (.int v) (.ref l) (upE θ l e)=some (upE θ l { e with nxt:=v }):=by
 unfold za
 rw [Zax h]
 simp only [ce]
 rw [if_pos ⟨trivial,show 25<1000 by decide⟩,show ZaC ("nxt":Str) (.int v) (fields l e)=fields l { e with nxt:=v } by with_unfolding_all rfl]
 exact congrArg some (ZdT h e { e with nxt:=v } rfl rfl rfl)
@[simp] theorem ZAA {θ:Sto} {l:Nat} (h:l+3 < θ.length) (e:Zm) (v:Int):za ["End"] "rcv" (.int v) (.ref l) (upE θ l e)=some (upE θ l { e with rcv:=v }):=by
 unfold za
 rw [Zax h]
 simp only [ce]
 rw [if_pos ⟨trivial,show 25<1000 by decide⟩,show ZaC ("rcv":Str) (.int v) (fields l e)=fields l { e with rcv:=v } by with_unfolding_all rfl]
 exact congrArg some (ZdT h e { e with rcv:=v } rfl rfl rfl)
@[simp] theorem ZAy {θ:Sto} {l:Nat} (h:l+3 < θ.length) (e:Zm) (v:Int):za ["End"] "wnd" (.int v) (.ref l) (upE θ l e)=some (upE θ l { e with wnd:=v }):=by
 unfold za
 rw [Zax h]
 simp only [ce]
 rw [if_pos ⟨trivial,show 25<1000 by decide⟩,show ZaC ("wnd":Str) (.int v) (fields l e)=fields l { e with wnd:=v } by with_unfolding_all rfl]
 exact congrArg some (ZdT h e { e with wnd:=v } rfl rfl rfl)
@[simp] theorem Zzz {θ:Sto} {l:Nat} (h:l+3 < θ.length) (e:Zm) (v:Int):za ["End"] "told" (.int v) (.ref l) (upE θ l e)=some (upE θ l { e with told:=v }):=by
 unfold za
 rw [Zax h]
 simp only [ce]
 rw [if_pos ⟨trivial,show 25<1000 by decide⟩,show ZaC ("told":Str) (.int v) (fields l e)=fields l { e with told:=v } by with_unfolding_all rfl]
 exact congrArg some (ZdT h e { e with told:=v } rfl rfl rfl)
@[simp] theorem Zu9 {θ:Sto} {l:Nat} (h:l+3 < θ.length) (e:Zm) (v:Int):za ["End"] "told_by" (.int v) (.ref l) (upE θ l e)=some (upE θ l { e with Qn:=v }):=by
 unfold za
 rw [Zax h]
 simp only [ce]
 rw [if_pos ⟨trivial,show 25<1000 by decide⟩,show ZaC ("told_by":Str) (.int v) (fields l e)=fields l { e with Qn:=v } by with_unfolding_all rfl]
 exact congrArg some (ZdT h e { e with Qn:=v } rfl rfl rfl)
@[simp] theorem ZzC {θ:Sto} {l:Nat} (h:l+3 < θ.length) (e:Zm) (v:Int):za ["End"] "most" (.int v) (.ref l) (upE θ l e)=some (upE θ l { e with most:=v }):=by
 unfold za
 rw [Zax h]
 simp only [ce]
 rw [if_pos ⟨trivial,show 25<1000 by decide⟩,show ZaC ("most":Str) (.int v) (fields l e)=fields l { e with most:=v } by with_unfolding_all rfl]
 exact congrArg some (ZdT h e { e with most:=v } rfl rfl rfl)
@[simp] theorem Zj0 {θ:Sto} {l:Nat} (h:l+3 < θ.length) (e:Zm) (v:Option Int):za ["End"] "early_fin" (Zhn v) (.ref l) (upE θ l e)=some (upE θ l { e with Qd:=v }):=by
 unfold za
 rw [Zax h]
 simp only [ce]
 rw [if_pos ⟨trivial,show 25<1000 by decide⟩,show ZaC ("early_fin":Str) (Zhn v) (fields l e)=fields l { e with Qd:=v } by with_unfolding_all rfl]
 exact congrArg some (ZdT h e { e with Qd:=v } rfl rfl rfl)
@[simp] theorem ZqA {θ:Sto} {l:Nat} (h:l+3 < θ.length) (e:Zm) (v:Bool):za ["End"] "has_closed" (.bl v) (.ref l) (upE θ l e)=some (upE θ l { e with Qc:=v }):=by
 unfold za
 rw [Zax h]
 simp only [ce]
 rw [if_pos ⟨trivial,show 25<1000 by decide⟩,show ZaC ("has_closed":Str) (.bl v) (fields l e)=fields l { e with Qc:=v } by with_unfolding_all rfl]
 exact congrArg some (ZdT h e { e with Qc:=v } rfl rfl rfl)
@[simp] theorem ZvR {θ:Sto} {l:Nat} (h:l+3 < θ.length) (e:Zm) (v:Int):za ["End"] "behind" (.int v) (.ref l) (upE θ l e)=some (upE θ l { e with Qs:=v }):=by
 unfold za
 rw [Zax h]
 simp only [ce]
 rw [if_pos ⟨trivial,show 25<1000 by decide⟩,show ZaC ("behind":Str) (.int v) (fields l e)=fields l { e with Qs:=v } by with_unfolding_all rfl]
 exact congrArg some (ZdT h e { e with Qs:=v } rfl rfl rfl)
@[simp] theorem ZfZ {θ:Sto} {l:Nat} (h:l+3 < θ.length) (e:Zm) (v:Option Seg):za ["End"] "owed_reset" (Zbs v) (.ref l) (upE θ l e)=some (upE θ l { e with Qb:=v }):=by
 unfold za
 rw [Zax h]
 simp only [ce]
 rw [if_pos ⟨trivial,show 25<1000 by decide⟩,show ZaC ("owed_reset":Str) (Zbs v) (fields l e)=fields l { e with Qb:=v } by with_unfolding_all rfl]
 exact congrArg some (ZdT h e { e with Qb:=v } rfl rfl rfl)
@[simp] theorem ZtZ {θ:Sto} {l:Nat} (h:l+3 < θ.length) (e:Zm) (v:Bool):za ["End"] "owes_syn" (.bl v) (.ref l) (upE θ l e)=some (upE θ l { e with Qe:=v }):=by
 unfold za
 rw [Zax h]
 simp only [ce]
 rw [if_pos ⟨trivial,show 25<1000 by decide⟩,show ZaC ("owes_syn":Str) (.bl v) (fields l e)=fields l { e with Qe:=v } by with_unfolding_all rfl]
 exact congrArg some (ZdT h e { e with Qe:=v } rfl rfl rfl)
@[simp] theorem ZoW {θ:Sto} {l:Nat} (h:l+3 < θ.length) (e:Zm) (v:Bool):za ["End"] "owes_answer" (.bl v) (.ref l) (upE θ l e)=some (upE θ l { e with Qa:=v }):=by
 unfold za
 rw [Zax h]
 simp only [ce]
 rw [if_pos ⟨trivial,show 25<1000 by decide⟩,show ZaC ("owes_answer":Str) (.bl v) (fields l e)=fields l { e with Qa:=v } by with_unfolding_all rfl]
 exact congrArg some (ZdT h e { e with Qa:=v } rfl rfl rfl)
@[simp] theorem ZvQ {θ:Sto} {l:Nat} (h:l+3 < θ.length) (e:Zm) (v:Bool):za ["End"] "probes" (.bl v) (.ref l) (upE θ l e)=some (upE θ l { e with Qo:=v }):=by
 unfold za
 rw [Zax h]
 simp only [ce]
 rw [if_pos ⟨trivial,show 25<1000 by decide⟩,show ZaC ("probes":Str) (.bl v) (fields l e)=fields l { e with Qo:=v } by with_unfolding_all rfl]
 exact congrArg some (ZdT h e { e with Qo:=v } rfl rfl rfl)
@[simp] theorem Zw1 {θ:Sto} {l:Nat} (h:l+3 < θ.length) (e:Zm) (v:Int):za ["End"] "since" (.int v) (.ref l) (upE θ l e)=some (upE θ l { e with Qq:=v }):=by
 unfold za
 rw [Zax h]
 simp only [ce]
 rw [if_pos ⟨trivial,show 25<1000 by decide⟩,show ZaC ("since":Str) (.int v) (fields l e)=fields l { e with Qq:=v } by with_unfolding_all rfl]
 exact congrArg some (ZdT h e { e with Qq:=v } rfl rfl rfl)
@[simp] theorem Zzy {θ:Sto} {l:Nat} (h:l+3 < θ.length) (e:Zm) (v:Int):za ["End"] "wait" (.int v) (.ref l) (upE θ l e)=some (upE θ l { e with wait:=v }):=by
 unfold za
 rw [Zax h]
 simp only [ce]
 rw [if_pos ⟨trivial,show 25<1000 by decide⟩,show ZaC ("wait":Str) (.int v) (fields l e)=fields l { e with wait:=v } by with_unfolding_all rfl]
 exact congrArg some (ZdT h e { e with wait:=v } rfl rfl rfl)
@[simp] theorem ZwZ {θ:Sto} {l:Nat} (h:l+3 < θ.length) (e:Zm) (v:Int):za ["End"] "tries" (.int v) (.ref l) (upE θ l e)=some (upE θ l { e with Qp:=v }):=by
 unfold za
 rw [Zax h]
 simp only [ce]
 rw [if_pos ⟨trivial,show 25<1000 by decide⟩,show ZaC ("tries":Str) (.int v) (fields l e)=fields l { e with Qp:=v } by with_unfolding_all rfl]
 exact congrArg some (ZdT h e { e with Qp:=v } rfl rfl rfl)
section
variable {θ:Sto} {l:Nat}
@[simp] theorem ZzX (h:l+3 < θ.length) (e:Zm):zN ["Pile"] "row" (.ref (l+1)) (upE θ l e)=.ok (il e.Qr) (upE θ l e):=by
 have:ZeW (upE θ l e) (.ref (l+1))=some (l+1,("Pile":Str),[(("row":Str),il e.Qr)]):=by
  show (match (upE θ l e)[l+1]? with | some (Cell.ins C fs)=>some (l+1,C,fs) | _=>none)=_
  rw [at1 h]
  rfl
 unfold zN
 rw [this]
 simp only [cp,if_true]
 rw [show ([("row",il e.Qr)]:List (Str×D)).lookup ("row":Str)=some (il e.Qr) by with_unfolding_all rfl]
@[simp] theorem ZzY (h:l+3 < θ.length) (e:Zm):zN ["Pile"] "row" (.ref (l+2)) (upE θ l e)=.ok (il e.come) (upE θ l e):=by
 have:ZeW (upE θ l e) (.ref (l+2))=some (l+2,("Pile":Str),[(("row":Str),il e.come)]):=by
  show (match (upE θ l e)[l+2]? with | some (Cell.ins C fs)=>some (l+2,C,fs) | _=>none)=_
  rw [ZwJ h]
  rfl
 unfold zN
 rw [this]
 simp only [cp,if_true]
 rw [show ([("row",il e.come)]:List (Str×D)).lookup ("row":Str)=some (il e.come) by with_unfolding_all rfl]
@[simp] theorem ZzA (h:l+3 < θ.length) (e:Zm) (r:List Int):za ["Pile"] "row" (il r) (.ref (l+1)) (upE θ l e)=some (upE θ l { e with Qr:=r }):=by
 have:ZeW (upE θ l e) (.ref (l+1))=some (l+1,("Pile":Str),[(("row":Str),il e.Qr)]):=by
  show (match (upE θ l e)[l+1]? with | some (Cell.ins C fs)=>some (l+1,C,fs) | _=>none)=_
  rw [at1 h]
  rfl
 unfold za
 rw [this]
 simp only [cp]
 rw [if_pos ⟨trivial,show 1<1000 by decide⟩,show ZaC ("row":Str) (il r) [("row",il e.Qr)]=[(("row":Str),il r)] by with_unfolding_all rfl]
 congr 1
 unfold upE
 apply List.ext_getElem?
 intro i
 simp only [YZ,Yx]
 by_cases q:l+1=i
 ·subst q; simp [c1]
 ·simp [q,c0,c2,c3,fields]
@[simp] theorem ZzB (h:l+3 < θ.length) (e:Zm) (r:List Int):za ["Pile"] "row" (il r) (.ref (l+2)) (upE θ l e)=some (upE θ l { e with come:=r }):=by
 have:ZeW (upE θ l e) (.ref (l+2))=some (l+2,("Pile":Str),[(("row":Str),il e.come)]):=by
  show (match (upE θ l e)[l+2]? with | some (Cell.ins C fs)=>some (l+2,C,fs) | _=>none)=_
  rw [ZwJ h]
  rfl
 unfold za
 rw [this]
 simp only [cp]
 rw [if_pos ⟨trivial,show 1<1000 by decide⟩,show ZaC ("row":Str) (il r) [("row",il e.come)]=[(("row":Str),il r)] by with_unfolding_all rfl]
 congr 1
 unfold upE
 apply List.ext_getElem?
 intro i
 simp only [YZ,Yx]
 by_cases q:l+2=i
 ·subst q; simp [c2]
 ·simp [q,c0,c1,c3,fields]
end
@[simp] theorem ZfU:("closed":Str)=State.closed.s:=nr rfl
@[simp] theorem Zvu:("listen":Str)=State.Qu.s:=nr rfl
@[simp] theorem Zu1:("syn sent":Str)=State.Qg.s:=nr rfl
@[simp] theorem Zu2:("syn come":Str)=State.Qf.s:=nr rfl
@[simp] theorem Zzg:("open":Str)=State.opn.s:=nr rfl
@[simp] theorem Zu0:("wait one":Str)=State.Qh.s:=nr rfl
@[simp] theorem ZuZ:("wait two":Str)=State.Qi.s:=nr rfl
@[simp] theorem ZrK:("close wait":Str)=State.Qk.s:=nr rfl
@[simp] theorem Zu5:("closing":Str)=State.Qm.s:=nr rfl
@[simp] theorem Zu4:("last ack":Str)=State.Ql.s:=nr rfl
@[simp] theorem ZtC:("time wait":Str)=State.Qj.s:=nr rfl
@[simp] theorem Zzh:("":Str)=Err.none.s:=nr rfl
@[simp] theorem Zu3:("refused":Str)=Err.refused.s:=nr rfl
@[simp] theorem ZwU:("reset":Str)=Err.reset.s:=nr rfl
@[simp] theorem Zzf:("time":Str)=Err.time.s:=nr rfl
theorem State.inj:∀a b:State,a.s=b.s↔a=b:=by
 intro a b
 constructor
 ·intro h
  cases a<;>cases b<;>first | rfl | (exact absurd h (by decide +kernel))
 ·intro h; rw [h]
theorem Err.inj:∀a b:Err,a.s=b.s↔a=b:=by
 intro a b
 constructor
 ·intro h
  cases a<;>cases b<;>first | rfl | (exact absurd h (by decide +kernel))
 ·intro h; rw [h]
theorem Zud (k:Nat) (x:Str):pl k (.str x)=PyData.strOk x:=by cases k<;>simp [pl]
theorem State.ok (a:State) (k:Nat):pl k (.str a.s)=true:=by
 rw [Zud]
 cases a<;>decide +kernel
section
variable {θ:Sto}
@[simp] theorem ZwD (a b:State):eqM (.str a.s) (.str b.s) θ=.ok (.bl (decide (a=b))) θ:=by
 rw [Zle (x:=.str a.s) (y:=.str b.s) (ZfO (State.ok a 9) (State.ok b 9) rfl rfl)]
 simp [State.inj]
@[simp] theorem Zwl (a b:State):neM (.str a.s) (.str b.s) θ=.ok (.bl (!decide (a=b))) θ:=by
 rw [Zjl (x:=.str a.s) (y:=.str b.s) (ZfO (State.ok a 9) (State.ok b 9) rfl rfl)]
 simp [State.inj]
theorem ZfJ (a:State):∀bs:List State,ZgV (bs.map fun b=>D.str b.s)=true/\memS a.s (bs.map fun b=>D.str b.s)=decide (a∈bs)
 | []=>⟨rfl,by simp [memS]⟩
 | b::bs=>by
  obtain ⟨h1,h2⟩:=ZfJ a bs
  refine ⟨h1,?_⟩
  rw [Yf]
  show (decide (b.s=a.s) || memS a.s (bs.map fun b=>D.str b.s))=_
  rw [h2,Jb]
  simp only [YO,decide_eq_true_eq,Yq,State.inj]
  constructor
  ·rintro (h | h)
   ·exact .inl h.symm
   ·exact .inr h
  ·rintro (h | h)
   ·exact .inl h.symm
   ·exact .inr h
theorem ZgN (a:State) (bs:List State):inM (.str a.s) (.tup (bs.map fun b=>.str b.s)) θ=.ok (.bl (decide (a∈bs))) θ:=by
 obtain ⟨h1,h2⟩:=ZfJ a bs
 have e:inD θ (.str a.s) (.tup (bs.map fun b=>D.str b.s))=some (decide (a∈bs)):=by
  unfold inD
  simp only [ZeJ]
  rw [if_pos h1,h2]
 unfold inM
 rw [e]
theorem Zee (a:State) (bs:List State):ZcQ (.str a.s) (.tup (bs.map fun b=>.str b.s)) θ=.ok (.bl (!decide (a∈bs))) θ:=by
 obtain ⟨h1,h2⟩:=ZfJ a bs
 have e:inD θ (.str a.s) (.tup (bs.map fun b=>D.str b.s))=some (decide (a∈bs)):=by
  unfold inD
  simp only [ZeJ]
  rw [if_pos h1,h2]
 unfold ZcQ
 rw [e]
@[simp] theorem ZAE (a b c:State):inM (.str a.s) (.tup [.str b.s,.str c.s]) θ=.ok (.bl (decide (a∈[b,c]))) θ:=ZgN a [b,c]
@[simp] theorem ZAD (a b c d:State):inM (.str a.s) (.tup [.str b.s,.str c.s,.str d.s]) θ=.ok (.bl (decide (a∈[b,c,d]))) θ:=ZgN a [b,c,d]
@[simp] theorem ZAC (a b c d e f:State):inM (.str a.s) (.tup [.str b.s,.str c.s,.str d.s,.str e.s,.str f.s]) θ=.ok (.bl (decide (a∈[b,c,d,e,f]))) θ:=ZgN a [b,c,d,e,f]
@[simp] theorem Zwk (a b c:State):ZcQ (.str a.s) (.tup [.str b.s,.str c.s]) θ=.ok (.bl (!decide (a∈[b,c]))) θ:=Zee a [b,c]
@[simp] theorem Zwj (a b c d:State):ZcQ (.str a.s) (.tup [.str b.s,.str c.s,.str d.s]) θ=.ok (.bl (!decide (a∈[b,c,d]))) θ:=Zee a [b,c,d]
@[simp] theorem Zwi (a b c d e:State):ZcQ (.str a.s) (.tup [.str b.s,.str c.s,.str d.s,.str e.s]) θ=.ok (.bl (!decide (a∈[b,c,d,e]))) θ:=Zee a [b,c,d,e]
end
noncomputable def Zy (n k:Int):Int:=(n+k) % 4294967296
noncomputable def Z3 (n b:Int):Int:=(n-b+2147483648) % 4294967296-2147483648
noncomputable def startTimer (e:Zm) (now:Int):Zm:={ e with Qq:=now,wait:=1000,Qp:=0 }
noncomputable def ZH (e:Zm):Int:=64-(e.come.length:Int)
noncomputable def ZL (e:Zm):Int:=if 16<e.most then 16 else e.most
noncomputable def zv (e:Zm) (now:Int):Bool:=decide (e.wait<=now-e.Qq)
noncomputable def Zcl (e:Zm) (n f:Int) (data:List Int):Seg:=⟨e.ours,e.Qt,n,e.rcv,f+16,ZH e,0,data⟩
noncomputable def Zcz (e:Zm):Seg:=if e.Qw=.Qg then ⟨e.ours,e.Qt,e.first,0,2,64,16,[]⟩ else ⟨e.ours,e.Qt,e.first,e.rcv,18,64,16,[]⟩
noncomputable def mn (i j:Int):Int:=if j<i then j else i
noncomputable def Zaz (e:Zm):List Int:=ZbA e.Qr none (some (mn (Z3 e.nxt e.una) (ZL e)))
noncomputable def again (e:Zm) (now:Int):Option Seg×Zm:=
 if e.Qp=6 then (none,{ e with Qw:=.closed,error:=.time })
 else
  let e1:={ e with Qp:=e.Qp+1,wait:=mn (2*e.wait) 16000,Qq:=now }
  if e.Qw=.Qg\/e.Qw=.Qf then (some (Zcz e1),{ e1 with Qe:=false })
  else (some (Zcl e1 e.una (if 0<(Zaz e).length then 0 else 1) (Zaz e)),e1)
noncomputable def Zb9 (e:Zm):Int:=Z3 e.Qs e.nxt
noncomputable def Zat (e:Zm):Bool:=decide (e.Qw∈[State.opn,.Qh,.Qk,.Qm,.Ql]) && decide (0<Zb9 e)
noncomputable def hasNewFin (e:Zm):Bool:=decide (e.Qw∈[State.Qh,.Qm,.Ql]) && decide (Zb9 e=0)
noncomputable def zE (e:Zm):Bool:=Zat e || hasNewFin e
section
variable {θ:Sto} {l:Nat} {e:Zm} {now n k:Int}
@[simp] theorem Zzi:zw [.int n,.int k] θ=.ok (.int (Zy n k)) θ:=by simp [zw,ZkI,Zy]
@[simp] theorem Zvz:zI [.int n,.int k] θ=.ok (.int (Z3 n k)) θ:=by simp [zI,Zh7,Z3]
@[simp] theorem ZoR (h:l+3 < θ.length):zc [.ref l,.int now] (upE θ l e)=.ok .non (upE θ l (startTimer e now)):=by
 simp [zc,ZeF,h,startTimer]
@[simp] theorem Zqj (h:l+3 < θ.length):Zeb [.ref l] (upE θ l e)=.ok (.str e.Qw.s) (upE θ l e):=by
 simp [Zeb,ZiZ,h]
@[simp] theorem Zqq (h:l+3 < θ.length):Zfo [.ref l] (upE θ l e)=.ok (.str e.error.s) (upE θ l e):=by
 simp [Zfo,Zi0,h]
@[simp] theorem ZwW (h:l+3 < θ.length):Zec [.ref (l+2)] (upE θ l e)=.ok (.int (ZH e)) (upE θ l e):=by
 simp [Zec,Zh5,h,ZH]
@[simp] theorem Zql (h:l+3 < θ.length):zT [.ref l] (upE θ l e)=.ok (.int (ZH e)) (upE θ l e):=by
 simp [zT,Ze6,h]
@[simp] theorem Znd (h:l+3 < θ.length):Zao [.ref l] (upE θ l e)=.ok (.int (ZL e)) (upE θ l e):=by
 simp [Zao,ZdZ,h,ZL]
@[simp] theorem ZvC (h:l+3 < θ.length):Zdc [.ref l,.int now] (upE θ l e)=.ok (.bl (zv e now)) (upE θ l e):=by
 simp [Zdc,Zia,h,zv]
theorem ZvO (a b c d f g i:Int) (x:List Int):D.tup [.int a,.int b,.int c,.int d,.int f,.int g,.int i,itp x]=(Seg.mk a b c d f g i x).d:=rfl
theorem ZkX (a b c d f g i:Int):D.tup [.int a,.int b,.int c,.int d,.int f,.int g,.int i,.tup []]=(Seg.mk a b c d f g i []).d:=rfl
@[simp] theorem ZtJ (h:l+3 < θ.length):ZbR [.ref l] (upE θ l e)=.ok (Zcz e).d (upE θ l { e with Qe:=false }):=by
 by_cases c:e.Qw=.Qg<;>simp [ZbR,Zgm,Ze4,h,Zcz,c,ZkX]
@[simp] theorem Zqk {f:Int} {data:List Int} (h:l+3 < θ.length):zH [.ref l,.int n,.int f,il data] (upE θ l e)=.ok (Zcl e n f data).d (upE θ l e):=by
 simp [zH,Ze2,h,Zcl,ZvO]
theorem Zqu (h:l+3 < θ.length):Zdt [.ref l,.int now] (upE θ l e)=.ok (Zbs (again e now).1) (upE θ l (again e now).2):=by
 by_cases c:e.Qp=6
 ·simp [Zdt,Zd4,ZcM,h,again,c,Zbs]
 ·by_cases c2:e.Qw=.Qg\/e.Qw=.Qf
  ·simp [Zdt,Zd4,ZcM,ZdG,h,again,c,c2,Zbs,ZfT,mn]
  ·have am:∀e':Zm,e'.most=e.most->ZL e'=ZL e:=fun e' h=>by unfold ZL; rw [h]
   have ad:Zaz e=ZbA e.Qr none (some (mn (Z3 e.nxt e.una) (ZL e))):=rfl
   have sl:∀e':Zm,e'.Qr=e.Qr->Zgx (upE θ l e') (il e'.Qr) none (some (if ZL e<Z3 e.nxt e.una then ZL e else Z3 e.nxt e.una))=some (il (Zaz e)):=fun e' h'=>by
    rw [Zoi,h']; rfl
   unfold again
   rw [if_neg c,if_neg c2]
   have c2':¬(e.Qw=State.Qg\/e.Qw=State.Qf):=c2
   by_cases c3:0<(Zaz e).length
   ·rw [if_pos c3]
    have c3':(0:Int)<(Zaz e).length:=by omega
    simp [Zdt,Zd4,ZcM,ZdG,h,c,c2',ZfT,mn,am,sl,c3,c3',Zbs,-Zoi,Zcl,ZH]
   ·rw [if_neg c3]
    have c3':¬(0:Int)<(Zaz e).length:=by omega
    simp [Zdt,Zd4,ZcM,ZdG,h,c,c2',ZfT,mn,am,sl,c3,c3',Zbs,-Zoi,Zcl,ZH]
@[simp] theorem Zvx (h:l+3 < θ.length):ZbI [.ref l] (upE θ l e)=.ok (.int (Zb9 e)) (upE θ l e):=by
 simp [ZbI,Zh1,h,Zb9]
@[simp] theorem Znf (h:l+3 < θ.length):Zaq [.ref l] (upE θ l e)=.ok (.bl (Zat e)) (upE θ l e):=by
 simp [Zaq,Zd2,h,Zat]
@[simp] theorem ZoT (h:l+3 < θ.length):ZbK [.ref l] (upE θ l e)=.ok (.bl (hasNewFin e)) (upE θ l e):=by
 simp [ZbK,ZeG,h,hasNewFin]
@[simp] theorem ZtS (h:l+3 < θ.length):ZbT [.ref l] (upE θ l e)=.ok (.bl (zE e)) (upE θ l e):=by
 simp [ZbT,Zgp,h,zE]
end
noncomputable def mn3 (i j k:Int):Int:=if j<i then (if k<j then k else j) else (if k<i then k else i)
noncomputable def ZcB (e:Zm) (room:Int):Int:=mn3 (ZL e) (Zb9 e) room
noncomputable def Zef (e:Zm) (room:Int):Seg×Zm:=
 let e1:={ e with nxt:=Zy e.nxt (ZcB e room) }
 (Zcl e1 e.nxt (if Zb9 e1=0 then 8 else 0) (ZbA e.Qr (some (Z3 e.nxt e.una)) (some (Z3 e.nxt e.una+ZcB e room))),e1)
noncomputable def ZgF (e:Zm):Seg×Zm:=(Zcl e e.nxt 1 [],{ e with nxt:=Zy e.nxt 1 })
noncomputable def Zas (e:Zm) (room:Int):Seg×Zm:=if Zat e=true then Zef { e with Qo:=false } room else ZgF { e with Qo:=false }
noncomputable def ZdK (e:Zm) (now:Int):Seg×Zm:=
 let e1:=if e.nxt=e.una then startTimer e now else e
 (Zcz { e1 with nxt:=Zy e.first 1 },{ e1 with nxt:=Zy e.first 1,Qe:=false })
noncomputable def zh (e:Zm) (now:Int):Option Seg×Zm:=
 if e.Qw=.Qg\/e.Qw=.Qf then
  if e.nxt=e.first\/e.Qe=true then (some (ZdK e now).1,(ZdK e now).2) else (none,e)
 else
  if e.wnd-Z3 e.nxt e.una<=0\/zE e=false then (none,e)
  else
   let e1:=if e.nxt=e.una then startTimer e now else e
   (some (Zas { e1 with Qa:=false } (e.wnd-Z3 e.nxt e.una)).1,(Zas { e1 with Qa:=false } (e.wnd-Z3 e.nxt e.una)).2)
noncomputable def Z0 (e:Zm) (now:Int):Option Seg×Zm:=
 if ¬e.nxt=e.una\/¬e.wnd=0\/zE e=false then (none,{ e with Qo:=false })
 else
  let e1:=if e.Qo=true then e else startTimer { e with Qo:=true } now
  if zv e1 now=true then (some (Zas { e1 with Qq:=now } 1).1,(Zas { e1 with Qq:=now } 1).2) else (none,e1)
noncomputable def Zal (e:Zm):Option Seg×Zm:=if e.Qa=true then (some (Zcl e e.nxt 0 []),{ e with Qa:=false }) else (none,e)
noncomputable def ZcC (e:Zm) (now:Int):Option Seg×Zm:=
 match zh e now with
 | (some s,e1)=>(some s,e1)
 | (none,e1)=>match Z0 e1 now with
  | (some s,e2)=>(some s,e2)
  | (none,e2)=>Zal e2
noncomputable def z8 (e:Zm) (now:Int):Option Seg×Zm:=
 match e.Qb with
 | some s=>(some s,{ e with Qb:=none })
 | none=>
  let e1:=if e.Qw=.Qj/\120000<=now-e.Qq then { e with Qw:=.closed } else e
  if e1.Qw=.closed\/e1.Qw=.Qu then (none,e1)
  else if ¬e1.nxt=e1.una/\zv e1 now=true then again e1 now
  else ZcC e1 now
section
variable {θ:Sto} {l:Nat} {e:Zm} {now n k:Int}
@[simp] theorem ZtK {r:Int} (h:l+3 < θ.length):Zcq [.ref l,.int r] (upE θ l e)=.ok (Zef e r).1.d (upE θ l (Zef e r).2):=by
 have em:(if Zb9 e<ZL e then (if r<Zb9 e then r else Zb9 e) else (if r<ZL e then r else ZL e))=ZcB e r:=rfl
 by_cases c:Zb9 { e with nxt:=Zy e.nxt (ZcB e r) }=0
 ·simp [Zcq,Zes,h,em]
  simp [Zef,c,Zcl,ZH,h]
 ·simp [Zcq,Zes,h,em]
  simp [Zef,c,Zcl,ZH,h]
@[simp] theorem Zu7 (h:l+3 < θ.length):ZdW [.ref l] (upE θ l e)=.ok (ZgF e).1.d (upE θ l (ZgF e).2):=by
 simp [ZdW,Zg7,h,ZgF,Zcl,ZH,Zdg]
@[simp] theorem ZrQ {r:Int} (h:l+3 < θ.length):Za2 [.ref l,.int r] (upE θ l e)=.ok (Zas e r).1.d (upE θ l (Zas e r).2):=by
 have hp:Zat { e with Qo:=false }=Zat e:=rfl
 by_cases c:Zat e=true
 ·simp [Za2,ZdO,h,Zas,c,hp]
 ·simp [Za2,ZdO,h,Zas,c,hp]
@[simp] theorem Zu6 (h:l+3 < θ.length):Zc3 [.ref l,.int now] (upE θ l e)=.ok (ZdK e now).1.d (upE θ l (ZdK e now).2):=by
 by_cases c:e.nxt=e.una
 ·simp [Zc3,Ze7,ZdN,h,ZdK,c,startTimer]
 ·simp [Zc3,Ze7,ZdN,h,ZdK,c]
theorem Zc7 (h:l+3 < θ.length):zb [.ref l,.int now] (upE θ l e)=.ok (Zbs (zh e now).1) (upE θ l (zh e now).2):=by
 by_cases c1:e.Qw=.Qg\/e.Qw=.Qf
 ·by_cases c2:e.nxt=e.first\/e.Qe=true
  ·simp [zb,zS,zz,h,zh,c1,c2,Zbs]
  ·simp [zb,zS,zz,h,zh,c1,c2,Zbs]
 ·by_cases c3:e.wnd-Z3 e.nxt e.una<=0
  ·simp [zb,zS,zz,Zau,h,zh,c1,c3,Zbs]
  ·by_cases c4:zE e=true
   ·by_cases c5:e.nxt=e.una
    ·have c3':=c3
     rw [c5] at c3'
     simp [zb,zS,zz,Zau,ZbW,h,zh,c1,c3',c4,c5,Zbs,startTimer]
    ·simp [zb,zS,zz,Zau,ZbW,h,zh,c1,c3,c4,c5,Zbs]
   ·simp [zb,zS,zz,Zau,h,zh,c1,c3,c4,Zbs]
theorem ZdQ (h:l+3 < θ.length):zd [.ref l,.int now] (upE θ l e)=.ok (Zbs (Z0 e now).1) (upE θ l (Z0 e now).2):=by
 by_cases c1:e.nxt=e.una
 ·by_cases c2:e.wnd=0
  ·by_cases c3:zE e=true
   ·by_cases c4:e.Qo=true
    ·by_cases c5:zv e now=true
     ·simp [zd,zy,zl,ZaL,ZaK,h,Z0,c1,c2,c3,c4,c5,Zbs]
     ·simp [zd,zy,zl,ZaL,ZaK,h,Z0,c1,c2,c3,c4,c5,Zbs]
    ·have c5:zv (startTimer { e with Qo:=true } now) now=false:=by simp [zv,startTimer]
     simp [zd,zy,zl,ZaL,ZaK,h,Z0,c1,c2,c3,c4,Zbs] at c5 ⊢
     simp [c5,zv,startTimer]
   ·simp [zd,zy,zl,h,Z0,c1,c2,c3,Zbs]
  ·simp [zd,zy,zl,h,Z0,c1,c2,Zbs]
 ·simp [zd,zy,zl,h,Z0,c1,Zbs]
theorem ZfX (h:l+3 < θ.length):Zad [.ref l] (upE θ l e)=.ok (Zbs (Zal e).1) (upE θ l (Zal e).2):=by
 by_cases c:e.Qa=true
 ·simp [Zad,ZbE,Zbf,h,Zal,c,Zbs,Zdg,Zcl,ZH]
 ·simp [Zad,ZbE,Zbf,h,Zal,c,Zbs]
@[simp] theorem Zvb:Zbs none=.non:=rfl
@[simp] theorem Zva (s:Seg):Zbs (some s)=s.d:=rfl
@[simp] theorem Zw7 (s:Seg):ZcJ s.d=false:=rfl
@[simp] theorem Zvf:ZcJ .non=true:=nr rfl
@[simp] theorem ZrX (h:l+3 < θ.length) (e:Zm):za ["End"] "owed_reset" .non (.ref l) (upE θ l e)=some (upE θ l { e with Qb:=none }):=ZfZ h e none
@[simp] theorem ZrW (h:l+3 < θ.length) (e:Zm) (s:Seg):za ["End"] "owed_reset" s.d (.ref l) (upE θ l e)=some (upE θ l { e with Qb:=some s }):=ZfZ h e (some s)
theorem Zis (h:l+3 < θ.length) (x:Sl):ZhE (Z5 2 (mCB zb (Zc (Zd 0) (Zc (Zd 1) Zi))) [.val (.ref l),.val (.int now),x] (upE θ l e)) (Zr Zb6 (Zr Zb5 (ZP (Zd 2)))) =
  .ok (.rt (Zbs (ZcC e now).1),[.val (.ref l),.val (.int now),.val (Zbs (ZcC e now).1)]) (upE θ l (ZcC e now).2):=by
 unfold ZcC
 cases c1:zh e now with
 | mk r1 e1=>
  cases r1 with
  | some s=>simp [h,Zc7,c1,Zb6,Zb5]
  | none=>
   cases c2:Z0 e1 now with
   | mk r2 e2=>
    cases r2 with
    | some s=>simp [h,Zc7,c1,Zb6,Zb5,ZdQ,c2]
    | none=>simp [h,Zc7,c1,Zb6,Zb5,ZdQ,c2,ZfX]
theorem Zlq (h:l+3 < θ.length):Zed [.ref l,.int now] (upE θ l e)=.ok (Zbs (z8 e now).1) (upE θ l (z8 e now).2):=by
 cases c0:e.Qb with
 | some s=>simp [Zed,Zfu,ZdD,h,z8,c0,ZcX,Ze5]
 | none=>
  have key:∀e1:Zm,(ZhE (Zb7 [.val (.ref l),.val (.int now),.no] (upE θ l e1)) (Zr ZcL (Zr (Z5 2 (mCB zb (Zc (Zd 0) (Zc (Zd 1) Zi)))) (Zr Zb6 (Zr Zb5 (ZP (Zd 2))))))).bind (fun p θ=>match p.1 with | .nx=>.ok .non θ | .rt d=>.ok d θ | _=>.bad) =
    .ok (Zbs (if e1.Qw=.closed\/e1.Qw=.Qu then (none,e1) else if ¬e1.nxt=e1.una/\zv e1 now=true then again e1 now else ZcC e1 now).1) (upE θ l (if e1.Qw=.closed\/e1.Qw=.Qu then (none,e1) else if ¬e1.nxt=e1.una/\zv e1 now=true then again e1 now else ZcC e1 now).2):=fun e1=>by
   by_cases c1:e1.Qw=.closed\/e1.Qw=.Qu
   ·simp [Zb7,h,c1]
   ·by_cases c2:e1.nxt=e1.una
    ·have g:=Zis (e:=e1) (now:=now) h .no
     simp at g
     simp [Zb7,ZcL,h,c1,c2]
     rw [g]
     simp
    ·by_cases c3:zv e1 now=true
     ·simp [Zb7,ZcL,h,c1,c2,c3,Zqu]
     ·have g:=Zis (e:=e1) (now:=now) h .no
      simp at g
      simp [Zb7,ZcL,h,c1,c2,c3]
      rw [g]
      simp
  by_cases c1:e.Qw=.Qj/\120000<=now-e.Qq
  ·have:=key { e with Qw:=.closed }
   simp [Zed,Zfu,ZdD,Zfb,h,z8,c0,c1] at this ⊢
   exact this
  ·have:=key e
   simp [Zed,Zfu,ZdD,Zfb,h,z8,c0,c1] at this ⊢
   exact this
noncomputable def Zd9 (e:Zm) (now:Int):List Int:=match (z8 e now).1 with
 | none=>[]
 | some s=>putL s
theorem ZtH (h:l+3 < θ.length) (hp:∀s,(z8 e now).1=some s->s.Put):ZdJ [.ref l,.int now] (upE θ l e)=.ok (il (Zd9 e now)) (upE θ l (z8 e now).2):=by
 unfold Zd9
 cases c:(z8 e now).1 with
 | none=>simp [ZdJ,Zh4,Zlq,h,c,Zdg]
 | some s=>simp [ZdJ,Zh4,Zlq,h,c,Zvy (hp s c)]
noncomputable def Zae (ours Qt first:Int) (active:Bool):Zm:=⟨ours,Qt,if active then .Qg else .Qu,.none,first,first,first,0,0,0,0,12,[],[],[],none,false,Zy first 1,none,false,false,false,0,1000,0⟩
noncomputable def cells (l:Nat) (e:Zm):Sto:=[c0 l e,c1 e,c2 e,c3 e]
theorem ZmL (θ r:Sto) (C:Str) (fs:List (Str×D)):ZeW (θ++.ins C fs::r) (.ref θ.length)=some (θ.length,C,fs):=by
 show (match (θ++.ins C fs::r)[θ.length]? with | some (Cell.ins C fs)=>some (θ.length,C,fs) | _=>none)=_
 rw [YA (Yb _),Y6]
 rfl
theorem Zix {f:Str} {y:D}:∀{fs:List (Str×D)},(fs.map Prod.fst).contains f=false->ZaC f y fs=fs++[(f,y)]
 | [],_=>rfl
 | (g,x)::r,h=>by
  rw [Yf,List.contains_cons,Bool.or_eq_false_iff] at h
  have hn:¬g=f:=fun e=>by rw [e,beq_self_eq_true] at h; cases h.1
  unfold ZaC
  rw [if_neg hn,Zix h.2]
  rfl
theorem Z4 {C f:Str} {y:D} (θ r:Sto) {fs:List (Str×D)} (h0:[C].contains C=true) (h1:(fs.map Prod.fst).contains f=false) (h2:fs.length<1000):za [C] f y (.ref θ.length) (θ++.ins C fs::r)=some (θ++.ins C (fs++[(f,y)])::r):=by
 unfold za
 rw [ZmL]
 simp only [h0]
 rw [if_pos ⟨trivial,h2⟩,Zix h1]
 congr 1
 rw [List.set_append,if_neg (YB _),Y6]
 rfl
theorem ZlP (S:Sto):mkG "Pile" Zb0 [] S=.ok (.ref S.length) (S++[.ins "Pile" [("row",il [])]]):=by
 have:=Z4 (C:="Pile") (f:="row") (y:=il []) S [] (fs:=[]) (by decide +kernel) rfl (by decide)
 simp [mkG,Zb0,ZfF,Zdg,this]
theorem ZnW (θ r:Sto) (y:D):za ["End"] "ours" y (.ref θ.length) (θ++.ins "End" []::r)=some (θ++.ins "End" [("ours",y)]::r):=Z4 θ r ce (by simp only [Yf,Ym]; decide +kernel) (by simp only [Yc,Yk]; decide)
theorem Zj9 (θ r:Sto) (x0 y:D):za ["End"] "theirs" y (.ref θ.length) (θ++.ins "End" [("ours",x0)]::r)=some (θ++.ins "End" [("ours",x0),("theirs",y)]::r):=Z4 θ r ce (by simp only [Yf,Ym]; decide +kernel) (by simp only [Yc,Yk]; decide)
theorem ZlH (θ r:Sto) (x0 x1 y:D):za ["End"] "state" y (.ref θ.length) (θ++.ins "End" [("ours",x0),("theirs",x1)]::r)=some (θ++.ins "End" [("ours",x0),("theirs",x1),("state",y)]::r):=Z4 θ r ce (by simp only [Yf,Ym]; decide +kernel) (by simp only [Yc,Yk]; decide)
theorem ZlK (θ r:Sto) (x0 x1 x2 y:D):za ["End"] "error" y (.ref θ.length) (θ++.ins "End" [("ours",x0),("theirs",x1),("state",x2)]::r)=some (θ++.ins "End" [("ours",x0),("theirs",x1),("state",x2),("error",y)]::r):=Z4 θ r ce (by simp only [Yf,Ym]; decide +kernel) (by simp only [Yc,Yk]; decide)
theorem ZlJ (θ r:Sto) (x0 x1 x2 x3 y:D):za ["End"] "first" y (.ref θ.length) (θ++.ins "End" [("ours",x0),("theirs",x1),("state",x2),("error",x3)]::r)=some (θ++.ins "End" [("ours",x0),("theirs",x1),("state",x2),("error",x3),("first",y)]::r):=Z4 θ r ce (by simp only [Yf,Ym]; decide +kernel) (by simp only [Yc,Yk]; decide)
theorem Zr3 (θ r:Sto) (x0 x1 x2 x3 x4 y:D):za ["End"] "una" y (.ref θ.length) (θ++.ins "End" [("ours",x0),("theirs",x1),("state",x2),("error",x3),("first",x4)]::r)=some (θ++.ins "End" [("ours",x0),("theirs",x1),("state",x2),("error",x3),("first",x4),("una",y)]::r):=Z4 θ r ce (by simp only [Yf,Ym]; decide +kernel) (by simp only [Yc,Yk]; decide)
theorem Zr5 (θ r:Sto) (x0 x1 x2 x3 x4 x5 y:D):za ["End"] "nxt" y (.ref θ.length) (θ++.ins "End" [("ours",x0),("theirs",x1),("state",x2),("error",x3),("first",x4),("una",x5)]::r)=some (θ++.ins "End" [("ours",x0),("theirs",x1),("state",x2),("error",x3),("first",x4),("una",x5),("nxt",y)]::r):=Z4 θ r ce (by simp only [Yf,Ym]; decide +kernel) (by simp only [Yc,Yk]; decide)
theorem Zr4 (θ r:Sto) (x0 x1 x2 x3 x4 x5 x6 y:D):za ["End"] "rcv" y (.ref θ.length) (θ++.ins "End" [("ours",x0),("theirs",x1),("state",x2),("error",x3),("first",x4),("una",x5),("nxt",x6)]::r)=some (θ++.ins "End" [("ours",x0),("theirs",x1),("state",x2),("error",x3),("first",x4),("una",x5),("nxt",x6),("rcv",y)]::r):=Z4 θ r ce (by simp only [Yf,Ym]; decide +kernel) (by simp only [Yc,Yk]; decide)
theorem Zr2 (θ r:Sto) (x0 x1 x2 x3 x4 x5 x6 x7 y:D):za ["End"] "wnd" y (.ref θ.length) (θ++.ins "End" [("ours",x0),("theirs",x1),("state",x2),("error",x3),("first",x4),("una",x5),("nxt",x6),("rcv",x7)]::r)=some (θ++.ins "End" [("ours",x0),("theirs",x1),("state",x2),("error",x3),("first",x4),("una",x5),("nxt",x6),("rcv",x7),("wnd",y)]::r):=Z4 θ r ce (by simp only [Yf,Ym]; decide +kernel) (by simp only [Yc,Yk]; decide)
theorem ZnV (θ r:Sto) (x0 x1 x2 x3 x4 x5 x6 x7 x8 y:D):za ["End"] "told" y (.ref θ.length) (θ++.ins "End" [("ours",x0),("theirs",x1),("state",x2),("error",x3),("first",x4),("una",x5),("nxt",x6),("rcv",x7),("wnd",x8)]::r)=some (θ++.ins "End" [("ours",x0),("theirs",x1),("state",x2),("error",x3),("first",x4),("una",x5),("nxt",x6),("rcv",x7),("wnd",x8),("told",y)]::r):=Z4 θ r ce (by simp only [Yf,Ym]; decide +kernel) (by simp only [Yc,Yk]; decide)
theorem ZiD (θ r:Sto) (x0 x1 x2 x3 x4 x5 x6 x7 x8 x9 y:D):za ["End"] "told_by" y (.ref θ.length) (θ++.ins "End" [("ours",x0),("theirs",x1),("state",x2),("error",x3),("first",x4),("una",x5),("nxt",x6),("rcv",x7),("wnd",x8),("told",x9)]::r)=some (θ++.ins "End" [("ours",x0),("theirs",x1),("state",x2),("error",x3),("first",x4),("una",x5),("nxt",x6),("rcv",x7),("wnd",x8),("told",x9),("told_by",y)]::r):=Z4 θ r ce (by simp only [Yf,Ym]; decide +kernel) (by simp only [Yc,Yk]; decide)
theorem ZnX (θ r:Sto) (x0 x1 x2 x3 x4 x5 x6 x7 x8 x9 x10 y:D):za ["End"] "most" y (.ref θ.length) (θ++.ins "End" [("ours",x0),("theirs",x1),("state",x2),("error",x3),("first",x4),("una",x5),("nxt",x6),("rcv",x7),("wnd",x8),("told",x9),("told_by",x10)]::r)=some (θ++.ins "End" [("ours",x0),("theirs",x1),("state",x2),("error",x3),("first",x4),("una",x5),("nxt",x6),("rcv",x7),("wnd",x8),("told",x9),("told_by",x10),("most",y)]::r):=Z4 θ r ce (by simp only [Yf,Ym]; decide +kernel) (by simp only [Yc,Yk]; decide)
theorem ZiC (θ r:Sto) (x0 x1 x2 x3 x4 x5 x6 x7 x8 x9 x10 x11 y:D):za ["End"] "written" y (.ref θ.length) (θ++.ins "End" [("ours",x0),("theirs",x1),("state",x2),("error",x3),("first",x4),("una",x5),("nxt",x6),("rcv",x7),("wnd",x8),("told",x9),("told_by",x10),("most",x11)]::r)=some (θ++.ins "End" [("ours",x0),("theirs",x1),("state",x2),("error",x3),("first",x4),("una",x5),("nxt",x6),("rcv",x7),("wnd",x8),("told",x9),("told_by",x10),("most",x11),("written",y)]::r):=Z4 θ r ce (by simp only [Yf,Ym]; decide +kernel) (by simp only [Yc,Yk]; decide)
theorem ZnY (θ r:Sto) (x0 x1 x2 x3 x4 x5 x6 x7 x8 x9 x10 x11 x12 y:D):za ["End"] "come" y (.ref θ.length) (θ++.ins "End" [("ours",x0),("theirs",x1),("state",x2),("error",x3),("first",x4),("una",x5),("nxt",x6),("rcv",x7),("wnd",x8),("told",x9),("told_by",x10),("most",x11),("written",x12)]::r)=some (θ++.ins "End" [("ours",x0),("theirs",x1),("state",x2),("error",x3),("first",x4),("una",x5),("nxt",x6),("rcv",x7),("wnd",x8),("told",x9),("told_by",x10),("most",x11),("written",x12),("come",y)]::r):=Z4 θ r ce (by simp only [Yf,Ym]; decide +kernel) (by simp only [Yc,Yk]; decide)
theorem ZlL (θ r:Sto) (x0 x1 x2 x3 x4 x5 x6 x7 x8 x9 x10 x11 x12 x13 y:D):za ["End"] "early" y (.ref θ.length) (θ++.ins "End" [("ours",x0),("theirs",x1),("state",x2),("error",x3),("first",x4),("una",x5),("nxt",x6),("rcv",x7),("wnd",x8),("told",x9),("told_by",x10),("most",x11),("written",x12),("come",x13)]::r)=some (θ++.ins "End" [("ours",x0),("theirs",x1),("state",x2),("error",x3),("first",x4),("una",x5),("nxt",x6),("rcv",x7),("wnd",x8),("told",x9),("told_by",x10),("most",x11),("written",x12),("come",x13),("early",y)]::r):=Z4 θ r ce (by simp only [Yf,Ym]; decide +kernel) (by simp only [Yc,Yk]; decide)
theorem Zg0 (θ r:Sto) (x0 x1 x2 x3 x4 x5 x6 x7 x8 x9 x10 x11 x12 x13 x14 y:D):za ["End"] "early_fin" y (.ref θ.length) (θ++.ins "End" [("ours",x0),("theirs",x1),("state",x2),("error",x3),("first",x4),("una",x5),("nxt",x6),("rcv",x7),("wnd",x8),("told",x9),("told_by",x10),("most",x11),("written",x12),("come",x13),("early",x14)]::r)=some (θ++.ins "End" [("ours",x0),("theirs",x1),("state",x2),("error",x3),("first",x4),("una",x5),("nxt",x6),("rcv",x7),("wnd",x8),("told",x9),("told_by",x10),("most",x11),("written",x12),("come",x13),("early",x14),("early_fin",y)]::r):=Z4 θ r ce (by simp only [Yf,Ym]; decide +kernel) (by simp only [Yc,Yk]; decide)
theorem Zf3 (θ r:Sto) (x0 x1 x2 x3 x4 x5 x6 x7 x8 x9 x10 x11 x12 x13 x14 x15 y:D):za ["End"] "has_closed" y (.ref θ.length) (θ++.ins "End" [("ours",x0),("theirs",x1),("state",x2),("error",x3),("first",x4),("una",x5),("nxt",x6),("rcv",x7),("wnd",x8),("told",x9),("told_by",x10),("most",x11),("written",x12),("come",x13),("early",x14),("early_fin",x15)]::r)=some (θ++.ins "End" [("ours",x0),("theirs",x1),("state",x2),("error",x3),("first",x4),("una",x5),("nxt",x6),("rcv",x7),("wnd",x8),("told",x9),("told_by",x10),("most",x11),("written",x12),("come",x13),("early",x14),("early_fin",x15),("has_closed",y)]::r):=Z4 θ r ce (by simp only [Yf,Ym]; decide +kernel) (by simp only [Yc,Yk]; decide)
theorem Zkc (θ r:Sto) (x0 x1 x2 x3 x4 x5 x6 x7 x8 x9 x10 x11 x12 x13 x14 x15 x16 y:D):za ["End"] "behind" y (.ref θ.length) (θ++.ins "End" [("ours",x0),("theirs",x1),("state",x2),("error",x3),("first",x4),("una",x5),("nxt",x6),("rcv",x7),("wnd",x8),("told",x9),("told_by",x10),("most",x11),("written",x12),("come",x13),("early",x14),("early_fin",x15),("has_closed",x16)]::r)=some (θ++.ins "End" [("ours",x0),("theirs",x1),("state",x2),("error",x3),("first",x4),("una",x5),("nxt",x6),("rcv",x7),("wnd",x8),("told",x9),("told_by",x10),("most",x11),("written",x12),("come",x13),("early",x14),("early_fin",x15),("has_closed",x16),("behind",y)]::r):=Z4 θ r ce (by simp only [Yf,Ym]; decide +kernel) (by simp only [Yc,Yk]; decide)
theorem Zf2 (θ r:Sto) (x0 x1 x2 x3 x4 x5 x6 x7 x8 x9 x10 x11 x12 x13 x14 x15 x16 x17 y:D):za ["End"] "owed_reset" y (.ref θ.length) (θ++.ins "End" [("ours",x0),("theirs",x1),("state",x2),("error",x3),("first",x4),("una",x5),("nxt",x6),("rcv",x7),("wnd",x8),("told",x9),("told_by",x10),("most",x11),("written",x12),("come",x13),("early",x14),("early_fin",x15),("has_closed",x16),("behind",x17)]::r)=some (θ++.ins "End" [("ours",x0),("theirs",x1),("state",x2),("error",x3),("first",x4),("una",x5),("nxt",x6),("rcv",x7),("wnd",x8),("told",x9),("told_by",x10),("most",x11),("written",x12),("come",x13),("early",x14),("early_fin",x15),("has_closed",x16),("behind",x17),("owed_reset",y)]::r):=Z4 θ r ce (by simp only [Yf,Ym]; decide +kernel) (by simp only [Yc,Yk]; decide)
theorem ZhJ (θ r:Sto) (x0 x1 x2 x3 x4 x5 x6 x7 x8 x9 x10 x11 x12 x13 x14 x15 x16 x17 x18 y:D):za ["End"] "owes_syn" y (.ref θ.length) (θ++.ins "End" [("ours",x0),("theirs",x1),("state",x2),("error",x3),("first",x4),("una",x5),("nxt",x6),("rcv",x7),("wnd",x8),("told",x9),("told_by",x10),("most",x11),("written",x12),("come",x13),("early",x14),("early_fin",x15),("has_closed",x16),("behind",x17),("owed_reset",x18)]::r)=some (θ++.ins "End" [("ours",x0),("theirs",x1),("state",x2),("error",x3),("first",x4),("una",x5),("nxt",x6),("rcv",x7),("wnd",x8),("told",x9),("told_by",x10),("most",x11),("written",x12),("come",x13),("early",x14),("early_fin",x15),("has_closed",x16),("behind",x17),("owed_reset",x18),("owes_syn",y)]::r):=Z4 θ r ce (by simp only [Yf,Ym]; decide +kernel) (by simp only [Yc,Yk]; decide)
theorem ZfB (θ r:Sto) (x0 x1 x2 x3 x4 x5 x6 x7 x8 x9 x10 x11 x12 x13 x14 x15 x16 x17 x18 x19 y:D):za ["End"] "owes_answer" y (.ref θ.length) (θ++.ins "End" [("ours",x0),("theirs",x1),("state",x2),("error",x3),("first",x4),("una",x5),("nxt",x6),("rcv",x7),("wnd",x8),("told",x9),("told_by",x10),("most",x11),("written",x12),("come",x13),("early",x14),("early_fin",x15),("has_closed",x16),("behind",x17),("owed_reset",x18),("owes_syn",x19)]::r)=some (θ++.ins "End" [("ours",x0),("theirs",x1),("state",x2),("error",x3),("first",x4),("una",x5),("nxt",x6),("rcv",x7),("wnd",x8),("told",x9),("told_by",x10),("most",x11),("written",x12),("come",x13),("early",x14),("early_fin",x15),("has_closed",x16),("behind",x17),("owed_reset",x18),("owes_syn",x19),("owes_answer",y)]::r):=Z4 θ r ce (by simp only [Yf,Ym]; decide +kernel) (by simp only [Yc,Yk]; decide)
theorem Zka (θ r:Sto) (x0 x1 x2 x3 x4 x5 x6 x7 x8 x9 x10 x11 x12 x13 x14 x15 x16 x17 x18 x19 x20 y:D):za ["End"] "probes" y (.ref θ.length) (θ++.ins "End" [("ours",x0),("theirs",x1),("state",x2),("error",x3),("first",x4),("una",x5),("nxt",x6),("rcv",x7),("wnd",x8),("told",x9),("told_by",x10),("most",x11),("written",x12),("come",x13),("early",x14),("early_fin",x15),("has_closed",x16),("behind",x17),("owed_reset",x18),("owes_syn",x19),("owes_answer",x20)]::r)=some (θ++.ins "End" [("ours",x0),("theirs",x1),("state",x2),("error",x3),("first",x4),("una",x5),("nxt",x6),("rcv",x7),("wnd",x8),("told",x9),("told_by",x10),("most",x11),("written",x12),("come",x13),("early",x14),("early_fin",x15),("has_closed",x16),("behind",x17),("owed_reset",x18),("owes_syn",x19),("owes_answer",x20),("probes",y)]::r):=Z4 θ r ce (by simp only [Yf,Ym]; decide +kernel) (by simp only [Yc,Yk]; decide)
theorem ZlI (θ r:Sto) (x0 x1 x2 x3 x4 x5 x6 x7 x8 x9 x10 x11 x12 x13 x14 x15 x16 x17 x18 x19 x20 x21 y:D):za ["End"] "since" y (.ref θ.length) (θ++.ins "End" [("ours",x0),("theirs",x1),("state",x2),("error",x3),("first",x4),("una",x5),("nxt",x6),("rcv",x7),("wnd",x8),("told",x9),("told_by",x10),("most",x11),("written",x12),("come",x13),("early",x14),("early_fin",x15),("has_closed",x16),("behind",x17),("owed_reset",x18),("owes_syn",x19),("owes_answer",x20),("probes",x21)]::r)=some (θ++.ins "End" [("ours",x0),("theirs",x1),("state",x2),("error",x3),("first",x4),("una",x5),("nxt",x6),("rcv",x7),("wnd",x8),("told",x9),("told_by",x10),("most",x11),("written",x12),("come",x13),("early",x14),("early_fin",x15),("has_closed",x16),("behind",x17),("owed_reset",x18),("owes_syn",x19),("owes_answer",x20),("probes",x21),("since",y)]::r):=Z4 θ r ce (by simp only [Yf,Ym]; decide +kernel) (by simp only [Yc,Yk]; decide)
theorem ZnU (θ r:Sto) (x0 x1 x2 x3 x4 x5 x6 x7 x8 x9 x10 x11 x12 x13 x14 x15 x16 x17 x18 x19 x20 x21 x22 y:D):za ["End"] "wait" y (.ref θ.length) (θ++.ins "End" [("ours",x0),("theirs",x1),("state",x2),("error",x3),("first",x4),("una",x5),("nxt",x6),("rcv",x7),("wnd",x8),("told",x9),("told_by",x10),("most",x11),("written",x12),("come",x13),("early",x14),("early_fin",x15),("has_closed",x16),("behind",x17),("owed_reset",x18),("owes_syn",x19),("owes_answer",x20),("probes",x21),("since",x22)]::r)=some (θ++.ins "End" [("ours",x0),("theirs",x1),("state",x2),("error",x3),("first",x4),("una",x5),("nxt",x6),("rcv",x7),("wnd",x8),("told",x9),("told_by",x10),("most",x11),("written",x12),("come",x13),("early",x14),("early_fin",x15),("has_closed",x16),("behind",x17),("owed_reset",x18),("owes_syn",x19),("owes_answer",x20),("probes",x21),("since",x22),("wait",y)]::r):=Z4 θ r ce (by simp only [Yf,Ym]; decide +kernel) (by simp only [Yc,Yk]; decide)
theorem ZlG (θ r:Sto) (x0 x1 x2 x3 x4 x5 x6 x7 x8 x9 x10 x11 x12 x13 x14 x15 x16 x17 x18 x19 x20 x21 x22 x23 y:D):za ["End"] "tries" y (.ref θ.length) (θ++.ins "End" [("ours",x0),("theirs",x1),("state",x2),("error",x3),("first",x4),("una",x5),("nxt",x6),("rcv",x7),("wnd",x8),("told",x9),("told_by",x10),("most",x11),("written",x12),("come",x13),("early",x14),("early_fin",x15),("has_closed",x16),("behind",x17),("owed_reset",x18),("owes_syn",x19),("owes_answer",x20),("probes",x21),("since",x22),("wait",x23)]::r)=some (θ++.ins "End" [("ours",x0),("theirs",x1),("state",x2),("error",x3),("first",x4),("una",x5),("nxt",x6),("rcv",x7),("wnd",x8),("told",x9),("told_by",x10),("most",x11),("written",x12),("come",x13),("early",x14),("early_fin",x15),("has_closed",x16),("behind",x17),("owed_reset",x18),("owes_syn",x19),("owes_answer",x20),("probes",x21),("since",x22),("wait",x23),("tries",y)]::r):=Z4 θ r ce (by simp only [Yf,Ym]; decide +kernel) (by simp only [Yc,Yk]; decide)
theorem ZtP {a b c:Int} {act:Bool} (θ:Sto):Zct [.ref θ.length,.int a,.int b,.int c,.bl act] (θ++[.ins "End" []])=.ok .non (θ++cells θ.length (Zae a b c act)):=by
 cases act with
 | true=>
  simp [Zct,Zew,ZlP,ZnW,Zj9,ZlH,ZlK,ZlJ,Zr3,Zr5,Zr4,Zr2,ZnV,ZiD,ZnX,ZiC,ZnY,ZlL,Zg0,Zf3,Zkc,Zf2,ZhJ,ZfB,Zka,ZlI,ZnU,ZlG]
  rfl
 | false=>
  simp [Zct,Zew,ZlP,ZnW,Zj9,ZlH,ZlK,ZlJ,Zr3,Zr5,Zr4,Zr2,ZnV,ZiD,ZnX,ZiC,ZnY,ZlL,Zg0,Zf3,Zkc,Zf2,ZhJ,ZfB,Zka,ZlI,ZnU,ZlG]
  rfl
theorem ZjO {a b c:Int} {act:Bool} (θ:Sto):ZbJ [.int a,.int b,.int c,.bl act] θ=.ok (.ref θ.length) (θ++cells θ.length (Zae a b c act)):=by
 simp [ZbJ,Zh6,mkG,ZtP]
end
end
end My
namespace L2
open PySem PySem.Spec PyProof.Rows
open AutoSeq1 (wpAny_loadPart')
theorem Zrs (tp:Addr) (its:Array Value) (k:Nat) (dct:Option Addr) (sl:Array (Option Value)) :
  Meets (Builtin.«enumerate.__new__» ⟨[.type "enumerate",.ref tp],[]⟩) (fun _ R s=>s.heap.get? tp=some { cls:=.type "tuple",dict:=dct,data:=.seq its k,slots:=sl }/\
   R (.ok (.ret (.ref (s.heap.push { cls:=.type "tuple_iterator",data:=.fields #[.ref tp,.int 0 0] }).objs.size)))
    { s with heap:=(s.heap.push { cls:=.type "tuple_iterator",data:=.fields #[.ref tp,.int 0 0] }).push { cls:=.type "enumerate",data:=.fields #[.none,.bool false,.ref s.heap.objs.size,rawInt 0,.none,.none] } }):=by
 refine .of_wp fun prog w A R s h=>?_
 obtain ⟨hp,g,d,tk,os⟩:=s
 obtain ⟨ht,h⟩:=h
 have hsub:=sub_enumerate
 have hT:Heap.IsTuple (Shared.heap ⟨hp,g,d,tk,os⟩) tp its:=⟨_,ht,rfl,k,rfl⟩
 wp_walk using wpAny_loadPart' ht
 refine wpAny_stack_any fun st=>?_
 refine wpAny_pure ?_
 split
 ·rename_i c _ _ _ _ _
  cases (c == Value.type "enumerate")<;>(wp_walk using wpAny_loadPart' ht,wpAny_pyIter_tuple hT; exact ⟨_,rfl,h⟩)
 ·wp_walk using wpAny_loadPart' ht,wpAny_pyIter_tuple hT; exact ⟨_,rfl,h⟩
section
variable {prog:Program} {w:World} {A:Around} {E:Value->Shared->Prop} {s:Shared}
theorem ZoG {tp:Addr} {its:Array Value} {Q:Value->Shared->Prop} (hT:s.heap.IsTuple tp its)
  (h:∀h',IsEnum h' (s.heap.objs.size+1) s.heap.objs.size 0 .none->h'.IsTupleIter s.heap.objs.size tp 0->h'.objs.size=s.heap.objs.size+2->(∀b o,s.heap.get? b=some o->h'.get? b=some o)->Q (.ref (s.heap.objs.size+1)) { s with heap:=h' }) :
  wpAny (model prog w) A (call (.type "enumerate") [.ref tp]) Q E s:=by
 obtain ⟨⟨c,dct,dt,sl⟩,ht,hc,k,hd⟩:=hT
 cases (show c=.type "tuple" from hc)
 cases (show dt=.seq its k from hd)
 refine callType_new F.called_enumerate (by decide) (F.typeCall_enumerate_1 _) (F.newCall_enumerate_1 _) (fun obj=>F.args_object_init_2 obj _) F.entry_enumerate_new (Zrs tp its k dct sl) ⟨ht,?_⟩
 have hz:(s.heap.push { cls:=.type "tuple_iterator",data:=.fields #[.ref tp,.int 0 0] }).objs.size=s.heap.objs.size+1:=Heap.size_push ..
 show _/\_
 rw [hz]
 have he:IsEnum ((s.heap.push { cls:=.type "tuple_iterator",data:=.fields #[.ref tp,.int 0 0] }).push { cls:=.type "enumerate",data:=.fields #[.none,.bool false,.ref s.heap.objs.size,rawInt 0,.none,.none] }) (s.heap.objs.size+1) s.heap.objs.size 0 .none:=by
  have q:=Heap.get?_push_size (s.heap.push { cls:=.type "tuple_iterator",data:=.fields #[.ref tp,.int 0 0] }) (o:={ cls:=.type "enumerate",data:=.fields #[.none,.bool false,.ref s.heap.objs.size,rawInt 0,.none,.none] }) rfl
  rw [hz] at q
  exact q
 exact ⟨⟨_,he,rfl⟩,h _ he ⟨_,Heap.get?_push_of_some _ (Heap.get?_push_size _ rfl),rfl,rfl⟩ (by rw [Heap.size_push,hz]) fun b o x=>Heap.get?_push_of_some _ (Heap.get?_push_of_some _ x)⟩
theorem Zk2 {it tp:Addr} {i:Nat} {its} {x:Value} {Q:Value->Shared->Prop} (hit:s.heap.IsTupleIter it tp i) (ht:s.heap.IsTuple tp its) (hx:its[i]?=some x)
  (hQ:∀h',h'.IsTupleIter it tp (i+1)->Heap.SameBut it s.heap h'->Q x { s with heap:=h' }):wpAny (model prog w) A (Builtin.SmallTypes.nextOf (.ref it)) Q E s:=by
 obtain ⟨o,ho,hc,hd⟩:=id hit
 obtain ⟨ol,hol,_,nl,hdl⟩:=ht
 unfold Builtin.SmallTypes.nextOf
 refine wpAny_bind (wpAny_callSpecial?_slot (name:=Str.ofString "__next__") hit.typeIs F.slot_tuple_iterator_next (wpAny_call_entry F.slot_tuple_iterator_next hit.typeIs F.entry_tuple_iterator_next ?_ (F.args_tuple_iterator_next_1 _)))
 show wpAny _ _ (field (.ref it) 0 >>= _) _ _ s
 refine wpAny_bind (wpAny_field ho hd (x:=.ref tp) rfl ?_)
 rw [if_neg (show ¬((Value.ref tp == Value.none)=true) from Yi)]
 refine wpAny_bind (wpAny_field ho hd (x:=.int i 0) rfl (wpAny_bind (wpAny_seqItems hol hdl ?_)))
 simp only [Int.toNat_natCast,hx]
 refine wpAny_bind (wpAny_setField ho hd (by simp) (wpAny_pure ⟨x,rfl,wpAny_pure (hQ _ ⟨_,Heap.get?_update_self _ ho (Obj.isFreed_of_fields (Obj.data_mapFields hd _)),(Obj.cls_mapFields ..).trans hc,?_⟩ (Heap.SameBut.update ..))⟩))
 rw [Obj.data_mapFields hd]
 simp [rawInt]
theorem ZmA {it tp:Addr} {i:Nat} {its} {Q:Value->Shared->Prop} (hh:A.handled=none) (hit:s.heap.IsTupleIter it tp i) (ht:s.heap.IsTuple tp its) (hx:its[i]?=none)
  (hE:∀h' e,Heap.ExtBut it s.heap h'->(∃o,h'.get? e=some o/\o.cls=.type "StopIteration")->E (.ref e) { s with heap:=h' }):wpAny (model prog w) A (Builtin.SmallTypes.nextOf (.ref it)) Q E s:=by
 obtain ⟨o,ho,hc,hd⟩:=id hit
 obtain ⟨ol,hol,_,nl,hdl⟩:=ht
 unfold Builtin.SmallTypes.nextOf
 refine wpAny_bind (wpAny_callSpecial?_slot (name:=Str.ofString "__next__") hit.typeIs F.slot_tuple_iterator_next (wpAny_call_entry F.slot_tuple_iterator_next hit.typeIs F.entry_tuple_iterator_next ?_ (F.args_tuple_iterator_next_1 _)))
 show wpAny _ _ (field (.ref it) 0 >>= _) _ _ s
 refine wpAny_bind (wpAny_field ho hd (x:=.ref tp) rfl ?_)
 rw [if_neg (show ¬((Value.ref tp == Value.none)=true) from Yi)]
 refine wpAny_bind (wpAny_field ho hd (x:=.int i 0) rfl (wpAny_bind (wpAny_seqItems hol hdl ?_)))
 simp only [Int.toNat_natCast,hx]
 refine wpAny_bind (wpAny_rule (wpAny_bind (wpAny_setField ho hd (by simp) ?_)))
 refine wpAny_bind (m:=newExc (.type "StopIteration") []) ?_
 simp only [newExc,newTuple]
 refine wpAny_bind (wpAny_newObj_type (wpAny_bind (m:=firstArgMember _ _) (wpAny_of_eq (a:=Value.none) (by first | rfl | (simp only [firstArgMember]; rfl)) (wpAny_newObj_type ?_ (by size_fits)))) (by size_fits))
 simp only [raiseNew]
 refine wpAny_bind (wpAny_handled ?_)
 rw [show A.in1.handled=none from hh]
 exact wpAny_bind (wpAny_pure (wpAny_throw (hE _ _ (((Heap.SameBut.update ..).extBut.push _).push _) ⟨_,Heap.get?_push_size _ rfl,rfl⟩)))
theorem Zou {e it tp:Addr} {i:Nat} {its:Array Value} {x old:Value} {Q:Value->Shared->Prop} (he:IsEnum s.heap e it i old) (hit:s.heap.IsTupleIter it tp i) (ht:s.heap.IsTuple tp its) (hx:its[i]?=some x) (hne:e≠it)
  (hQ:∀h',IsEnumOut h' e it ((i:Int)+1) x s.heap.objs.size->h'.IsTupleIter it tp (i+1)->h'.get? s.heap.objs.size=some { cls:=.type "tuple",data:=.seq #[.int i s.toks,x] }->h'.objs.size=s.heap.objs.size+1->(∀b o,b≠e->b≠it->s.heap.get? b=some o->h'.get? b=some o)->Q (.ref s.heap.objs.size) { s with heap:=h',toks:=s.toks+1 }) :
  wpAny (model prog w) A (Builtin.«enumerate.__next__» ⟨[.ref e],[]⟩) (fun fin s'=>∃v,fin=.done (.ret v)/\Q v s') E s:=by
 obtain ⟨hp,g,d,tk,os⟩:=s
 show wpAny _ _ (field (.ref e) 2 >>= _) _ _ _
 refine wpAny_bind (wpAny_field he rfl (x:=.ref it) rfl (wpAny_bind (Zk2 hit ht hx fun h1 hit1 hs1=>?_)))
 replace hs1:Heap.SameBut it hp h1:=hs1
 have he1:IsEnum h1 e it i old:=(hs1.2 e hne).trans he
 refine wpAny_bind (wpAny_field (s:=⟨h1,g,d,tk,os⟩) he1 rfl (x:=rawInt i) rfl ?_)
 refine wpAny_bind (wpAny_field (s:=⟨h1,g,d,tk,os⟩) he1 rfl (x:=.none) rfl ?_)
 show wpAny _ _ (mkInt i >>= _) _ _ ⟨h1,g,d,tk,os⟩
 refine wpAny_bind (wpAny_mkInt ?_)
 show wpAny _ _ (setField (.ref e) 3 (rawInt ((i:Int)+1)) >>= _) _ _ ⟨h1,g,d,tk+1,os⟩
 refine wpAny_bind (wpAny_setField_rec he1 (by simp) fun h2 he2 hs2=>?_)
 replace hs2:Heap.SameBut e h1 h2:=hs2
 replace he2:IsEnum h2 e it ((i:Int)+1) old:=he2
 show wpAny _ _ (setField (.ref e) 4 .none >>= _) _ _ ⟨h2,g,d,tk+1,os⟩
 refine wpAny_bind (wpAny_setField_rec he2 (by simp) fun h3 he3 hs3=>?_)
 replace hs3:Heap.SameBut e h2 h3:=hs3
 replace he3:IsEnum h3 e it ((i:Int)+1) old:=he3
 show wpAny _ _ (newTuple [.int i tk,x] >>= _) _ _ ⟨h3,g,d,tk+1,os⟩
 refine wpAny_bind (wpAny_newTuple ?_)
 have he4:IsEnum (h3.push { cls:=.type "tuple",data:=.seq #[.int i tk,x] }) e it ((i:Int)+1) old:=Heap.get?_push_of_some _ he3
 obtain ⟨h4,hh4⟩:∃z,z=h3.push { cls:=.type "tuple",data:=.seq #[.int i tk,x] }:=⟨_,rfl⟩
 rw [<-hh4] at he4
 have hsz:h3.objs.size=hp.objs.size:=by rw [hs3.1,hs2.1,hs1.1]
 have hel:hp.objs.size≠e:=Jj (Heap.lt_size he)
 have ht4:h4.get? hp.objs.size=some { cls:=.type "tuple",data:=.seq #[.int i tk,x] }:=by rw [hh4,<-hsz]; exact Heap.get?_push_size _ rfl
 have hz4:h4.objs.size=hp.objs.size+1:=by rw [hh4,Heap.size_push,hsz]
 have hk4:∀b o,b≠e->b≠it->hp.get? b=some o->h4.get? b=some o:=fun b o q1 q2 q3=>by
  rw [hh4]
  exact Heap.get?_push_of_some _ (hs3.extBut b o q1 (hs2.extBut b o q1 (hs1.extBut b o q2 q3)))
 have hit4:h4.IsTupleIter it tp (i+1):=by
  obtain ⟨o,ho,r⟩:=(hit1.extBut hs2.extBut (Ne.symm hne)).extBut hs3.extBut (Ne.symm hne)
  exact ⟨o,by rw [hh4]; exact Heap.get?_push_of_some _ ho,r⟩
 show wpAny _ _ (Builtin.SmallTypes.ownedTupleIsFree (.ref e) >>= _) _ _ ⟨h3.push { cls:=.type "tuple",data:=.seq #[.int i tk,x] },g,d,tk+1,os⟩
 rw [<-hh4,hsz]
 refine wpAny_bind ?_
 unfold Builtin.SmallTypes.ownedTupleIsFree
 refine wpAny_bind (wpAny_field he4 rfl (x:=.none) rfl (wpAny_pure ?_))
 simp only [if_true]
 refine wpAny_bind (wpAny_rule (wpAny_bind (wpAny_field he4 rfl (x:=old) rfl (wpAny_bind (wpAny_setField_rec he4 (by simp) fun h5 he5 hs5=>?_)))))
 replace hs5:Heap.SameBut e h4 h5:=hs5
 replace he5:IsEnum h5 e it ((i:Int)+1) x:=he5
 refine wpAny_bind (m:=Builtin.SmallTypes.ownedTupleHandOut (.ref e) (.ref hp.objs.size)) ?_
 unfold Builtin.SmallTypes.ownedTupleHandOut
 refine wpAny_bind (wpAny_setField_rec he5 (by simp) fun h6 he6 hs6=>?_)
 replace hs6:Heap.SameBut e h5 h6:=hs6
 replace he6:IsEnumOut h6 e it ((i:Int)+1) x hp.objs.size:=he6
 refine wpAny_setField_rec he6 (by simp) fun h7 he7 hs7=>?_
 replace hs7:Heap.SameBut e h6 h7:=hs7
 replace he7:IsEnumOut h7 e it ((i:Int)+1) x hp.objs.size:=he7
 have up:∀b o,b≠e->h4.get? b=some o->h7.get? b=some o:=fun b o q1 q2=>hs7.extBut b o q1 (hs6.extBut b o q1 (hs5.extBut b o q1 q2))
 refine wpAny_bind (wpAny_letGo (wpAny_pure ⟨_,rfl,hQ h7 he7 ?_ (up _ _ hel ht4) (by rw [hs7.1,hs6.1,hs5.1,hz4]) fun b o q1 q2 q3=>up b o q1 (hk4 b o q1 q2 q3)⟩))
 obtain ⟨o,ho,r⟩:=hit4
 exact ⟨o,up _ _ (Ne.symm hne) ho,r⟩
theorem Zov {e it tp:Addr} {i:Nat} {its:Array Value} {x old:Value} {Q:Option Value->Shared->Prop} (he:IsEnum s.heap e it i old) (hit:s.heap.IsTupleIter it tp i) (ht:s.heap.IsTuple tp its) (hx:its[i]?=some x) (hne:e≠it)
  (hQ:∀h',IsEnumOut h' e it ((i:Int)+1) x s.heap.objs.size->h'.IsTupleIter it tp (i+1)->h'.get? s.heap.objs.size=some { cls:=.type "tuple",data:=.seq #[.int i s.toks,x] }->h'.objs.size=s.heap.objs.size+1->(∀b o,b≠e->b≠it->s.heap.get? b=some o->h'.get? b=some o)->Q (some (.ref s.heap.objs.size)) { s with heap:=h',toks:=s.toks+1 }) :
  wpAny (model prog w) A (pyNext (.ref e)) Q E s:=by
 have hT:s.TypeIs (.ref e) "enumerate":=⟨_,he,rfl⟩
 unfold pyNext
 exact wpAny_bind (wpAny_attempt (wpAny_callSpecial?_slot (name:=Str.ofString "__next__") hT F.slot_enumerate_next (wpAny_call_entry F.slot_enumerate_next hT F.entry_enumerate_next (Zou he hit ht hx hne fun h' a b c d k=>wpAny_pure (hQ h' a b c d k)) (F.args_enumerate_next_1 _))))
theorem Zrt {e it tp:Addr} {i:Nat} {its:Array Value} {old:Value} {Q:Option Value->Shared->Prop} (hh:A.handled=none) (he:IsEnum s.heap e it i old) (hit:s.heap.IsTupleIter it tp i) (ht:s.heap.IsTuple tp its) (hx:its[i]?=none)
  (hQ:∀h',Heap.ExtBut it s.heap h'->Q none { s with heap:=h' }):wpAny (model prog w) A (pyNext (.ref e)) Q E s:=by
 have hT:s.TypeIs (.ref e) "enumerate":=⟨_,he,rfl⟩
 unfold pyNext
 refine wpAny_bind (wpAny_attempt (wpAny_callSpecial?_slot (name:=Str.ofString "__next__") hT F.slot_enumerate_next (wpAny_call_entry F.slot_enumerate_next hT F.entry_enumerate_next ?_ (F.args_enumerate_next_1 _))))
 show wpAny _ _ (field (.ref e) 2 >>= _) _ _ _
 refine wpAny_bind (wpAny_field he rfl (x:=.ref it) rfl (wpAny_bind (ZmA hh hit ht hx fun h' x he' hx'=>?_)))
 obtain ⟨o,ho,hc⟩:=hx'
 exact wpAny_bind (wpAny_isInstance (T:="StopIteration") (b:=true) ⟨o,ho,hc⟩ isSubtype_stop (wpAny_pure (hQ _ he')))
noncomputable def Ite (K:PySem.W.Frag) (a:Addr):It:=
 ⟨fun i H=>∃xs x,SqT K H a xs/\xs[i]?=some x,fun i H x H'=>∃p v,x=.ref p/\H p=none/\H'=upd H p (.tup [.int i,v])/\∀xs,SqT K H a xs->xs[i]?=some v,fun i H=>∃xs,SqT K H a xs/\xs.length<=i⟩
theorem Zm9 {P:Program} {w:World} {K:PySem.W.Frag} {es:List Expr} {x1} {pos:Pos} (a e it:Addr) (hne:e≠it) (ha:a≠e) (hb:a≠it):Zlh P w K (.Tuple es x1 pos) (Ite K a) [e,it] e (fun i h=>(∃old,IsEnum h e it i old)/\h.IsTupleIter it a i) where
 mem:=by simp
 obj:=fun i h st b hb=>by
  obtain ⟨⟨old,st1⟩,o,e1,c,d⟩:=st
  have q:b=e\/b=it:=by simpa using hb
  rcases q with rfl | rfl
  ·exact ⟨_,st1,fun v z=>by
    have z':Data.fields _=Data.cell v:=z
    cases z'⟩
  ·exact ⟨o,e1,fun v z=>by rw [d] at z; cases z⟩
 keep:=fun i h h' st k=>by
  obtain ⟨⟨old,st1⟩,o,e1,r⟩:=st
  exact ⟨⟨old,k e (by simp) _ st1⟩,o,k it (by simp) o e1,r⟩
 item:=by
  intro X hP hw hK hc i pins s σ H E I hf st hg
  subst hP hw hK
  obtain ⟨⟨old,st1⟩,st2⟩:=st
  obtain ⟨xs,x,hq,hx⟩:=hg
  obtain ⟨its,rv,p,hz⟩:=I.tuple hq
  obtain ⟨u,hu,ru⟩:=rv.get hx
  obtain ⟨f0,f1,f2,f3,f4,f5⟩:=hf e (by simp)
  obtain ⟨g0,g1,g2,g3,g4,g5⟩:=hf it (by simp)
  refine Zov st1 st2 (show s.heap.IsTuple a its.toArray from p) (x:=u) (by simpa using hu) hne fun h' out it' tp' sz' kk=>?_
  have hes:e<s.heap.objs.size:=Heap.lt_size st1
  have his:it<s.heap.objs.size:=by obtain ⟨o,q,_⟩:=st2; exact Heap.lt_size q
  refine ⟨_,rfl,wpAny_letOwnedTupleGo_enum out fun h2 e2 s2=>?_⟩
  replace s2:Heap.SameBut e h' h2:=s2
  have tp2:h2.get? s.heap.objs.size=some { cls:=.type "tuple",data:=.seq #[.int i s.toks,u] }:=s2.extBut _ _ (Jj hes) tp'
  have k2:∀b o,b≠e->b≠it->s.heap.get? b=some o->h2.get? b=some o:=fun b o q1 q2 q3=>s2.extBut b o q1 (kk b o q1 q2 q3)
  have hn:H s.heap.objs.size=none:=I.hok.fresh (Yb _)
  have nn:∀{b:Addr} {o:HO},H b=some o->b≠s.heap.objs.size:=fun q=>zq q hn
  have nch:∀{b:Addr},b∉[e,it]->b≠e/\b≠it:=fun hb=>⟨fun z=>hb (by simp [z]),fun z=>hb (by simp [z])⟩
  have new:ObjOk X.prog X.w (upd H s.heap.objs.size (.tup [.int i,x])) h2 s.heap.objs.size (.tup [.int i,x]):=⟨by show 2<=sizeLine; decide,[.int i s.toks,u],.cons ⟨_,rfl⟩ (.cons ru .nil),⟨_,tp2,rfl,_,rfl⟩⟩
  have I1:Inv X pins σ (upd H s.heap.objs.size (.tup [.int i,x])) { s with heap:=h2,toks:=s.toks+1 }:=by
   refine I.step (g':=s.gens) (d':=s.drawn) (ch:=[e,it]) (fun b hb=>?_) (fun b o _ _ hc e' _=>k2 b o (nch hc).1 (nch hc).2 e') (fun b o _ _ hc e' _=>⟨o.slots,k2 b o (nch hc).1 (nch hc).2 e'⟩) (fun b o _ e' n=>by rw [ZM (Yn (Heap.lt_size e'))]; exact n)
    (fun b o hc e'=>⟨o,k2 b o (nch hc).1 (nch hc).2 e'⟩) (fun b _ q=>by rw [ZM (nn q)]; exact q) (fun b _ _ q=>by rw [ZM (nn q)]; exact q) (fun b ps q=>⟨#[],by rw [ZM (nn q),q]; simp⟩) (fun m hm=>?_) (fun b v q=>?_) I.bare
   ·have z:b=e\/b=it:=by simpa using hb
    rcases z with rfl | rfl
    ·exact ⟨f3,f1,f4,f5⟩
    ·exact ⟨g3,g1,g4,g5⟩
   ·obtain ⟨o,es,ep,ho,r⟩:=hm
    exact ⟨o,es,ep,k2 _ o (Ne.symm f1) (Ne.symm g1) ho,r⟩
   ·by_cases hb:b=s.heap.objs.size
    ·subst hb; rw [Z9] at q; cases q; exact new
    ·rw [ZM hb] at q
     refine (I.hok b v q).stay (fun c o hc z=>k2 c o ?_ ?_ z) (fun c z=>by rw [ZM (nn z)]; exact z) fun c _ z=>by rw [ZM (nn z)]; exact z
     ·rcases hc with z | z
      ·rw [z]; exact fun y=>by rw [y,f0] at q; cases q
      ·exact fun y=>by rw [y,f0] at z; cases z
     ·rcases hc with z | z
      ·rw [z]; exact fun y=>by rw [y,g0] at q; cases q
      ·exact fun y=>by rw [y,g0] at z; cases z
  refine ⟨.ref s.heap.objs.size,_,I1,rfl,⟨_,x,rfl,hn,rfl,fun ys hy=>by rw [I.tuple_inj hy hq]; exact hx⟩,⟨⟨_,by simpa using e2⟩,?_⟩,fun b hb=>?_⟩
  ·obtain ⟨o,q,r⟩:=it'
   exact ⟨o,s2.extBut _ _ (Ne.symm hne) q,r⟩
  ·have z:b=e\/b=it:=by simpa using hb
   rcases z with rfl | rfl
   ·rw [ZM (Yn hes)]; exact f0
   ·rw [ZM (Yn his)]; exact g0
 done:=by
  intro X hP hw hK hc i pins s σ H E I hf st hg
  subst hP hw hK
  obtain ⟨⟨old,st1⟩,st2⟩:=st
  obtain ⟨xs,hq,hx⟩:=hg
  obtain ⟨its,rv,p,hz⟩:=I.tuple hq
  obtain ⟨f0,f1,f2,f3,f4,f5⟩:=hf it (by simp)
  have hl:=rv.length
  exact Zrt (I.ok.hd hc) st1 st2 (show s.heap.IsTuple a its.toArray from p) (by simp; omega) fun h' eb=>⟨rfl,I.turned (t':=s.toks) (fun b o hb e=>eb b o hb e) f0 f1 f3 f4 f5⟩
 self:=fun _ _ _ _ _ st h=>by
  obtain ⟨⟨old,st1⟩,_⟩:=st
  exact wpAny_pyIter_enum st1 h
end
end L2
namespace L2
open PySem PySem.Spec PyProof.Rows
section
variable {X:Cx}
def ZzU (K:PySem.W.Frag) (ta:TA):TI:=fun σ H R=>ta σ H fun vs H1=>∃a,vs=[.ref a]/\(∃xs,SqT K H1 a xs)/\R (Ite K a) H1
theorem Zug {l:Expr} {ta:TA} {es:List Expr} {x1} {p pos tp:Pos} (hg:Gl X "enumerate") (hm:X.mg "enumerate"=none) (ha:PA X [l] ta) (hs:starEach [l] X.env=[(false,eval l X.env)]:=by rfl):PI X (.Tuple es x1 tp) (.Call (.Name "enumerate" p) [l] [] pos) (ZzU X.K ta):=by
 intro pins s σ H R I h
 refine Call_ (Zjp I hg hm boot_enumerate (PyProof.Rows.callWith_type1 (thn (ha pos pins s σ H _ I h) fun us s1 ⟨vs,H1,I1,r1,q1⟩=>?_) hs rfl))
 obtain ⟨a,e,⟨xs,hq⟩,q⟩:=q1
 subst e
 obtain ⟨u,rfl,ru⟩:=Ziq r1
 cases ru
 obtain ⟨its,rv,t1,hz⟩:=I1.tuple hq
 have T1:s1.heap.IsTuple a its.toArray:=t1
 have al:a<s1.heap.objs.size:=by obtain ⟨o,z,_⟩:=T1; exact Heap.lt_size z
 refine ZoG T1 fun h' e' i' z' k'=>wpAny_pyIter_enum (s:={ s1 with heap:=h' }) e' ?_
 have I2:Inv X pins σ H1 { s1 with heap:=h' }:=I1.kept (t':=s1.toks) k'
 refine ⟨s1.heap.objs.size+1,[s1.heap.objs.size+1,s1.heap.objs.size],_,_,H1,rfl,I2,Zm9 a _ _ (Nat.succ_ne_self _) (Yn (Y5 al)) (Yn al),⟨⟨_,e'⟩,i'⟩,fun b hb=>?_,q⟩
 have z:b=s1.heap.objs.size+1\/b=s1.heap.objs.size:=by simpa using hb
 have hb':s1.heap.objs.size<=b:=z.elim (fun y=>by rw [y]; exact Y7 _) fun y=>by rw [y]; exact Yb _
 exact I1.fpOk hb' (I1.hok.fresh hb')
end
end L2
namespace L2.MM
open PySem PySem.Spec PyProof.Rows
section
variable {X:Cx}
noncomputable def forE (i j:Nat) (body:SM):Nat->List D->SM
 | _,[]=>fun ρ θ=>.ok (.nx,ρ) θ
 | k,x::r=>fun ρ θ=>(body ((ρ.set i (.val (.int (k:Nat)))).set j (.val x)) θ).bind (Zg1 (forE i j body (k+1) r))
noncomputable def Zoa (fa:AM) (i j:Nat) (body:SM):SM:=fun ρ θ=>(fa ρ θ).bind fun ds θ=>match ds with
 | [.tup xs]=>forE i j body 0 xs ρ θ
 | _=>.bad
theorem Zq6 {l:Expr} {body:List Stmt} {fa:AM} {fb:SM} {x y:Str} {x1} {p p1 p2 tp cp pos:Pos} (i j:Nat) (hN:X.N.Nodup) (hp:PassesOwn (model X.prog X.w) X.A X.env X.xe) (hm:X.mg "enumerate"=none) (ha:MA X [l] fa) (hb:MSs X body fb) (hc:X.calm=true:=by rfl)
  (hg:Gl X "enumerate":=by rfl) (hs:starEach [l] X.env=[(false,eval l X.env)]:=by rfl)
  (hi:X.N[i]?=some x:=by rfl) (hx:Loc X.env.scope x:=by first | exact Or.inl rfl | exact Or.inr rfl) (hf:X.fn x=true\/X.env.scope.names.lookup x=some .local:=by first | exact .inl rfl | exact .inr rfl)
  (hj:X.N[j]?=some y:=by rfl) (hy:Loc X.env.scope y:=by first | exact Or.inl rfl | exact Or.inr rfl) (hf':X.fn y=true\/X.env.scope.names.lookup y=some .local:=by first | exact .inl rfl | exact .inr rfl)
  (hse:∀z,foldedSetIterable (.Call (.Name "enumerate" p) [l] [] cp) X.env z=pure z:=by intro _; rfl)
  (ha1:(assignEach [.Name x p1,.Name y p2] X.env).map (·.2)=assign (.Name x p1) X.env::(assignEach [.Name y p2] X.env).map (·.2):=by rfl) (ha2:(assignEach [.Name y p2] X.env).map (·.2)=assign (.Name y p2) X.env::(assignEach [] X.env).map (·.2):=by rfl)
  (hn:(assignEach [.Name x p1,.Name y p2] X.env).length=2:=by rfl) (hst:(assignEach [.Name x p1,.Name y p2] X.env).findIdx? (·.1)=none:=by rfl) :
  MS X (.For (.Tuple [.Name x p1,.Name y p2] x1 tp) (.Call (.Name "enumerate" p) [l] [] cp) body [] pos) (Zoa fa i j fb):=
 PS.imp (ZnB hp hc (Zug hg hm ha hs) (Zuh hc (Zj6 (Zfn hN hi hx hf) (Zj6 (Zfn hN hj hy hf') ZqR ha2) ha1) hn hst) hb hse) fun Dn σ H h=>by
 obtain ⟨B,θ,ρ,F,w⟩:=h
 refine ZbG (Znm F w) ?_
 rintro vs H1 ⟨B1,θ1,ds,E1,F1,rd,w1⟩
 split at w1
 ·rename_i xs
  obtain ⟨v,rfl,rv⟩:=rd.one
  obtain ⟨a,us,rfl,g1,okA,ru⟩:=rv
  refine ⟨a,rfl,⟨us,SqT.of g1⟩,fun k m σ H=>∃B θ ρ,Frm X.cl B θ ρ σ H/\RepV B H (.tup xs) (.ref a)/\m=xs.length-k/\k<=xs.length/\wpS X σ B H (forE i j fb k (xs.drop k) ρ θ) Dn,⟨xs.length,B1,θ1,ρ,F1,⟨a,us,rfl,g1,okA,ru⟩,rfl,YG _,w1⟩,?_⟩
  rintro k m σ2 H2 ⟨B2,θ2,ρ2,F2,rv2,rfl,hk,w2⟩
  obtain ⟨a',us2,e2,g2,ok2,ru2⟩:=id rv2
  cases e2
  by_cases hlt:k<xs.length
  ·rw [Yz hlt] at w2
   unfold forE at w2
   obtain ⟨v,q1,q2⟩:=ru2.get (List.getElem?_eq_getElem hlt)
   refine .inr ⟨⟨us2,v,SqT.of g2,q1⟩,fun σ' H'=>∃B' θ' ρ',ExtS B2 B' H2 H'/\Frm X.cl B' θ' ρ' σ' H'/\wpS X σ' B' H' (forE i j fb (k+1) (xs.drop (k+1)) ρ' θ') Dn,?_,fun z H' hz=>?_⟩
   ·rintro σ' H' ⟨B',θ',ρ',E',F',w'⟩
    exact ⟨xs.length-(k+1),by omega,B',θ',ρ',F',rv2.ext E',rfl,hlt,w'⟩
   ·obtain ⟨t,v',rfl,ht,rfl,hv⟩:=hz
    have:=hv us2 (SqT.of g2)
    rw [q1] at this
    cases this
    have E3:=ZcZ F2.good ht (.tup [.int k,v])
    have F3:=F2.ext E3 (ZeY F2.good ht (.tup [.int k,v]))
    refine ⟨t,[.int k,v],rfl,SqT.of Z9,rfl,.int k,[v],rfl,v,[],rfl,rfl,?_⟩
    have F4:=(F3.set i (d:=.int (k:Nat)) (v:=.int k) rfl).set j (q2.ext E3.toExtS)
    refine ⟨B2,θ2,_,F4,?_⟩
    exact wpS.trans (wpS.loop w2) E3.toExtS
  ·have e:k=xs.length:=by omega
   subst e
   rw [YT] at w2
   unfold forE at w2
   exact .inl ⟨⟨us2,SqT.of g2,by rw [ru2.len]; exact Yb _⟩,Zd6 F2 w2⟩
 ·exact w1.elim
end
end L2.MM
namespace L2
open PySem PySem.Spec PyProof.Rows
section
variable {X:Cx} {pins:List (Addr×Obj)} {σ:St} {H:Hp} {s:Shared} {a:Addr} {kvs:List (Key×V)} {k:Key} {z:V} {u r:Value} {A:Around} {E:Value->Shared->Prop}
theorem ZuN {Q:Value->Shared->Prop} (I:Inv X pins σ H s) (e:H a=some (.dK kvs)) (ry:RelV (kV k) u) (rz:RelV z r) (hl:kvs.length<sizeLine)
  (h1:∀v w' s',valV kvs k=some v->Inv X pins σ H s'->RelV v w'->Q w' s') (h2:valV kvs k=none->∀s',Inv X pins σ (upd H a (.dK (ZcG kvs k z))) s'->Q r s'):wpAny (model X.prog X.w) A (call (.builtin "dict.setdefault") [.ref a,u,r]) Q E s:=by
 obtain ⟨z1,hd,vs,rel,dd⟩:=ZkB I.hok e
 have hv:vs.length<=sizeLine:=by rw [<-rel.length]; exact z1
 refine call_meetsIn PySem.F.slot_dict_setdefault dd.typeIs PySem.F.entry_dict_setdefault (PySem.F.args_dict_setdefault_3 _ _ _) (kt_meets_setdefault (Zah X.prog X.w) a (Zg5 ry) hd r) ⟨vs,dd,hv,fun v q=>?_,fun q h' dd' hs=>?_⟩
 ·cases l:valV kvs k with
  | none=>
   have:valueAt vs k=none:=RelO.none_of (by rw [<-l]; exact rel.val k)
   rw [this] at q
   cases q
  | some v0=>
   obtain ⟨w1,hw,r1⟩:=RelO.some_of (v:=v0) (o:=valueAt vs k) (by rw [<-l]; exact rel.val k)
   have z2:w1=v:=by rw [hw] at q; injection q
   subst z2
   exact h1 v0 w1 _ l (I.tok _) r1
 ·have l:valV kvs k=none:=by
   cases l:valV kvs k with
   | none=>rfl
   | some v0=>
    obtain ⟨w',hw,rw'⟩:=RelO.some_of (v:=v0) (o:=valueAt vs k) (by rw [<-l]; exact rel.val k)
    rw [hw] at q
    cases q
  have hl2:(ZcG kvs k z).length<=sizeLine:=by have:=Zdy kvs k z; omega
  have he:∃q,h'.get? a=some q:=let ⟨q,_,_,hq,_⟩:=dd'; ⟨q,hq⟩
  exact h2 l _ (Zfs I (by rw [e]; exact True.intro) hs he (ZhW hl2 hd (rel.put k rz) dd'))
end
def ZtU (td ty tx:TE):TE:=fun σ H Q=>td σ H fun x H1=>∃a,x=.ref a/\IsD H1 a/\ty σ H1 fun y H2=>tx σ H2 fun z H3=>∃kvs k,H3 a=some (.dK kvs)/\y=kV k/\kvs.length<sizeLine/\
 (∀v,valV kvs k=some v->Q v H3)/\(valV kvs k=none->Q z (upd H3 a (.dK (ZcG kvs k z))))
theorem ZnK {X:Cx} {o e f:Expr} {apos cpos:Pos} {td ty tx:TE} (ho:PE X o td) (he:PE X e ty) (hf:PE X f tx) (m:M2 X o "setdefault" apos e f cpos):PE X (.Call (.Attribute o "setdefault" apos) [e,f] [] cpos) (ZtU td ty tx):=by
 intro pins s σ H Q I h
 refine wpAny_Call_method m.base m.few m.line PySem.F.plainAttrs_dict PySem.F.slot_dict_setdefault PySem.F.type_dict_setdefault (thn (ho pins s σ H _ I h) fun u s1 ⟨x,H1,I1,rx,a,ex,d,q1⟩=>?_)
 subst ex
 cases (show u=Value.ref a from rx)
 obtain ⟨t1,t2,_⟩:=Zof I1 d
 refine ⟨t1,t2,?_⟩
 rw [m.trees]
 refine Calls.callWith_builtin rfl (Calls.evalArgs_plain (Calls.spliced_cons (thn (he pins s1 σ H1 _ I1 q1) fun iv s2 ⟨y,H2,I2,ry,q2⟩=>Calls.spliced_cons (thn (hf pins s2 σ H2 _ I2 q2) fun fv s3 ⟨z,H3,I3,rz,kvs,k,ea,ey,hl,q3,q4⟩=>Calls.spliced_nil ?_))))
 subst ey
 exact ZuN I3 ea ry rz hl (fun v w' s4 l I4 rw'=>⟨v,H3,I4,rw',q3 v l⟩) fun l s4 I4=>⟨z,_,I4,rz,q4 l⟩
end L2
namespace L2.MM
open PySem PySem.Spec PyProof.Rows
noncomputable def valD (kvs:List (Key×D)) (k:Key):Option D:=(kvs.find? fun kv=>decide (kv.1=k)).map (·.2)
noncomputable def putD (kvs:List (Key×D)) (k:Key) (v:D):List (Key×D):=
 if (kvs.any fun kv=>decide (kv.1=k))=true then kvs.map (fun kv=>if kv.1=k then (kv.1,v) else kv) else kvs++[(k,v)]
noncomputable def dropD (kvs:List (Key×D)) (k:Key):List (Key×D):=kvs.filter fun kv=>decide (kv.1≠k)
noncomputable def ZdX:D->Option Key
 | .int n=>some (.inl n)
 | .str x=>some (.inr x)
 | _=>none
noncomputable def dkOf (θ:Sto):D->Option (Nat×List (Key×D))
 | .ref l=>match θ[l]? with
  | some (.dK kvs)=>some (l,kvs)
  | _=>none
 | _=>none
section
variable {B:Bx} {H:Hp}
theorem RepKV.valD (k:Key):∀{ks:List (Key×D)} {vs:List (Key×V)},RepKV B H ks vs->(L2.MM.valD ks k=Option.none/\valV vs k=Option.none)\/∃d v,L2.MM.valD ks k=some d/\valV vs k=some v/\RepV B H d v
 | _,_,.nil=>.inl ⟨rfl,rfl⟩
 | (k1,d1)::ks,(k2,v2)::vs,.cons ⟨h1,h2⟩ t=>by
  cases (show k1=k2 from h1)
  by_cases e:k1=k
  ·refine .inr ⟨d1,v2,?_,?_,h2⟩<;>simp [L2.MM.valD,valV,List.find?_cons,e]
  ·have:=RepKV.valD k t
   simpa [L2.MM.valD,valV,List.find?_cons,e] using this
theorem RepKV.any (k:Key):∀{ks:List (Key×D)} {vs:List (Key×V)},RepKV B H ks vs->(ks.any fun kv=>decide (kv.1=k))=(vs.any fun kv=>decide (kv.1=k))
 | _,_,.nil=>rfl
 | (k1,d1)::ks,(k2,v2)::vs,.cons ⟨h1,h2⟩ t=>by
  cases (show k1=k2 from h1)
  rw [YK,YK,RepKV.any k t]
theorem RepKV.snoc {k:Key} {d:D} {v:V} (r:RepV B H d v):∀{ks:List (Key×D)} {vs:List (Key×V)},RepKV B H ks vs->RepKV B H (ks++[(k,d)]) (vs++[(k,v)])
 | _,_,.nil=>.cons ⟨rfl,r⟩ .nil
 | _,_,.cons h t=>.cons h (RepKV.snoc r t)
theorem RepKV.over {k:Key} {d:D} {v:V} (r:RepV B H d v):∀{ks:List (Key×D)} {vs:List (Key×V)},RepKV B H ks vs->RepKV B H (ks.map fun kv=>if kv.1=k then (kv.1,d) else kv) (vs.map fun kv=>if kv.1=k then (kv.1,v) else kv)
 | _,_,.nil=>.nil
 | (k1,d1)::ks,(k2,v2)::vs,.cons ⟨h1,h2⟩ t=>by
  cases (show k1=k2 from h1)
  rw [Yf,Yf]
  refine .cons ?_ (RepKV.over r t)
  by_cases e:k1=k
  ·rw [if_pos (show (k1,d1).1=k from e),if_pos (show (k1,v2).1=k from e)]; exact ⟨rfl,r⟩
  ·rw [if_neg (show ¬(k1,d1).1=k from e),if_neg (show ¬(k1,v2).1=k from e)]; exact ⟨rfl,h2⟩
theorem RepKV.putD {k:Key} {d:D} {v:V} (r:RepV B H d v) {ks:List (Key×D)} {vs:List (Key×V)} (h:RepKV B H ks vs):RepKV B H (L2.MM.putD ks k d) (ZcG vs k v):=by
 unfold L2.MM.putD ZcG
 rw [h.any k]
 split
 ·exact h.over r
 ·exact h.snoc r
theorem RepKV.dropD (k:Key):∀{ks:List (Key×D)} {vs:List (Key×V)},RepKV B H ks vs->RepKV B H (L2.MM.dropD ks k) (ZfD vs k)
 | _,_,.nil=>.nil
 | (k1,d1)::ks,(k2,v2)::vs,.cons ⟨h1,h2⟩ t=>by
  cases (show k1=k2 from h1)
  have ih:=RepKV.dropD k t
  unfold L2.MM.dropD ZfD at ih ⊢
  by_cases e:k1=k
  ·rw [Y3 (by simpa using e),Y3 (by simpa using e)]; exact ih
  ·rw [Y4 (by simpa using e),Y4 (by simpa using e)]; exact .cons ⟨rfl,h2⟩ ih
theorem keyD_rep {d:D} {v:V} {k:Key} (r:RepV B H d v) (h:ZdX d=some k):v=kV k:=by
 cases d with
 | int n=>cases h; exact r
 | str x=>cases h; exact r
 | _=>cases h
theorem ZdB {cl:Mo} {θ:Sto} (G:Good cl B θ H) {d:D} {v:V} {l:Nat} {kvs:List (Key×D)} (r:RepV B H d v) (h:dkOf θ d=some (l,kvs)):l<B.n/\v=.ref (B.m l)/\∃vs,H (B.m l)=some (.dK vs)/\RepKV B H kvs vs:=by
 cases d with
 | ref k=>
  simp only [dkOf] at h
  split at h
  ·rename_i kvs' e
   cases h
   obtain ⟨hl,rfl⟩:=r
   obtain ⟨vs,h1,h2⟩:=G.cel _ _ e
   exact ⟨hl,rfl,vs,h1,h2⟩
  ·cases h
 | _=>cases h
end
section
variable {X:Cx}
theorem ZkO {k:Nat} {A:Around} (hr:Room k A):A.units+1<cLine:=by have:=hr.un; omega
noncomputable def Zob (fi fo:EM):EM:=fun ρ θ=>(fi ρ θ).bind fun y θ=>(fo ρ θ).bind fun d θ=>match ZdX y,dkOf θ d with
 | some k,some (_,kvs)=>.ok (.bl (valD kvs k).isSome) θ
 | _,_=>.bad
theorem Zru {fi fo:EM} (σ:St) (H:Hp) (Q:VK) (h:tM X (Zob fi fo) σ H Q):ZvK (tM X fi) (tM X fo) σ H Q:=by
 obtain ⟨B,θ,ρ,F,w⟩:=h
 refine ZK (step F w) ?_
 rintro y H1 ⟨B1,θ1,dy,E1,F1,ry,w1⟩
 refine ZK (step F1 w1) ?_
 rintro v H2 ⟨B2,θ2,d,E2,F2,rd,w2⟩
 split at w2
 ·rename_i k l kvs ek ed
  obtain ⟨hl,rfl,vs,h1,h2⟩:=ZdB F2.good rd ed
  cases keyD_rep ry ek
  refine ⟨_,valV vs k,rfl,DGet.k h1,?_⟩
  have e:(valD kvs k).isSome=(valV vs k).isSome:=by
   rcases h2.valD k with ⟨q1,q2⟩ | ⟨d,v,q1,q2,_⟩<;>(rw [q1,q2]; rfl)
  rw [<-e]
  exact ZU (Rel:=RepV) F2.good (show RepV B2 H2 (.bl (valD kvs k).isSome) (.bl (valD kvs k).isSome) from rfl) w2
 ·exact w2.elim
theorem ZuC {i o:Expr} {fi fo:EM} {pos:Pos} {k:Nat} (hr:Room k X.A) (hi:ME X i fi) (ho:ME X o fo) (hm:behindInMarks .In o=false:=by rfl):MT X (.Compare i [.In] [o] pos) (ZC (Zob fi fo)):=by
 refine PT.imp (Zt9 (Zup (ZkO hr) hi ho) hm) fun σ H Q h=>?_
 exact Zru σ H _ (ZjS σ H Q h)
noncomputable def ZlT (fo fe:EM):EM:=fun ρ θ=>(fo ρ θ).bind fun d θ=>match dkOf θ d with
 | none=>.bad
 | some _=>(fe ρ θ).bind fun y θ=>match ZdX y,dkOf θ d with
  | some k,some (l,kvs)=>match valD kvs k with
   | some v=>.ok v (θ.set l (.dK (dropD kvs k)))
   | none=>.bad
  | _,_=>.bad
theorem ZlR {o e:Expr} {fo fe:EM} {apos cpos:Pos} (ho:ME X o fo) (he:ME X e fe) (m:M1 X o "pop" apos e cpos):ME X (.Call (.Attribute o "pop" apos) [e] [] cpos) (ZlT fo fe):=by
 refine PE.imp (ZnL ho he m) fun σ H Q h=>?_
 obtain ⟨B,θ,ρ,F,w⟩:=h
 refine ZK (step F w) ?_
 rintro v H1 ⟨B1,θ1,d,E1,F1,rd,w1⟩
 split at w1
 ·exact w1.elim
 ·rename_i q ed
  obtain ⟨l,kvs⟩:=q
  obtain ⟨hl,rfl,vs,h1,h2⟩:=ZdB F1.good rd ed
  refine ⟨_,rfl,.inl ⟨vs,.inl h1⟩,?_⟩
  refine ZK (step F1 w1) ?_
  rintro y H2 ⟨B2,θ2,dy,E2,F2,ry,w2⟩
  split at w2
  ·rename_i k l2 kvs2 ek ed2
   obtain ⟨hl2,e2,vs2,h3,h4⟩:=ZdB F2.good (rd.ext E2.toExtS) ed2
   cases keyD_rep ry ek
   have e3:B1.m l=B2.m l2:=by injection e2
   rw [e3]
   rcases h4.valD k with ⟨q1,q2⟩ | ⟨dv,v,q1,q2,rv⟩
   ·rw [q1] at w2; exact w2.elim
   ·rw [q1] at w2
    refine ⟨vs2,k,v,h3,rfl,q2,?_⟩
    have E3:=ZcY F2.good hl2 (.dK (ZfD vs2 k))
    have G3:=ZcK F2.good hl2 (o:=.dK (ZfD vs2 k)) (c:=.dK (dropD kvs2 k)) ⟨_,Z9,(h4.dropD k).ext E3.toExtS⟩
    exact w2 _ _ _ E3 G3 (rv.ext E3.toExtS)
  ·exact w2.elim
noncomputable def Zk8 (fo fe ff:EM):EM:=fun ρ θ=>(fo ρ θ).bind fun d θ=>match dkOf θ d with
 | none=>.bad
 | some _=>(fe ρ θ).bind fun y θ=>(ff ρ θ).bind fun z θ=>match ZdX y,dkOf θ d with
  | some k,some (l,kvs)=>if kvs.length<BIG then (match valD kvs k with
   | some v=>.ok v θ
   | none=>.ok z (θ.set l (.dK (putD kvs k z)))) else .bad
  | _,_=>.bad
theorem Zn5 {o e f:Expr} {fo fe ff:EM} {apos cpos:Pos} (ho:ME X o fo) (he:ME X e fe) (hf:ME X f ff) (m:M2 X o "setdefault" apos e f cpos):ME X (.Call (.Attribute o "setdefault" apos) [e,f] [] cpos) (Zk8 fo fe ff):=by
 refine PE.imp (ZnK ho he hf m) fun σ H Q h=>?_
 obtain ⟨B,θ,ρ,F,w⟩:=h
 refine ZK (step F w) ?_
 rintro v H1 ⟨B1,θ1,d,E1,F1,rd,w1⟩
 split at w1
 ·exact w1.elim
 ·rename_i q ed
  obtain ⟨l,kvs⟩:=q
  obtain ⟨hl,rfl,vs,h1,h2⟩:=ZdB F1.good rd ed
  refine ⟨_,rfl,.inl ⟨vs,.inl h1⟩,?_⟩
  refine ZK (step F1 w1) ?_
  rintro y H2 ⟨B2,θ2,dy,E2,F2,ry,w2⟩
  refine ZK (step F2 w2) ?_
  rintro z H3 ⟨B3,θ3,dz,E3,F3,rz,w3⟩
  split at w3
  ·rename_i k l2 kvs2 ek ed2
   obtain ⟨hl2,e2,vs2,h3,h4⟩:=ZdB F3.good ((rd.ext E2.toExtS).ext E3.toExtS) ed2
   cases keyD_rep ry ek
   have e3:B1.m l=B3.m l2:=by injection e2
   rw [e3]
   split at w3
   ·rename_i hb
    refine ⟨vs2,k,h3,rfl,?_,fun v hv=>?_,fun hn=>?_⟩
    ·have:=zR (n:=kvs2.length+1) hb
     rw [RepKV.len h4]; omega
    ·rcases h4.valD k with ⟨q1,q2⟩ | ⟨dv,v',q1,q2,rv⟩
     ·rw [q2] at hv; cases hv
     ·rw [q2] at hv; cases hv
      rw [q1] at w3
      exact ZU (Rel:=RepV) F3.good rv w3
    ·rcases h4.valD k with ⟨q1,q2⟩ | ⟨dv,v',q1,q2,rv⟩
     ·rw [q1] at w3
      have E4:=ZcY F3.good hl2 (.dK (ZcG vs2 k z))
      have G4:=ZcK F3.good hl2 (o:=.dK (ZcG vs2 k z)) (c:=.dK (putD kvs2 k dz)) ⟨_,Z9,(h4.putD rz).ext E4.toExtS⟩
      exact w3 _ _ _ E4 G4 (rz.ext E4.toExtS)
     ·rw [q2] at hn; cases hn
   ·exact w3.elim
  ·exact w3.elim
end
end L2.MM
namespace My
open PySem L2 L2.MM
noncomputable section
def ZjC:SM:=(Zr (Z5 2 (mSl (Zd 1) Zaw (Zb4 (mCB Zec (Zc (Zd 0) Zi)))))
 (Zr (ZA ["Pile"] "row" (Zd 0) (mOp zn (ZD ["Pile"] "row" (Zd 0)) (Zd 2)))
 (ZP (mCB Zdr (Zc (Zd 2) Zi)))))
def Zf1:GM:=ZQ 2 3 ZjC
noncomputable def Zdj:SM:=(Zr (Z5 2 (mCB Zrb (Zc (Zd 1) (Zc (mC (.int 0)) Zi))))
 (Zr (Z5 3 (mSl (ZD ["Pile"] "row" (Zd 0)) Zaw (Zb4 (Zd 2))))
 (Zr (ZA ["Pile"] "row" (Zd 0) (mSl (ZD ["Pile"] "row" (Zd 0)) (Zb4 (Zd 2)) Zaw))
 (ZP (Zd 3)))))
noncomputable def Zco:GM:=ZQ 2 4 Zdj
def ZkJ:SM:=(ZP (mOp gtM (mCB zI (Zc (Zd 0) (Zc (Zd 1) Zi))) (mC (.int 0))))
def Zcp:GM:=ZQ 2 2 ZkJ
def Zd1:SM:=(ZP (mCB Zcp (Zc (ZD ["End"] "nxt" (Zd 0)) (Zc (ZD ["End"] "behind" (Zd 0)) Zi))))
def Zbm:GM:=ZQ 1 1 Zd1
def Zi1:SM:=(ZP (mOp eqM (mCB ZfA (Zc (mOp ixM (Zd 0) (mC (.int 4))) (Zc (Zd 1) Zi))) (mC (.int 1))))
def Z7:GM:=ZQ 2 2 Zi1
def ZcU:SM:=(mIf (zV (mCB Z7 (Zc (Zd 0) (Zc (mC (.int 16)) Zi)))) (ZP (mOp zn (Zd 1) (Zbj (Zc (mOp ixM (Zd 0) (mC (.int 3))) (Zc (mC (.int 0)) (Zc (mC (.int 4)) (Zc (mC (.int 0)) (Zc (mC (.int 0)) (Zc (Zbj Zi) Zi))))))))) ZN)
def ZdM:SM:=(Zr (Z5 1 (Zbj (Zc (mOp ixM (Zd 0) (mC (.int 1))) (Zc (mOp ixM (Zd 0) (mC (.int 0))) Zi))))
 (Zr ZcU
 (ZP (mOp zn (Zd 1) (Zbj (Zc (mC (.int 0)) (Zc (mCB zw (Zc (mOp ixM (Zd 0) (mC (.int 2))) (Zc (mCB ZcH (Zc (Zd 0) Zi)) Zi))) (Zc (mOp zn (mC (.int 4)) (mC (.int 16))) (Zc (mC (.int 0)) (Zc (mC (.int 0)) (Zc (Zbj Zi) Zi)))))))))))
def ZbY:GM:=ZQ 1 2 ZdM
def ZbD:SM:=(mIf (ZeV (zV (mCB Z7 (Zc (Zd 1) (Zc (mC (.int 4)) Zi))))) (ZA ["End"] "owed_reset" (Zd 0) (mCB ZbY (Zc (Zd 1) Zi))) ZN)
def Zcd:SM:=ZbD
def Z1:GM:=ZQ 2 2 Zcd
def Zdo:SM:=(zj (mCB Z1 (Zc (Zd 0) (Zc (Zd 1) Zi))))
def ZaU:GM:=ZQ 2 2 Zdo
def Ze9:SM:=(mIf (ZC (mOp neM (mOp ixM (Zd 1) (mC (.int 6))) (mC (.int 0)))) (ZA ["End"] "most" (Zd 0) (mOp ixM (Zd 1) (mC (.int 6)))) ZN)
def Zgo:SM:=(Zr (ZA ["End"] "rcv" (Zd 0) (mCB zw (Zc (mOp ixM (Zd 1) (mC (.int 2))) (Zc (mC (.int 1)) Zi))))
 (Zr (ZA ["End"] "wnd" (Zd 0) (mOp ixM (Zd 1) (mC (.int 5))))
 (Zr (ZA ["End"] "told" (Zd 0) (mOp ixM (Zd 1) (mC (.int 2))))
 (Zr (ZA ["End"] "told_by" (Zd 0) (Zf9 (zV (mCB Z7 (Zc (Zd 1) (Zc (mC (.int 16)) Zi)))) (mOp ixM (Zd 1) (mC (.int 3))) (mC (.int 0))))
 Ze9))))
def ZbS:GM:=ZQ 2 2 Zgo
def Zab:SM:=(mIf (zV (mCB Z7 (Zc (Zd 1) (Zc (mC (.int 4)) Zi)))) Zf8 ZN)
def ZaO:SM:=(mIf (zV (mCB Z7 (Zc (Zd 1) (Zc (mC (.int 2)) Zi)))) (Zr (ZA ["End"] "theirs" (Zd 0) (mOp ixM (Zd 1) (mC (.int 0))))
   (Zr (zj (mCB ZbS (Zc (Zd 0) (Zc (Zd 1) Zi))))
   (ZA ["End"] "state" (Zd 0) (mC (.str "syn come"))))) ZN)
def ZaN:SM:=(mIf (zV (mCB Z7 (Zc (Zd 1) (Zc (mC (.int 16)) Zi)))) (zj (mCB Z1 (Zc (Zd 0) (Zc (Zd 1) Zi)))) ZaO)
def Zav:SM:=(Zr Zab
 ZaN)
def zB:GM:=ZQ 2 2 Zav
def ZeH:SM:=(ZP (Zdf (mOp neM (ZD ["End"] "nxt" (Zd 0)) (ZD ["End"] "first" (Zd 0))) (mOp eqM (mOp ixM (Zd 1) (mC (.int 3))) (mCB zw (Zc (ZD ["End"] "first" (Zd 0)) (Zc (mC (.int 1)) Zi))))))
def ZbL:GM:=ZQ 2 2 ZeH
def Zay:SM:=(mIf (zV (mCB Z7 (Zc (Zd 1) (Zc (mC (.int 16)) Zi)))) (Zr (ZA ["End"] "una" (Zd 0) (mOp ixM (Zd 1) (mC (.int 3))))
  (Zr (ZA ["End"] "state" (Zd 0) (mC (.str "open")))
  (ZA ["End"] "owes_answer" (Zd 0) (mC (.bl true))))) (Zr (ZA ["End"] "state" (Zd 0) (mC (.str "syn come")))
  (Zr (zj (mCB zc (Zc (Zd 0) (Zc (Zd 2) Zi))))
  (ZA ["End"] "owes_syn" (Zd 0) (mC (.bl true))))))
def ZaX:SM:=Zay
def zP:GM:=ZQ 3 3 ZaX
def Zer:SM:=(mIf (zV (mCB Z7 (Zc (Zd 1) (Zc (mC (.int 16)) Zi)))) (Zr (ZA ["End"] "state" (Zd 0) (mC (.str "closed")))
  (ZA ["End"] "error" (Zd 0) (mC (.str "refused")))) ZN)
def ZfQ:SM:=Zer
def ZeP:GM:=ZQ 2 2 ZfQ
def zM:SM:=(mIf (zV (mCB Z7 (Zc (Zd 1) (Zc (mC (.int 2)) Zi)))) (Zr (zj (mCB ZbS (Zc (Zd 0) (Zc (Zd 1) Zi))))
    (zj (mCB zP (Zc (Zd 0) (Zc (Zd 1) (Zc (Zd 2) Zi)))))) ZN)
def Z8:SM:=(mIf (zV (mCB Z7 (Zc (Zd 1) (Zc (mC (.int 4)) Zi)))) (zj (mCB ZeP (Zc (Zd 0) (Zc (Zd 1) Zi)))) zM)
def ZV:SM:=(mIf (ZeI (zV (mCB Z7 (Zc (Zd 1) (Zc (mC (.int 16)) Zi)))) (ZeV (zV (mCB ZbL (Zc (Zd 0) (Zc (Zd 1) Zi)))))) (zj (mCB Z1 (Zc (Zd 0) (Zc (Zd 1) Zi)))) Z8)
def Z6:SM:=ZV
def ZS:GM:=ZQ 3 3 Z6
def Zd0:SM:=(ZP (ZgH leM ltM (mC (.int 0)) (mCB zI (Zc (Zd 1) (Zc (ZD ["End"] "rcv" (Zd 0)) Zi))) (mCB zT (Zc (Zd 0) Zi))))
def zt:GM:=ZQ 2 2 Zd0
def ZfR:SM:=(mIf (ZC (mOp eqM (Zd 2) (mC (.int 0)))) (ZP (ZgH leM leM (mC (.int 0)) (mCB zI (Zc (mOp ixM (Zd 1) (mC (.int 2))) (Zc (ZD ["End"] "rcv" (Zd 0)) Zi))) (mC (.int 64)))) ZN)
def Zic:SM:=(Zr (Z5 2 (mCB ZcH (Zc (Zd 1) Zi)))
 (Zr ZfR
 (Zr (Z5 3 (mCB zw (Zc (mOp ixM (Zd 1) (mC (.int 2))) (Zc (mOp Zdq (Zd 2) (mC (.int 1))) Zi))))
 (ZP (ZmF (mCB zt (Zc (Zd 0) (Zc (mOp ixM (Zd 1) (mC (.int 2))) Zi))) (mCB zt (Zc (Zd 0) (Zc (Zd 3) Zi))))))))
def ZgC:GM:=ZQ 2 4 Zic
def zp:SM:=(mIf (mOr (ZeV (zV (mCB Zbm (Zc (Zd 0) Zi)))) (ZC (mOp neM (ZD ["End"] "una" (Zd 0)) (ZD ["End"] "nxt" (Zd 0))))) Zf8 ZN)
def Za0:SM:=(mIf (ZC (mOp eqM (ZD ["End"] "state" (Zd 0)) (mC (.str "last ack")))) (ZA ["End"] "state" (Zd 0) (mC (.str "closed"))) ZN)
def ZaZ:SM:=(mIf (ZC (mOp eqM (ZD ["End"] "state" (Zd 0)) (mC (.str "closing")))) (Zr (ZA ["End"] "state" (Zd 0) (mC (.str "time wait")))
   (ZA ["End"] "since" (Zd 0) (Zd 1))) Za0)
def ZaY:SM:=(mIf (ZC (mOp eqM (ZD ["End"] "state" (Zd 0)) (mC (.str "wait one")))) (ZA ["End"] "state" (Zd 0) (mC (.str "wait two"))) ZaZ)
def zu:SM:=(Zr zp
 ZaY)
def ZR:GM:=ZQ 2 2 zu
noncomputable def ZeE:SM:=(Zr (ZA ["End"] "wnd" (Zd 0) (mOp ixM (Zd 1) (mC (.int 5))))
 (Zr (ZA ["End"] "told" (Zd 0) (mOp ixM (Zd 1) (mC (.int 2))))
 (ZA ["End"] "told_by" (Zd 0) (mOp ixM (Zd 1) (mC (.int 3))))))
noncomputable def ZaR:GM:=ZQ 2 2 ZeE
def Zaj:SM:=(mIf (mOr (ZC (mOp eqM (ZD ["End"] "nxt" (Zd 0)) (ZD ["End"] "first" (Zd 0)))) (ZC (mOp neM (mOp ixM (Zd 1) (mC (.int 3))) (ZD ["End"] "nxt" (Zd 0))))) (Zr (zj (mCB Z1 (Zc (Zd 0) (Zc (Zd 1) Zi))))
  (ZP (mC (.bl false)))) ZN)
def ZaJ:SM:=(Zr Zaj
 (Zr (ZA ["End"] "una" (Zd 0) (mOp ixM (Zd 1) (mC (.int 3))))
 (Zr (ZA ["End"] "state" (Zd 0) (Zf9 (zV (ZD ["End"] "has_closed" (Zd 0))) (mC (.str "wait one")) (mC (.str "open"))))
 (Zr (zj (mCB ZaR (Zc (Zd 0) (Zc (Zd 1) Zi))))
 (ZP (mC (.bl true)))))))
def zx:GM:=ZQ 2 2 ZaJ
def Ze8:SM:=(mIf (ZC (mOp eqM (mOp ixM (Zd 1) (mC (.int 2))) (ZD ["End"] "told" (Zd 0)))) (ZP (Zn9 (mCB Zcp (Zc (ZD ["End"] "told_by" (Zd 0)) (Zc (mOp ixM (Zd 1) (mC (.int 3))) Zi))))) ZN)
def Zgn:SM:=(Zr Ze8
 (ZP (mCB Zcp (Zc (mOp ixM (Zd 1) (mC (.int 2))) (Zc (ZD ["End"] "told" (Zd 0)) Zi)))))
def Zdb:GM:=ZQ 2 2 Zgn
def Zcg:SM:=(mIf (ZC (mOp neM (ZD ["End"] "una" (Zd 0)) (ZD ["End"] "nxt" (Zd 0)))) (zj (mCB zc (Zc (Zd 0) (Zc (Zd 2) Zi)))) ZN)
def ZaI:SM:=(mIf (zV (Zd 4)) (Zr (zj (mCB Zco (Zc (ZD ["End"] "written" (Zd 0)) (Zc (mCB zI (Zc (Zd 3) (Zc (ZD ["End"] "una" (Zd 0)) Zi))) Zi))))
  (Zr (ZA ["End"] "una" (Zd 0) (Zd 3))
  Zcg)) ZN)
def ZaH:SM:=(mIf (zV (mCB Zcp (Zc (ZD ["End"] "una" (Zd 0)) (Zc (Zd 3) Zi)))) Zf8 ZN)
def Zbi:SM:=(mIf (mOr (zV (Zd 4)) (zV (mCB Zdb (Zc (Zd 0) (Zc (Zd 1) Zi))))) (zj (mCB ZaR (Zc (Zd 0) (Zc (Zd 1) Zi)))) ZN)
def Zbh:SM:=(mIf (mOr (zV (Zd 5)) (ZC (mOp eqM (ZD ["End"] "wnd" (Zd 0)) (mC (.int 0))))) (ZA ["End"] "tries" (Zd 0) (mC (.int 0))) ZN)
def Zbc:SM:=(Zr (Z5 3 (mOp ixM (Zd 1) (mC (.int 3))))
 (Zr (Z5 4 (mCB Zcp (Zc (Zd 3) (Zc (ZD ["End"] "una" (Zd 0)) Zi))))
 (Zr ZaI
 (Zr ZaH
 (Zr (Z5 5 (mOp eqM (ZD ["End"] "wnd" (Zd 0)) (mC (.int 0))))
 (Zr Zbi
 Zbh))))))
def zU:GM:=ZQ 3 6 Zbc
def zF:SM:=(mIf (ZC (mOp eqM (ZD ["End"] "state" (Zd 0)) (mC (.str "syn come")))) (ZP (mCB zx (Zc (Zd 0) (Zc (Zd 1) Zi)))) ZN)
def Zak:SM:=(mIf (zV (mCB Zcp (Zc (mOp ixM (Zd 1) (mC (.int 3))) (Zc (ZD ["End"] "nxt" (Zd 0)) Zi)))) (Zr (ZA ["End"] "owes_answer" (Zd 0) (mC (.bl true)))
  (ZP (mC (.bl false)))) ZN)
def zO:SM:=(Zr zF
 (Zr Zak
 (Zr (zj (mCB zU (Zc (Zd 0) (Zc (Zd 1) (Zc (Zd 2) Zi)))))
 (Zr (zj (mCB ZR (Zc (Zd 0) (Zc (Zd 2) Zi))))
 (ZP (mOp neM (ZD ["End"] "state" (Zd 0)) (mC (.str "closed"))))))))
def Z2:GM:=ZQ 3 3 zO
def Zcy:SM:=(mIf (ZC (mOp eqM (ZD ["End"] "state" (Zd 0)) (mC (.str "time wait")))) Zf8 ZN)
def Zcx:SM:=(mIf (ZC (mOp eqM (mOp ixM (Zd 1) (mC (.int 2))) (ZD ["End"] "rcv" (Zd 0)))) (Zr (ZA ["End"] "state" (Zd 0) (mC (.str "closed")))
  (ZA ["End"] "error" (Zd 0) (mC (.str "reset")))) (ZA ["End"] "owes_answer" (Zd 0) (mC (.bl true))))
def Zdm:SM:=(Zr Zcy
 Zcx)
def Zbu:GM:=ZQ 2 2 Zdm
def ZbF:SM:=(ZbQ (ZeI (ZC (mOp neM (ZD ["End"] "rcv" (Zd 0)) (ZD ["End"] "early_fin" (Zd 0)))) (ZC (Zob (ZD ["End"] "rcv" (Zd 0)) (ZD ["End"] "early" (Zd 0))))) (Zr (Zgc 1 (ZlT (ZD ["End"] "early" (Zd 0)) (ZD ["End"] "rcv" (Zd 0))))
  (ZA ["End"] "rcv" (Zd 0) (mCB zw (Zc (ZD ["End"] "rcv" (Zd 0)) (Zc (mC (.int 1)) Zi))))) 200)
def ZdE:SM:=(Zr (Zjn 1 Zi)
 (Zr ZbF
 (Zga 1 (zj (mCB Zf1 (Zc (ZD ["End"] "come" (Zd 0)) (Zc (Zd 1) Zi)))))))
def Za8:GM:=ZQ 1 2 ZdE
def Zfa:SM:=(mIf (ZC (mOp eqM (ZD ["End"] "state" (Zd 0)) (mC (.str "wait one")))) (ZA ["End"] "state" (Zd 0) (mC (.str "closing"))) (Zr (ZA ["End"] "state" (Zd 0) (mC (.str "time wait")))
   (ZA ["End"] "since" (Zd 0) (Zd 1))))
def Zdn:SM:=(mIf (ZC (mOp eqM (ZD ["End"] "state" (Zd 0)) (mC (.str "open")))) (ZA ["End"] "state" (Zd 0) (mC (.str "close wait"))) Zfa)
def Zeu:SM:=(Zr (ZA ["End"] "rcv" (Zd 0) (mCB zw (Zc (ZD ["End"] "rcv" (Zd 0)) (Zc (mC (.int 1)) Zi))))
 Zdn)
def Zcs:GM:=ZQ 2 2 Zeu
def Zbb:SM:=(mIf (zV (mCB zt (Zc (Zd 0) (Zc (Zd 4) Zi)))) (zj (Zk8 (ZD ["End"] "early" (Zd 0)) (Zd 4) (Zd 3))) ZN)
def ZcW:SM:=(Zoa (Zc (mOp ixM (Zd 1) (mC (.int 7))) Zi) 2 3 (Zr (Z5 4 (mCB zw (Zc (mOp ixM (Zd 1) (mC (.int 2))) (Zc (Zd 2) Zi))))
  Zbb))
def ZcV:SM:=(mIf (ZC (mOp gtM (mCB Zdr (Zc (mOp ixM (Zd 1) (mC (.int 7))) Zi)) (mC (.int 0)))) (ZA ["End"] "owes_answer" (Zd 0) (mC (.bl true))) ZN)
def ZdP:SM:=(Zr ZcW
 ZcV)
def ZbZ:GM:=ZQ 2 5 ZdP
def Zdl:SM:=(mIf (ZeV (zV (mCB Z7 (Zc (Zd 1) (Zc (mC (.int 1)) Zi))))) Zf8 ZN)
def ZaW:SM:=(mIf (ZeI (ZC (mOp isM (ZD ["End"] "early_fin" (Zd 0)) (mC .non))) (zV (mCB zt (Zc (Zd 0) (Zc (Zd 2) Zi))))) (ZA ["End"] "early_fin" (Zd 0) (Zd 2)) ZN)
def Zet:SM:=(Zr Zdl
 (Zr (ZA ["End"] "owes_answer" (Zd 0) (mC (.bl true)))
 (Zr (Z5 2 (mCB zw (Zc (mOp ixM (Zd 1) (mC (.int 2))) (Zc (mCB Zdr (Zc (mOp ixM (Zd 1) (mC (.int 7))) Zi)) Zi))))
 ZaW)))
def Zcr:GM:=ZQ 2 3 Zet
noncomputable def Zbg:SM:=(mIf (ZC (mOp ZcQ (ZD ["End"] "state" (Zd 0)) (Zbj (Zc (mC (.str "open")) (Zc (mC (.str "wait one")) (Zc (mC (.str "wait two")) Zi)))))) Zf8 ZN)
def Zcf:SM:=(mIf (ZC (mOp eqM (ZD ["End"] "rcv" (Zd 0)) (ZD ["End"] "early_fin" (Zd 0)))) (zj (mCB Zcs (Zc (Zd 0) (Zc (Zd 2) Zi)))) ZN)
def ZbP:SM:=(Zr Zbg
 (Zr (zj (mCB ZbZ (Zc (Zd 0) (Zc (Zd 1) Zi))))
 (Zr (zj (mCB Zcr (Zc (Zd 0) (Zc (Zd 1) Zi))))
 (Zr (zj (mCB Za8 (Zc (Zd 0) Zi)))
 Zcf))))
def ZaS:GM:=ZQ 3 3 ZbP
def ZbO:SM:=(mIf (zV (mCB Z7 (Zc (Zd 1) (Zc (mC (.int 4)) Zi)))) Zf8 ZN)
def ZcT:SM:=(mIf (ZeI (ZC (mOp eqM (ZD ["End"] "state" (Zd 0)) (mC (.str "syn come")))) (ZeI (zV (mCB Z7 (Zc (Zd 1) (Zc (mC (.int 2)) Zi)))) (ZeV (zV (mCB Z7 (Zc (Zd 1) (Zc (mC (.int 16)) Zi))))))) (ZA ["End"] "owes_syn" (Zd 0) (mC (.bl true))) (ZA ["End"] "owes_answer" (Zd 0) (mC (.bl true))))
def ZcS:SM:=(mIf (ZC (mOp eqM (ZD ["End"] "state" (Zd 0)) (mC (.str "time wait")))) (ZA ["End"] "since" (Zd 0) (Zd 2)) ZN)
def ZcD:SM:=(Zr ZbO
 (Zr ZcT
 ZcS))
def Zbl:GM:=ZQ 3 3 ZcD
def ZaM:SM:=(mIf (ZeI (zV (mCB Z7 (Zc (Zd 1) (Zc (mC (.int 16)) Zi)))) (zV (mCB Z2 (Zc (Zd 0) (Zc (Zd 1) (Zc (Zd 2) Zi)))))) (zj (mCB ZaS (Zc (Zd 0) (Zc (Zd 1) (Zc (Zd 2) Zi))))) ZN)
def Zaa:SM:=(mIf (zV (mCB Z7 (Zc (Zd 1) (Zc (mC (.int 2)) Zi)))) (ZA ["End"] "owes_answer" (Zd 0) (mC (.bl true))) ZaM)
def zD:SM:=(mIf (zV (mCB Z7 (Zc (Zd 1) (Zc (mC (.int 4)) Zi)))) (zj (mCB Zbu (Zc (Zd 0) (Zc (Zd 1) Zi)))) Zaa)
def zm:SM:=(mIf (ZeV (zV (mCB ZgC (Zc (Zd 0) (Zc (Zd 1) Zi))))) (zj (mCB Zbl (Zc (Zd 0) (Zc (Zd 1) (Zc (Zd 2) Zi))))) zD)
def zA:SM:=zm
def ze:GM:=ZQ 3 3 zA
def Zh9:SM:=(ZP (Zdf (mOp eqM (mOp ixM (Zd 1) (mC (.int 1))) (ZD ["End"] "ours" (Zd 0))) (ZmF (mOp inM (ZD ["End"] "state" (Zd 0)) (Zbj (Zc (mC (.str "closed")) (Zc (mC (.str "listen")) Zi)))) (mOp eqM (mOp ixM (Zd 1) (mC (.int 0))) (ZD ["End"] "theirs" (Zd 0))))))
def ZeQ:GM:=ZQ 2 2 Zh9
def Zck:SM:=(mIf (ZeV (zV (mCB Zap (Zc (Zd 1) Zi)))) (ZP (mC (.bl false))) ZN)
def Zcj:SM:=(mIf (ZeV (zV (mCB ZeQ (Zc (Zd 0) (Zc (Zd 3) Zi))))) (ZP (mC (.bl false))) ZN)
def Zev:SM:=(mIf (ZC (mOp eqM (ZD ["End"] "state" (Zd 0)) (mC (.str "syn sent")))) (zj (mCB ZS (Zc (Zd 0) (Zc (Zd 3) (Zc (Zd 2) Zi))))) (zj (mCB ze (Zc (Zd 0) (Zc (Zd 3) (Zc (Zd 2) Zi))))))
def Zc1:SM:=(mIf (ZC (mOp eqM (ZD ["End"] "state" (Zd 0)) (mC (.str "listen")))) (zj (mCB zB (Zc (Zd 0) (Zc (Zd 3) Zi)))) Zev)
def Zci:SM:=(mIf (ZC (mOp eqM (ZD ["End"] "state" (Zd 0)) (mC (.str "closed")))) (zj (mCB ZaU (Zc (Zd 0) (Zc (Zd 3) Zi)))) Zc1)
def Zdp:SM:=(Zr Zck
 (Zr (Z5 3 (mCB ZiA (Zc (Zd 1) Zi)))
 (Zr Zcj
 (Zr Zci
 (ZP (mC (.bl true)))))))
def zZ:GM:=ZQ 3 4 Zdp
noncomputable def ZdC:SM:=(mIf (mOr (zV (ZD ["End"] "has_closed" (Zd 0))) (ZC (mOp ZcQ (ZD ["End"] "state" (Zd 0)) (Zbj (Zc (mC (.str "syn sent")) (Zc (mC (.str "syn come")) (Zc (mC (.str "open")) (Zc (mC (.str "close wait")) Zi)))))))) (ZP (mC (.int 0))) ZN)
def Zft:SM:=(Zr ZdC
 (Zr (Z5 2 (mCB Zf1 (Zc (ZD ["End"] "written" (Zd 0)) (Zc (Zd 1) Zi))))
 (Zr (ZA ["End"] "behind" (Zd 0) (mCB zw (Zc (ZD ["End"] "behind" (Zd 0)) (Zc (Zd 2) Zi))))
 (ZP (Zd 2)))))
def Za4:GM:=ZQ 2 3 Zft
def Zdk:SM:=(mIf (ZeI (zV (Zd 2)) (ZeI (ZC (mOp gtM (mCB zT (Zc (Zd 0) Zi)) (mC (.int 0)))) (ZC (mOp inM (ZD ["End"] "state" (Zd 0)) (Zbj (Zc (mC (.str "open")) (Zc (mC (.str "wait one")) (Zc (mC (.str "wait two")) Zi)))))))) (ZA ["End"] "owes_answer" (Zd 0) (mC (.bl true))) ZN)
def Ze3:SM:=(Zr (Z5 2 (mOp eqM (mCB zT (Zc (Zd 0) Zi)) (mC (.int 0))))
 (Zr (Z5 3 (mCB Zco (Zc (ZD ["End"] "come" (Zd 0)) (Zc (Zd 1) Zi))))
 (Zr Zdk
 (ZP (Zd 3)))))
def ZcP:GM:=ZQ 2 4 Ze3
def Zhe:SM:=(mIf (ZC (mOp eqM (mOp zG (Zd 0) (mC (.int 2))) (mC (.int 0)))) (ZP (mOp zG (mOp Zdq (mC (.int 4294967296)) (mOp zG (mOp Zen (Zd 0) (mC (.int 2))) (mC (.int 90)))) (mC (.int 4294967296)))) ZN)
def Zi3:SM:=(Zr Zhe
 (ZP (Zd 0)))
def Zdz:GM:=ZQ 1 1 Zi3
noncomputable def Zfd:SM:=(mIf (zV (ZD ["End"] "has_closed" (Zd 0))) (ZP (mC (.bl false))) ZN)
noncomputable def Zhd:SM:=(mIf (ZC (mOp inM (ZD ["End"] "state" (Zd 0)) (Zbj (Zc (mC (.str "listen")) (Zc (mC (.str "syn sent")) Zi))))) (Zr (ZA ["End"] "state" (Zd 0) (mC (.str "closed")))
  (ZP (mC (.bl true)))) ZN)
noncomputable def Zhc:SM:=(mIf (ZC (mOp ZcQ (ZD ["End"] "state" (Zd 0)) (Zbj (Zc (mC (.str "syn come")) (Zc (mC (.str "open")) (Zc (mC (.str "close wait")) Zi)))))) (ZP (mC (.bl false))) ZN)
def Zhb:SM:=(mIf (ZC (mOp eqM (ZD ["End"] "state" (Zd 0)) (mC (.str "close wait")))) (ZA ["End"] "state" (Zd 0) (mC (.str "last ack"))) ZN)
def Zha:SM:=(mIf (ZC (mOp eqM (ZD ["End"] "state" (Zd 0)) (mC (.str "open")))) (ZA ["End"] "state" (Zd 0) (mC (.str "wait one"))) Zhb)
def ZgS:SM:=(Zr Zfd
 (Zr Zhd
 (Zr Zhc
 (Zr (ZA ["End"] "has_closed" (Zd 0) (mC (.bl true)))
 (Zr Zha
 (ZP (mC (.bl true))))))))
def ZcA:GM:=ZQ 1 1 ZgS
noncomputable def ZI (s:Seg) (f:Int):Bool:=decide (bit s.flags f=1)
noncomputable def ZmH (s:Seg):Int:=s.data.length+bit s.flags 2+bit s.flags 1
noncomputable def ZbH (s:Seg):Seg:=if ZI s 16=true then ⟨s.goal,s.src,s.ans,0,4,0,0,[]⟩ else ⟨s.goal,s.src,0,Zy s.num (ZmH s),20,0,0,[]⟩
noncomputable def ZaD (e:Zm) (s:Seg):Zm:=if ZI s 4=true then e else { e with Qb:=some (ZbH s) }
noncomputable def hearSyn (e:Zm) (s:Seg):Zm:={ e with rcv:=Zy s.num 1,wnd:=s.win,told:=s.num,Qn:=if ZI s 16=true then s.ans else 0,most:=if s.most=0 then e.most else s.most }
noncomputable def Zbq (e:Zm) (s:Seg):Zm:=
 if ZI s 4=true then e
 else if ZI s 16=true then ZaD e s
 else if ZI s 2=true then { hearSyn { e with Qt:=s.src } s with Qw:=.Qf }
 else e
noncomputable def Zbr (e:Zm) (s:Seg):Bool:=!decide (e.nxt=e.first) && decide (s.ans=Zy e.first 1)
noncomputable def z9 (e:Zm) (s:Seg) (now:Int):Zm:=
 if ZI s 16=true/\Zbr e s=false then ZaD e s
 else if ZI s 4=true then (if ZI s 16=true then { e with Qw:=.closed,error:=.refused } else e)
 else if ZI s 2=true then
  (if ZI s 16=true then { hearSyn e s with una:=s.ans,Qw:=.opn,Qa:=true }
    else { startTimer { hearSyn e s with Qw:=.Qf } now with Qe:=true })
 else e
noncomputable def Zgh (e:Zm) (s:Seg):Bool:=decide (s.goal=e.ours) && (decide (e.Qw∈[State.closed,.Qu]) || decide (s.src=e.Qt))
noncomputable def Zcc (e:Zm):Bool×Zm:=
 if e.Qc=true then (false,e)
 else if e.Qw=.Qu\/e.Qw=.Qg then (true,{ e with Qw:=.closed })
 else if e.Qw=.opn then (true,{ e with Qc:=true,Qw:=.Qh })
 else if e.Qw=.Qk then (true,{ e with Qc:=true,Qw:=.Ql })
 else if e.Qw=.Qf then (true,{ e with Qc:=true })
 else (false,e)
section
variable {θ:Sto} {l:Nat} {e:Zm} {s:Seg} {now f:Int}
@[simp] theorem ZwX:Z7 [s.d,.int f] θ=.ok (.bl (ZI s f)) θ:=by
 simp [Z7,Zi1,ZI]
theorem Zgt:ZcH [s.d] θ=.ok (.int (ZmH s)) θ:=Zne s θ
@[simp] theorem ZrO:ZbY [s.d] θ=.ok (ZbH s).d θ:=by
 by_cases c:ZI s 16=true
 ·simp [ZbY,ZdM,ZcU,c,ZbH,ZkX]
 ·simp [ZbY,ZdM,ZcU,c,ZbH,ZkX,Zgt]
@[simp] theorem ZrP (h:l+3 < θ.length):Z1 [.ref l,s.d] (upE θ l e)=.ok .non (upE θ l (ZaD e s)):=by
 by_cases c:ZI s 4=true
 ·simp [Z1,Zcd,ZbD,h,c,ZaD]
 ·simp [Z1,Zcd,ZbD,h,c,ZaD]
@[simp] theorem Zmi (h:l+3 < θ.length):ZaU [.ref l,s.d] (upE θ l e)=.ok .non (upE θ l (ZaD e s)):=by
 simp [ZaU,Zdo,h]
@[simp] theorem ZtQ (h:l+3 < θ.length):ZbS [.ref l,s.d] (upE θ l e)=.ok .non (upE θ l (hearSyn e s)):=by
 by_cases c:ZI s 16=true<;>by_cases c2:s.most=0<;>simp [ZbS,Zgo,Ze9,h,c,c2,hearSyn]
@[simp] theorem Zmh (h:l+3 < θ.length):zB [.ref l,s.d] (upE θ l e)=.ok .non (upE θ l (Zbq e s)):=by
 by_cases c:ZI s 4=true
 ·simp [zB,Zav,Zab,h,c,Zbq]
 ·by_cases c1:ZI s 16=true
  ·simp [zB,Zav,Zab,ZaO,ZaN,h,c,c1,Zbq]
  ·by_cases c2:ZI s 2=true
   ·simp [zB,Zav,Zab,ZaO,ZaN,h,c,c1,c2,Zbq]
   ·simp [zB,Zav,Zab,ZaO,ZaN,h,c,c1,c2,Zbq]
@[simp] theorem ZoU (h:l+3 < θ.length):ZbL [.ref l,s.d] (upE θ l e)=.ok (.bl (Zbr e s)) (upE θ l e):=by
 by_cases c:e.nxt=e.first<;>simp [ZbL,ZeH,h,Zbr,c]
@[simp] theorem ZkS (h:l+3 < θ.length):ZS [.ref l,s.d,.int now] (upE θ l e)=.ok .non (upE θ l (z9 e s now)):=by
 by_cases c:ZI s 16=true
 ·by_cases c1:Zbr e s=true
  ·by_cases c2:ZI s 4=true
   ·simp [ZS,Z6,ZV,Z8,ZeP,ZfQ,Zer,h,c,c1,c2,z9]
   ·by_cases c3:ZI s 2=true
    ·simp [ZS,Z6,ZV,Z8,zM,zP,ZaX,Zay,h,c,c1,c2,c3,z9]
    ·simp [ZS,Z6,ZV,Z8,zM,h,c,c1,c2,c3,z9]
  ·simp [ZS,Z6,ZV,h,c,c1,z9]
 ·by_cases c2:ZI s 4=true
  ·simp [ZS,Z6,ZV,Z8,ZeP,ZfQ,Zer,h,c,c2,z9]
  ·by_cases c3:ZI s 2=true
   ·simp [ZS,Z6,ZV,Z8,zM,zP,ZaX,Zay,h,c,c2,c3,z9]
   ·simp [ZS,Z6,ZV,Z8,zM,h,c,c2,c3,z9]
@[simp] theorem ZvB (h:l+3 < θ.length):ZeQ [.ref l,s.d] (upE θ l e)=.ok (.bl (Zgh e s)) (upE θ l e):=by
 simp [ZeQ,Zh9,h,Zgh]
theorem Zqt (h:l+3 < θ.length):ZcA [.ref l] (upE θ l e)=.ok (.bl (Zcc e).1) (upE θ l (Zcc e).2):=by
 by_cases c:e.Qc=true
 ·simp [ZcA,ZgS,Zfd,h,c,Zcc]
 ·cases s:e.Qw<;>simp [ZcA,ZgS,Zfd,Zhd,Zhc,Zhb,Zha,h,c,Zcc,s]
theorem Zhl (h:l+3 < θ.length) {r:List Int} (hb:Byt r) (hr:Za6 r=true) (hf:Zgh e (Zcb r)=true) (hs:e.Qw=.closed):zZ [.ref l,il r,.int now] (upE θ l e)=.ok (.bl true) (upE θ l (ZaD e (Zcb r))):=by
 simp [zZ,Zdp,Zck,Zcj,Zci,Zc6 hb,hr,Zlr hb hr,h,hf,hs]
theorem Zhk (h:l+3 < θ.length) {r:List Int} (hb:Byt r) (hr:Za6 r=true) (hf:Zgh e (Zcb r)=true) (hs:e.Qw=.Qu):zZ [.ref l,il r,.int now] (upE θ l e)=.ok (.bl true) (upE θ l (Zbq e (Zcb r))):=by
 simp [zZ,Zdp,Zck,Zcj,Zci,Zc1,Zc6 hb,hr,Zlr hb hr,h,hf,hs]
theorem Zgv (h:l+3 < θ.length) {r:List Int} (hb:Byt r) (hr:Za6 r=true) (hf:Zgh e (Zcb r)=true) (hs:e.Qw=.Qg):zZ [.ref l,il r,.int now] (upE θ l e)=.ok (.bl true) (upE θ l (z9 e (Zcb r) now)):=by
 simp [zZ,Zdp,Zck,Zcj,Zci,Zc1,Zev,Zc6 hb,hr,Zlr hb hr,h,hf,hs]
noncomputable def Zem (n:Int):Int:=if n % 2=0 then (4294967296-n/2 % 90) % 4294967296 else n
@[simp] theorem ZvA {n:Int}:Zdz [.int n] θ=.ok (.int (Zem n)) θ:=by
 by_cases c:n % 2=0<;>simp [Zdz,Zi3,Zhe,Zem,c]
end
section
variable {θ:Sto} {ρ:List Sl} {fi fo fe ff:EM} {fa:AM} {i j k:Nat} {b:SM} {x:D} {r:List D}
theorem nr' {p:Prop} (h:p):p:=h
@[simp] theorem ZAs:Zob fi fo ρ θ=(fi ρ θ).bind fun y θ=>(fo ρ θ).bind fun d θ=>match ZdX y,dkOf θ d with
 | some k,some (_,kvs)=>.ok (.bl (valD kvs k).isSome) θ
 | _,_=>.bad:=nr' rfl
@[simp] theorem Zy7:ZlT fo fe ρ θ=(fo ρ θ).bind fun d θ=>match dkOf θ d with
 | none=>.bad
 | some _=>(fe ρ θ).bind fun y θ=>match ZdX y,dkOf θ d with
  | some k,some (l,kvs)=>match valD kvs k with
   | some v=>.ok v (θ.set l (.dK (dropD kvs k)))
   | none=>.bad
  | _,_=>.bad:=nr' rfl
@[simp] theorem ZwR:Zk8 fo fe ff ρ θ=(fo ρ θ).bind fun d θ=>match dkOf θ d with
 | none=>.bad
 | some _=>(fe ρ θ).bind fun y θ=>(ff ρ θ).bind fun z θ=>match ZdX y,dkOf θ d with
  | some k,some (l,kvs)=>if kvs.length<BIG then (match valD kvs k with
   | some v=>.ok v θ
   | none=>.ok z (θ.set l (.dK (putD kvs k z)))) else .bad
  | _,_=>.bad:=nr' rfl
@[simp] theorem Zy6 {n:Int}:ZdX (.int n)=some (.inl n):=nr' rfl
end
abbrev EL:=List (Int×Int)
noncomputable def atE (m:EL) (n:Int):Option Int:=(m.find? fun p=>decide (p.1=n)).map (·.2)
noncomputable def ZeZ (m:EL) (n:Int):EL:=m.filter fun p=>decide (p.1≠n)
noncomputable def Zgf (m:EL) (n b:Int):EL:=match atE m n with | some _=>m | none=>m++[(n,b)]
noncomputable abbrev ed (p:Int×Int):Key×D:=(Sum.inl p.1,D.int p.2)
theorem ZfV (n:Int):∀m:EL,valD (m.map ed) (.inl n)=(atE m n).map D.int
 | []=>rfl
 | p::r=>by
  have ih:=ZfV n r
  unfold valD atE at ih ⊢
  by_cases e:p.1=n
  ·simp [ed,e]
  ·simpa [ed,e] using ih
theorem Zky (n:Int):∀m:EL,dropD (m.map ed) (.inl n)=(ZeZ m n).map ed
 | []=>rfl
 | p::r=>by
  have ih:=Zky n r
  unfold dropD ZeZ at ih ⊢
  by_cases e:p.1=n
  ·simpa [ed,e] using ih
  ·simpa [ed,e] using ih
theorem ZoM (n:Int):∀m:EL,((m.map ed).any fun kv=>decide (kv.1=Sum.inl n))=(atE m n).isSome
 | []=>rfl
 | p::r=>by
  have ih:=ZoM n r
  unfold atE at ih ⊢
  by_cases e:p.1=n
  ·simp [ed,e]
  ·simpa [ed,e] using ih
theorem ZqH (n b:Int) (m:EL) (h:atE m n=none):putD (m.map ed) (.inl n) (.int b)=(m++[(n,b)]).map ed:=by
 unfold putD
 rw [ZoM,h]
 simp [ed]
section
variable {θ:Sto} {l:Nat} {e:Zm} {s:Seg} {now:Int}
theorem dk3 (h:l+3 < θ.length):dkOf (upE θ l e) (.ref (l+3))=some (l+3,e.Qv.map ed):=by
 have:(upE θ l e)[l+3]?=some (c3 e):=by
  unfold upE
  rw [Yg (by simpa using h)]
 show (match (upE θ l e)[l+3]? with | some (Cell.dK kvs)=>some (l+3,kvs) | _=>none)=_
 rw [this]
 rfl
theorem ZvN (h:l+3 < θ.length) (m:EL):(upE θ l e).set (l+3) (.dK (m.map ed))=upE θ l { e with Qv:=m }:=by
 unfold upE
 rw [List.set_set]
 rfl
end
noncomputable def inWin (e:Zm) (n:Int):Bool:=decide (0<=Z3 n e.rcv) && decide (Z3 n e.rcv<ZH e)
noncomputable def ZiP (e:Zm) (s:Seg):Bool:=if ZmH s=0 then decide (0<=Z3 s.num e.rcv) && decide (Z3 s.num e.rcv<=64) else inWin e s.num || inWin e (Zy s.num (ZmH s-1))
noncomputable def ZcE (e:Zm) (s:Seg) (now:Int):Zm:=
 if ZI s 4=true then e
 else if e.Qw=.Qj then { e with Qa:=true,Qq:=now }
 else if e.Qw=.Qf/\ZI s 2=true/\ZI s 16=false then { e with Qe:=true }
 else { e with Qa:=true }
noncomputable def Zc5 (e:Zm) (s:Seg):Zm:=if e.Qw=.Qj then e else if s.num=e.rcv then { e with Qw:=.closed,error:=.reset } else { e with Qa:=true }
noncomputable def Za7 (a b:Int):Bool:=decide (0<Z3 a b)
noncomputable def Zds (e:Zm) (s:Seg):Zm:={ e with wnd:=s.win,told:=s.num,Qn:=s.ans }
noncomputable def ZaP (e:Zm) (s:Seg):Bool×Zm:=
 if e.nxt=e.first\/¬s.ans=e.nxt then (false,ZaD e s)
 else (true,Zds { e with una:=s.ans,Qw:=if e.Qc=true then .Qh else .opn } s)
noncomputable def isNewer (e:Zm) (s:Seg):Bool:=if s.num=e.told then !Za7 e.Qn s.ans else Za7 s.num e.told
noncomputable def Zby (e:Zm) (s:Seg) (now:Int):Zm:=
 if Za7 s.ans e.una=true then
  (if s.ans=e.nxt then { e with Qr:=e.Qr.drop (Z3 s.ans e.una).toNat,una:=s.ans } else startTimer { e with Qr:=e.Qr.drop (Z3 s.ans e.una).toNat,una:=s.ans } now)
 else e
noncomputable def ZY (e:Zm) (s:Seg) (now:Int):Zm:=
 let e1:=Zby e s now
 if Za7 e1.una s.ans=true then e1
 else
  let e2:=if (Za7 s.ans e.una || isNewer e1 s)=true then Zds e1 s else e1
  if e1.wnd=0\/e2.wnd=0 then { e2 with Qp:=0 } else e2
noncomputable def Zd8 (e:Zm):Bool:=Za7 e.nxt e.Qs
noncomputable def zL (e:Zm) (now:Int):Zm:=
 if Zd8 e=false\/¬e.una=e.nxt then e
 else if e.Qw=.Qh then { e with Qw:=.Qi }
 else if e.Qw=.Qm then { e with Qw:=.Qj,Qq:=now }
 else if e.Qw=.Ql then { e with Qw:=.closed }
 else e
noncomputable def Zbe (e:Zm) (s:Seg) (now:Int):Bool×Zm:=
 if e.Qw=.Qf then ZaP e s
 else if Za7 s.ans e.nxt=true then (false,{ e with Qa:=true })
 else (!decide ((zL (ZY e s now) now).Qw=.closed),zL (ZY e s now) now)
noncomputable def keepAll (e:Zm) (num:Int):Nat->List Int->Zm
 | _,[]=>e
 | k,b::r=>keepAll (if inWin e (Zy num k)=true then { e with Qv:=Zgf e.Qv (Zy num k) b } else e) num (k+1) r
noncomputable def keepData (e:Zm) (s:Seg):Zm:=if 0<s.data.length then { keepAll e s.num 0 s.data with Qa:=true } else keepAll e s.num 0 s.data
noncomputable def keepFin (e:Zm) (s:Seg):Zm:=
 if ZI s 1=false then e
 else if e.Qd=none/\inWin e (Zy s.num s.data.length)=true then { e with Qa:=true,Qd:=some (Zy s.num s.data.length) }
 else { e with Qa:=true }
noncomputable def drawn:Nat->Zm->List Int×Zm
 | 0,e=>([],e)
 | n+1,e=>if e.Qd=some e.rcv then ([],e) else match atE e.Qv e.rcv with
  | none=>([],e)
  | some b=>(b::(drawn n { e with Qv:=ZeZ e.Qv e.rcv,rcv:=Zy e.rcv 1 }).1,(drawn n { e with Qv:=ZeZ e.Qv e.rcv,rcv:=Zy e.rcv 1 }).2)
noncomputable def Zhs (e:Zm) (r:List Int):Zm:={ e with come:=e.come++ZbA r none (some (ZH e)) }
noncomputable def Zgj (e:Zm) (now:Int):Zm:=
 if e.Qw=.opn then { e with rcv:=Zy e.rcv 1,Qw:=.Qk }
 else if e.Qw=.Qh then { e with rcv:=Zy e.rcv 1,Qw:=.Qm }
 else { e with rcv:=Zy e.rcv 1,Qw:=.Qj,Qq:=now }
section
variable {θ:Sto} {l:Nat} {e:Zm} {s:Seg} {now n a b:Int}
@[simp] theorem Zzj:Zcp [.int a,.int b] θ=.ok (.bl (Za7 a b)) θ:=by simp [Zcp,ZkJ,Za7]
@[simp] theorem ZtG (h:l+3 < θ.length):Zbm [.ref l] (upE θ l e)=.ok (.bl (Zd8 e)) (upE θ l e):=by
 simp [Zbm,Zd1,h,Zd8]
@[simp] theorem ZrR (h:l+3 < θ.length):zt [.ref l,.int n] (upE θ l e)=.ok (.bl (inWin e n)) (upE θ l e):=by
 by_cases c:0<=Z3 n e.rcv<;>simp [zt,Zd0,h,inWin,ZH,c]<;>exact decide_eq_decide.mpr Iff.rfl
@[simp] theorem Zzk (h:l+3 < θ.length):ZgC [.ref l,s.d] (upE θ l e)=.ok (.bl (ZiP e s)) (upE θ l e):=by
 by_cases c:ZmH s=0
 ·by_cases c1:0<=Z3 s.num e.rcv<;>simp [ZgC,Zic,ZfR,h,Zgt,c,c1,ZiP]
 ·by_cases c1:inWin e s.num=true<;>simp [ZgC,Zic,ZfR,h,Zgt,c,c1,ZiP]
@[simp] theorem ZrN (h:l+3 < θ.length):Zbl [.ref l,s.d,.int now] (upE θ l e)=.ok .non (upE θ l (ZcE e s now)):=by
 by_cases c4:ZI s 4=true
 ·simp [Zbl,ZcD,ZbO,h,c4,ZcE]
 ·by_cases ct:e.Qw=.Qj
  ·simp [Zbl,ZcD,ZbO,ZcT,ZcS,h,c4,ct,ZcE]
  ·by_cases cs:e.Qw=.Qf<;>by_cases c2:ZI s 2=true<;>by_cases c16:ZI s 16=true<;>simp [Zbl,ZcD,ZbO,ZcT,ZcS,h,c4,ct,cs,c2,c16,ZcE]
@[simp] theorem Zqn (h:l+3 < θ.length):Zbu [.ref l,s.d] (upE θ l e)=.ok .non (upE θ l (Zc5 e s)):=by
 by_cases ct:e.Qw=.Qj
 ·simp [Zbu,Zdm,Zcy,Zcx,h,ct,Zc5]
 ·by_cases c:s.num=e.rcv<;>simp [Zbu,Zdm,Zcy,Zcx,h,ct,c,Zc5]
@[simp] theorem ZoQ (h:l+3 < θ.length):ZaR [.ref l,s.d] (upE θ l e)=.ok .non (upE θ l (Zds e s)):=by
 simp [ZaR,ZeE,h,Zds]
@[simp] theorem Znh (h:l+3 < θ.length):zx [.ref l,s.d] (upE θ l e)=.ok (.bl (ZaP e s).1) (upE θ l (ZaP e s).2):=by
 by_cases c1:e.nxt=e.first
 ·simp [zx,ZaJ,Zaj,h,c1,ZaP]
 ·by_cases c2:s.ans=e.nxt
  ·by_cases c3:e.Qc=true<;>simp [zx,ZaJ,Zaj,h,c1,c2,c3,ZaP]
  ·simp [zx,ZaJ,Zaj,h,c1,c2,ZaP]
@[simp] theorem ZtO (h:l+3 < θ.length):Zdb [.ref l,s.d] (upE θ l e)=.ok (.bl (isNewer e s)) (upE θ l e):=by
 by_cases c:s.num=e.told<;>simp [Zdb,Zgn,Ze8,h,c,isNewer]
theorem Zqi (h:l+3 < θ.length):Zco [.ref (l+1),.int n] (upE θ l e)=.ok (il (e.Qr.take n.toNat)) (upE θ l { e with Qr:=e.Qr.drop n.toNat }):=by
 by_cases c:0<n
 ·simp [Zco,Zdj,h,Zcw,Zdh,c,show 0<=n by omega,show ¬n<0 by omega]
 ·have z:n.toNat=0:=by omega
  by_cases c0:n<0
  ·simp [Zco,Zdj,h,Zcw,Zdh,z,c0,Zdg]
  ·have n0:n=0:=by omega
   simp [Zco,Zdj,h,Zcw,Zdh,n0,Zdg]
theorem Zqh (h:l+3 < θ.length):Zco [.ref (l+2),.int n] (upE θ l e)=.ok (il (e.come.take n.toNat)) (upE θ l { e with come:=e.come.drop n.toNat }):=by
 by_cases c:0<n
 ·simp [Zco,Zdj,h,Zcw,Zdh,c,show 0<=n by omega,show ¬n<0 by omega]
 ·have z:n.toNat=0:=by omega
  by_cases c0:n<0
  ·simp [Zco,Zdj,h,Zcw,Zdh,z,c0,Zdg]
  ·have n0:n=0:=by omega
   simp [Zco,Zdj,h,Zcw,Zdh,n0,Zdg]
@[simp] theorem ZoS (h:l+3 < θ.length):zU [.ref l,s.d,.int now] (upE θ l e)=.ok .non (upE θ l (ZY e s now)):=by
 have tk:=fun (e:Zm) (n:Int)=>Zqi (θ:=θ) (l:=l) (e:=e) (n:=n) h
 have h2:ZaI [.val (.ref l),.val s.d,.val (.int now),.val (.int s.ans),.val (.bl (Za7 s.ans e.una)),.no] (upE θ l e)=.ok (.nx,[.val (.ref l),.val s.d,.val (.int now),.val (.int s.ans),.val (.bl (Za7 s.ans e.una)),.no]) (upE θ l (Zby e s now)):=by
  unfold Zby
  by_cases c1:Za7 s.ans e.una=true
  ·rw [if_pos c1]
   by_cases c2:s.ans=e.nxt
   ·rw [if_pos c2,c1]
    simp [ZaI,Zcg,h,tk,c2]
   ·rw [if_neg c2,c1]
    simp [ZaI,Zcg,h,tk,c2]
  ·rw [if_neg c1]
   simp [ZaI,c1]
 unfold ZY
 obtain ⟨e1,he1⟩:∃x,x=Zby e s now:=⟨_,rfl⟩
 rw [<-he1] at h2 ⊢
 obtain ⟨g,hg⟩:∃x,x=Za7 s.ans e.una:=⟨_,rfl⟩
 rw [<-hg] at h2 ⊢
 clear he1
 by_cases c3:Za7 e1.una s.ans=true
 ·simp [zU,Zbc,h,<-hg,h2,ZaH,c3]
 ·have w0:∀x:Zm,(if (g || isNewer e1 s)=true then Zds e1 s else e1)=x->zU [.ref l,s.d,.int now] (upE θ l e)=.ok .non (upE θ l (if e1.wnd=0\/x.wnd=0 then { x with Qp:=0 } else x)):=by
   intro x hx
   have h4:Zbi [.val (.ref l),.val s.d,.val (.int now),.val (.int s.ans),.val (.bl g),.val (.bl (decide (e1.wnd=0)))] (upE θ l e1)=.ok (.nx,[.val (.ref l),.val s.d,.val (.int now),.val (.int s.ans),.val (.bl g),.val (.bl (decide (e1.wnd=0)))]) (upE θ l x):=by
    rw [<-hx]
    cases g
    ·by_cases c:isNewer e1 s=true<;>simp [Zbi,h,c]
    ·simp [Zbi,h]
   by_cases c5:e1.wnd=0
   ·rw [if_pos (.inl c5)]
    simp [zU,Zbc,h,<-hg,h2,ZaH,c3,c5] at h4 ⊢
    simp [h4,Zbh,h]
   ·by_cases c6:x.wnd=0
    ·rw [if_pos (.inr c6)]
     simp [zU,Zbc,h,<-hg,h2,ZaH,c3,c5] at h4 ⊢
     simp [h4,Zbh,h,c6]
    ·rw [if_neg (by intro z; exact z.elim c5 c6)]
     simp [zU,Zbc,h,<-hg,h2,ZaH,c3,c5] at h4 ⊢
     simp [h4,Zbh,h,c6]
  simp only [if_neg c3]
  exact w0 _ rfl
@[simp] theorem ZrS (h:l+3 < θ.length):ZR [.ref l,.int now] (upE θ l e)=.ok .non (upE θ l (zL e now)):=by
 by_cases c1:Zd8 e=true
 ·by_cases c2:e.una=e.nxt
  ·cases c:e.Qw<;>simp [ZR,zu,zp,Za0,ZaZ,ZaY,h,c,c1,c2,zL]
  ·simp [ZR,zu,zp,h,c1,c2,zL]
 ·simp [ZR,zu,zp,h,c1,zL]
@[simp] theorem Zu8 (h:l+3 < θ.length):Z2 [.ref l,s.d,.int now] (upE θ l e)=.ok (.bl (Zbe e s now).1) (upE θ l (Zbe e s now).2):=by
 by_cases c1:e.Qw=.Qf
 ·simp [Z2,zO,zF,h,c1,Zbe]
 ·by_cases c2:Za7 s.ans e.nxt=true
  ·simp [Z2,zO,zF,Zak,h,c1,c2,Zbe]
  ·simp [Z2,zO,zF,Zak,h,c1,c2,Zbe]
end
theorem ZiK (m:EL) (n b:Int):(Zgf m n b).length<=m.length+1:=by
 unfold Zgf
 cases atE m n<;>simp
section
variable {θ:Sto} {l:Nat} {e:Zm} {s:Seg} {now n b:Int}
abbrev keepB:SM:=Zr (Z5 4 (mCB zw (Zc (mOp ixM (Zd 1) (mC (.int 2))) (Zc (Zd 2) Zi)))) Zbb
theorem Zqm (h:l+3 < θ.length) (k:Nat) (x:Sl) (he:e.Qv.length<1000):keepB [.val (.ref l),.val s.d,.val (.int k),.val (.int b),x] (upE θ l e)=.ok (.nx,[.val (.ref l),.val s.d,.val (.int k),.val (.int b),.val (.int (Zy s.num k))]) (upE θ l (if inWin e (Zy s.num k)=true then { e with Qv:=Zgf e.Qv (Zy s.num k) b } else e)):=by
 have hd:=fun (e:Zm)=>dk3 (θ:=θ) (l:=l) (e:=e) h
 have hs:=fun (e:Zm) (m:EL)=>ZvN (θ:=θ) (l:=l) (e:=e) h m
 have hB:(e.Qv.map ed).length<BIG:=by simp [BIG]; omega
 obtain ⟨n,hn⟩:∃n,n=Zy s.num k:=⟨_,rfl⟩
 by_cases c:inWin e n=true
 ·unfold Zgf
  cases c2:atE e.Qv n with
  | some v=>
   simp [Zbb,h,<-hn,c,hd,hB,ZfV,c2,-List.length_map]
  | none=>
   simp [Zbb,h,<-hn,c,hd,hB,ZfV,c2,ZqH,hs,-List.length_map,-List.map_append]
 ·simp [Zbb,h,<-hn,c]
theorem Zlp (h:l+3 < θ.length):∀(r:List Int) (k:Nat) (x y z:Sl) (e:Zm),e.Qv.length+r.length<1000->
  ∃x' y' z',forE 2 3 keepB k (r.map D.int) [.val (.ref l),.val s.d,x,y,z] (upE θ l e)=.ok (.nx,[.val (.ref l),.val s.d,x',y',z']) (upE θ l (keepAll e s.num k r))
 | [],k,x,y,z,e,_=>⟨x,y,z,rfl⟩
 | b::r,k,x,y,z,e,hl=>by
  have hl':e.Qv.length+r.length+1<1000:=by simpa [Nat.add_assoc] using hl
  show ∃x' y' z',(keepB [.val (.ref l),.val s.d,.val (.int k),.val (.int b),z] (upE θ l e)).bind (Zg1 (forE 2 3 keepB (k+1) (r.map D.int)))=_
  rw [Zqm h k z (by omega)]
  exact Zlp h r (k+1) _ _ _ _ (by
   split
   ·have:=ZiK e.Qv (Zy s.num k) b
    show (Zgf e.Qv (Zy s.num k) b).length+r.length<1000
    omega
   ·omega)
@[simp] theorem ZjQ (h:l+3 < θ.length) (hl:e.Qv.length+s.data.length<1000):ZbZ [.ref l,s.d] (upE θ l e)=.ok .non (upE θ l (keepData e s)):=by
 obtain ⟨x,y,z,g⟩:=Zlp (s:=s) h s.data 0 .no .no .no e hl
 have h2:ZcW [.val (.ref l),.val s.d,.no,.no,.no] (upE θ l e)=.ok (.nx,[.val (.ref l),.val s.d,x,y,z]) (upE θ l (keepAll e s.num 0 s.data)):=by
  rw [<-g]
  simp [ZcW,Zoa]
  rfl
 obtain ⟨e1,he1⟩:∃q,q=keepAll e s.num 0 s.data:=⟨_,rfl⟩
 unfold keepData
 rw [<-he1] at h2 ⊢
 by_cases c:0<s.data.length
 ·rw [if_pos c]
  simp [ZbZ,ZdP,h2,ZcV,h,c]
 ·rw [if_neg c]
  simp [ZbZ,ZdP,h2,ZcV,h,c]
@[simp] theorem Zt0 (h:l+3 < θ.length) (e:Zm) (n:Int):za ["End"] "early_fin" (.int n) (.ref l) (upE θ l e)=some (upE θ l { e with Qd:=some n }):=Zj0 h e (some n)
@[simp] theorem Zvg (r:Option Int):ZcJ (Zhn r)=r.isNone:=by cases r<;>rfl
theorem ZjP (h:l+3 < θ.length):ZaW [.val (.ref l),.val s.d,.val (.int n)] (upE θ l e)=.ok (.nx,[.val (.ref l),.val s.d,.val (.int n)]) (upE θ l (if e.Qd=none/\inWin e n=true then { e with Qd:=some n } else e)):=by
 by_cases c2:e.Qd=none
 ·by_cases c3:inWin e n=true
  ·rw [if_pos ⟨c2,c3⟩]
   have q:∀f,e.Qd=f->f=none->ZaW [.val (.ref l),.val s.d,.val (.int n)] (upE θ l e)=.ok (.nx,[.val (.ref l),.val s.d,.val (.int n)]) (upE θ l { e with Qd:=some n }):=by
    intro f hf h0
    have h1:e.Qd.isNone=true:=by rw [hf,h0]; rfl
    simp [ZaW,h,h1,c3]
   exact q _ rfl c2
  ·rw [if_neg fun z=>c3 z.2]
   have h1:e.Qd.isNone=true:=by rw [c2]; rfl
   simp [ZaW,h,h1,c3]
 ·rw [if_neg fun z=>c2 z.1]
  have h1:e.Qd.isNone=false:=by cases q:e.Qd<;>first | exact absurd q c2 | rfl
  simp [ZaW,h,h1]
@[simp] theorem ZkR (h:l+3 < θ.length):Zcr [.ref l,s.d] (upE θ l e)=.ok .non (upE θ l (keepFin e s)):=by
 unfold keepFin
 by_cases c1:ZI s 1=true
 ·obtain ⟨n,hn⟩:∃n,n=Zy s.num s.data.length:=⟨_,rfl⟩
  have k2:=ZjP (e:={ e with Qa:=true }) (s:=s) (n:=n) h
  rw [<-hn,c1]
  simp [Zcr,Zet,Zdl,h,c1,<-hn,k2]
  rfl
 ·simp [Zcr,Zet,Zdl,c1]
@[simp] theorem ZzJ (n:Int) (r:Option Int):neM (.int n) (Zhn r) θ=.ok (.bl (!decide (r=some n))) θ:=by
 cases r with
 | none=>rw [Zjl (by exact ZfO rfl rfl rfl rfl)]; simp [look,Zhn]
 | some m=>simp [Zhn,eq_comm]
@[simp] theorem Zz5 (n:Int) (r:Option Int):eqM (.int n) (Zhn r) θ=.ok (.bl (decide (r=some n))) θ:=by
 cases r with
 | none=>rw [Zle (by exact ZfO rfl rfl rfl rfl)]; simp [look,Zhn]
 | some m=>simp [Zhn,eq_comm]
abbrev Zoz:TMr:=ZeI (ZC (mOp neM (ZD ["End"] "rcv" (Zd 0)) (ZD ["End"] "early_fin" (Zd 0)))) (ZC (Zob (ZD ["End"] "rcv" (Zd 0)) (ZD ["End"] "early" (Zd 0))))
abbrev ZoA:SM:=Zr (Zgc 1 (ZlT (ZD ["End"] "early" (Zd 0)) (ZD ["End"] "rcv" (Zd 0))))
  (ZA ["End"] "rcv" (Zd 0) (mCB zw (Zc (ZD ["End"] "rcv" (Zd 0)) (Zc (mC (.int 1)) Zi))))
theorem Zqr (h:l+3 < θ.length) (x:Sl):Zoz [.val (.ref l),x] (upE θ l e)=.ok (!decide (e.Qd=some e.rcv) && (atE e.Qv e.rcv).isSome) (upE θ l e):=by
 have hd:=fun (e:Zm)=>dk3 (θ:=θ) (l:=l) (e:=e) h
 by_cases c:e.Qd=some e.rcv<;>simp [h,hd,ZfV,c]
theorem Zqs (h:l+3 < θ.length) {b:Int} (xs:List D) (hx:xs.length<BIG) (hv:atE e.Qv e.rcv=some b):ZoA [.val (.ref l),.own xs] (upE θ l e)=.ok (.nx,[.val (.ref l),.own (xs++[.int b])]) (upE θ l { e with Qv:=ZeZ e.Qv e.rcv,rcv:=Zy e.rcv 1 }):=by
 have hd:=fun (e:Zm)=>dk3 (θ:=θ) (l:=l) (e:=e) h
 have hs:=fun (e:Zm) (m:EL)=>ZvN (θ:=θ) (l:=l) (e:=e) h m
 simp [h,hd,ZfV,hv,Zky,hs,hx]
theorem Zoy {m:EL} {n b:Int} (h:atE m n=some b):(ZeZ m n).length<m.length:=by
 induction m with
 | nil=>simp [atE] at h
 | cons p r ih=>
  unfold ZeZ atE at *
  by_cases e:p.1=n
  ·simp [e]
   exact Nat.lt_succ_of_le (YY ..)
  ·simp [e] at h ⊢
   have:=ih (by simpa using h)
   simpa using this
theorem Zls (h:l+3 < θ.length):∀(n:Nat) (e:Zm) (xs:List Int),e.Qv.length<n->xs.length+n<1000->ZbQ Zoz ZoA n [.val (.ref l),.own (xs.map D.int)] (upE θ l e)=.ok (.nx,[.val (.ref l),.own ((xs++(drawn n e).1).map D.int)]) (upE θ l (drawn n e).2)
 | 0,e,xs,hn,_=>absurd hn (Jc _)
 | n+1,e,xs,hn,hx=>by
  rw [Zho,Zqr h]
  unfold drawn
  by_cases c:e.Qd=some e.rcv
  ·simp [c]
  ·cases c2:atE e.Qv e.rcv with
   | none=>simp [c]
   | some b=>
    have:=Zls h n { e with Qv:=ZeZ e.Qv e.rcv,rcv:=Zy e.rcv 1 } (xs++[b]) (by have:=Zoy c2; simp only; omega) (by simp; omega)
    rw [if_neg c]
    simp only [c,decide_false,Bool.not_false,Bool.true_and,Option.isSome_some,R.bind,if_true]
    rw [Zqs h (xs.map D.int) (by simp [BIG]; omega) c2]
    simp only [R.bind,Zg1]
    rw [List.map_append] at this
    simpa [YF] using this
theorem ZhU:∀(n:Nat) (e:Zm),(drawn n e).2.come=e.come
 | 0,e=>rfl
 | n+1,e=>by
  unfold drawn
  split
  ·rfl
  ·split
   ·rfl
   ·exact ZhU n _
theorem Zhv {r:List Int} {k:Int} (h:0<=k):((ZbA r none (some k)).length:Int)<=k:=by
 rw [Zcw r h]
 have:=List.length_take_le k.toNat r
 omega
theorem ZtN (h:l+3 < θ.length) (hc:e.come.length<=64) (r:List Int):Zf1 [.ref (l+2),il r] (upE θ l e)=.ok (.int (ZbA r none (some (ZH e))).length) (upE θ l (Zhs e r)):=by
 have h1:e.come.length+(ZbA r none (some (ZH e))).length<=100000:=by
  have:=Zhv (r:=r) (k:=ZH e) (by unfold ZH; omega)
  unfold ZH at *
  omega
 simp [Zf1,ZjC,h,Zhs,h1]
@[simp] theorem ZwV (h:l+3 < θ.length):Zec [.ref (l+1)] (upE θ l e)=.ok (.int (64-(e.Qr.length:Int))) (upE θ l e):=by
 simp [Zec,Zh5,h]
theorem ZtM (h:l+3 < θ.length) (hc:e.Qr.length<=64) (r:List Int):Zf1 [.ref (l+1),il r] (upE θ l e)=.ok (.int (ZbA r none (some (64-(e.Qr.length:Int)))).length) (upE θ l { e with Qr:=e.Qr++ZbA r none (some (64-(e.Qr.length:Int))) }):=by
 have h1:e.Qr.length+(ZbA r none (some (64-(e.Qr.length:Int)))).length<=100000:=by
  have:=Zhv (r:=r) (k:=64-(e.Qr.length:Int)) (by omega)
  omega
 simp [Zf1,ZjC,h,h1]
noncomputable def Zgk (e:Zm):Zm:=Zhs (drawn 200 e).2 (drawn 200 e).1
theorem Zhi (h:l+3 < θ.length) (hc:e.come.length<=64) (he:e.Qv.length<200):Za8 [.ref l] (upE θ l e)=.ok .non (upE θ l (Zgk e)):=by
 have g:=Zls h 200 e [] he (by simp)
 have g1:ZbF [.val (.ref l),.own []] (upE θ l e)=.ok (.nx,[.val (.ref l),.own ((drawn 200 e).1.map D.int)]) (upE θ l (drawn 200 e).2):=by
  have q:ZbF=ZbQ Zoz ZoA 200:=rfl
  rw [q]
  simpa using g
 have hc1:(drawn 200 e).2.come.length<=64:=by rw [ZhU]; exact hc
 obtain ⟨e1,he1⟩:∃q,q=(drawn 200 e).2:=⟨_,rfl⟩
 obtain ⟨r1,hr1⟩:∃q,q=(drawn 200 e).1:=⟨_,rfl⟩
 unfold Zgk
 rw [<-he1,<-hr1] at g1 ⊢
 rw [<-he1] at hc1
 have tl:=ZtN (e:=e1) h hc1 r1
 simp [Za8,ZdE,g1,h,tl]
@[simp] theorem ZtR (h:l+3 < θ.length):Zcs [.ref l,.int now] (upE θ l e)=.ok .non (upE θ l (Zgj e now)):=by
 by_cases c1:e.Qw=.opn
 ·simp [Zcs,Zeu,Zdn,h,c1,Zgj]
 ·by_cases c2:e.Qw=.Qh<;>simp [Zcs,Zeu,Zfa,Zdn,h,c1,c2,Zgj]
noncomputable def ZaB (e:Zm) (s:Seg):Zm:=Zgk (keepFin (keepData e s) s)
noncomputable def zk (e:Zm) (s:Seg) (now:Int):Zm:=
 if e.Qw=.opn\/e.Qw=.Qh\/e.Qw=.Qi then
  (if (ZaB e s).Qd=some (ZaB e s).rcv then Zgj (ZaB e s) now else ZaB e s)
 else e
theorem Zg4 (num:Int):∀(r:List Int) (k:Nat) (e:Zm),(keepAll e num k r).Qv.length<=e.Qv.length+r.length
 | [],k,e=>Yb _
 | b::r,k,e=>by
  unfold keepAll
  refine Yu (Zg4 num r (k+1) _) ?_
  split
  ·have:=ZiK e.Qv (Zy num k) b
   simp only [Yc]
   omega
  ·simp only [Yc]; omega
theorem Zim (e:Zm) (s:Seg):(keepFin e s).Qv=e.Qv:=by
 unfold keepFin
 split
 ·rfl
 ·split<;>rfl
theorem Zjs (e:Zm) (s:Seg):(keepData e s).Qv.length<=e.Qv.length+s.data.length:=by
 unfold keepData
 split<;>exact Zg4 ..
theorem Zgg (num:Int):∀(r:List Int) (k:Nat) (e:Zm),(keepAll e num k r).come=e.come
 | [],k,e=>rfl
 | b::r,k,e=>by
  unfold keepAll
  rw [Zgg num r (k+1) _]
  split<;>rfl
theorem Zjr (e:Zm) (s:Seg):(keepFin e s).come=e.come:=by
 unfold keepFin
 split
 ·rfl
 ·split<;>rfl
theorem Zin (e:Zm) (s:Seg):(keepData e s).come=e.come:=by
 unfold keepData
 split<;>exact Zgg ..
theorem Zij (h:l+3 < θ.length) (hc:e.come.length<=64) (hl:e.Qv.length+s.data.length<200):ZaS [.ref l,s.d,.int now] (upE θ l e)=.ok .non (upE θ l (zk e s now)):=by
 unfold zk
 by_cases c:e.Qw=.opn\/e.Qw=.Qh\/e.Qw=.Qi
 ·rw [if_pos c]
  have k1:=ZjQ (e:=e) (s:=s) h (by omega)
  have k2:=ZkR (e:=keepData e s) (s:=s) h
  have k3:=Zhi (e:=keepFin (keepData e s) s) h (by rw [Zjr,Zin]; exact hc) (by rw [Zim]; have:=Zjs e s; omega)
  have k4:Zgk (keepFin (keepData e s) s)=ZaB e s:=rfl
  rw [k4] at k3
  obtain ⟨e3,he3⟩:∃q,q=ZaB e s:=⟨_,rfl⟩
  rw [<-he3] at k3 ⊢
  have c':e.Qw∈[State.opn,.Qh,.Qi]:=by simpa using c
  by_cases c2:e3.Qd=some e3.rcv
  ·simp [ZaS,ZbP,Zbg,h,c,k1,k2,k3,Zcf,c2]
  ·simp [ZaS,ZbP,Zbg,h,c,k1,k2,k3,Zcf,c2]
 ·rw [if_neg c]
  simp [ZaS,ZbP,Zbg,h,c]
noncomputable def Za3 (e:Zm) (s:Seg) (now:Int):Zm:=
 if ZiP e s=false then ZcE e s now
 else if ZI s 4=true then Zc5 e s
 else if ZI s 2=true then { e with Qa:=true }
 else if ZI s 16=true then (if (Zbe e s now).1=true then zk (Zbe e s now).2 s now else (Zbe e s now).2)
 else e
theorem Zjw (e:Zm) (s:Seg) (now:Int):(Zbe e s now).2.Qv=e.Qv:=by
 unfold Zbe
 split
 ·unfold ZaP
  split
  ·unfold ZaD; split<;>rfl
  ·rfl
 ·split
  ·rfl
  ·show (zL (ZY e s now) now).Qv=e.Qv
   have h1:(Zby e s now).Qv=e.Qv:=by
    unfold Zby
    split
    ·split<;>rfl
    ·rfl
   have h2:(ZY e s now).Qv=e.Qv:=by
    unfold ZY
    simp only
    split
    ·exact h1
    ·split
     ·split<;>exact h1
     ·split<;>exact h1
   unfold zL
   split
   ·exact h2
   ·split
    ·exact h2
    ·split
     ·exact h2
     ·split<;>exact h2
theorem Zku (e:Zm) (s:Seg) (now:Int):(Zbe e s now).2.come=e.come:=by
 unfold Zbe
 split
 ·unfold ZaP
  split
  ·unfold ZaD; split<;>rfl
  ·rfl
 ·split
  ·rfl
  ·show (zL (ZY e s now) now).come=e.come
   have h1:(Zby e s now).come=e.come:=by
    unfold Zby
    split
    ·split<;>rfl
    ·rfl
   have h2:(ZY e s now).come=e.come:=by
    unfold ZY
    simp only
    split
    ·exact h1
    ·split
     ·split<;>exact h1
     ·split<;>exact h1
   unfold zL
   split
   ·exact h2
   ·split
    ·exact h2
    ·split
     ·exact h2
     ·split<;>exact h2
theorem Zgu (h:l+3 < θ.length) (hc:e.come.length<=64) (hl:e.Qv.length+s.data.length<200):ze [.ref l,s.d,.int now] (upE θ l e)=.ok .non (upE θ l (Za3 e s now)):=by
 unfold Za3
 by_cases c1:ZiP e s=true
 ·by_cases c2:ZI s 4=true
  ·simp [ze,zA,zm,zD,h,c1,c2]
  ·by_cases c3:ZI s 2=true
   ·simp [ze,zA,zm,zD,Zaa,h,c1,c2,c3]
   ·by_cases c4:ZI s 16=true
    ·have hs:=Zij (e:=(Zbe e s now).2) (s:=s) (now:=now) h (by rw [Zku]; exact hc) (by rw [Zjw]; exact hl)
     by_cases c5:(Zbe e s now).1=true
     ·simp [ze,zA,zm,zD,Zaa,ZaM,h,c1,c2,c3,c4,c5,hs]
     ·simp [ze,zA,zm,zD,Zaa,ZaM,h,c1,c2,c3,c4,c5]
    ·simp [ze,zA,zm,zD,Zaa,ZaM,h,c1,c2,c3,c4]
 ·simp [ze,zA,zm,h,c1]
theorem Zhj (h:l+3 < θ.length) (hc:e.come.length<=64) {r:List Int} (hb:Byt r) (hr:Za6 r=true) (hf:Zgh e (Zcb r)=true) (hl:e.Qv.length+(Zcb r).data.length<200) (h1:¬e.Qw=.closed) (h2:¬e.Qw=.Qu) (h3:¬e.Qw=.Qg):zZ [.ref l,il r,.int now] (upE θ l e)=.ok (.bl true) (upE θ l (Za3 e (Zcb r) now)):=by
 simp [zZ,Zdp,Zck,Zcj,Zci,Zc1,Zev,Zc6 hb,hr,Zlr hb hr,h,hf,h1,h2,h3,Zgu h hc hl]
noncomputable def ZbC (e:Zm) (s:Seg) (now:Int):Zm:=
 match e.Qw with
 | .closed=>ZaD e s
 | .Qu=>Zbq e s
 | .Qg=>z9 e s now
 | _=>Za3 e s now
theorem ZfY (h:l+3 < θ.length) (hc:e.come.length<=64) (hs:s.Ok) (hf:Zgh e s=true) (hl:e.Qv.length<150):zZ [.ref l,il (putL s),.int now] (upE θ l e)=.ok (.bl true) (upE θ l (ZbC e s now)):=by
 have hb:=ZqG hs.put
 have hr:=Zms hs
 have hg:=Zrn hs
 have hd:s.data.length<=16:=hs.data.2
 unfold ZbC
 cases c:e.Qw
 ·simp only
  rw [Zhl h hb hr (by rw [hg]; exact hf) c,hg]
 ·simp only
  rw [Zhk h hb hr (by rw [hg]; exact hf) c,hg]
 ·simp only
  rw [Zgv h hb hr (by rw [hg]; exact hf) c,hg]
 all_goals
  simp only
  rw [Zhj h hc hb hr (by rw [hg]; exact hf) (by rw [hg]; omega) (by rw [c]; decide) (by rw [c]; decide) (by rw [c]; decide),hg]
noncomputable def Zdi (e:Zm):Bool:=!e.Qc && decide (e.Qw∈[State.Qg,.Qf,.opn,.Qk])
noncomputable def ZeK (e:Zm) (r:List Int):List Int:=ZbA r none (some (64-(e.Qr.length:Int)))
noncomputable def Zcn (e:Zm) (r:List Int):Zm:=if Zdi e=true then { e with Qr:=e.Qr++ZeK e r,Qs:=Zy e.Qs (ZeK e r).length } else e
theorem Zqg (h:l+3 < θ.length) (hc:e.Qr.length<=64) (r:List Int):Za4 [.ref l,il r] (upE θ l e)=.ok (.int (if Zdi e=true then (ZeK e r).length else 0)) (upE θ l (Zcn e r)):=by
 have hw:ZeK e r=ZbA r none (some (64-(e.Qr.length:Int))):=rfl
 unfold Zcn Zdi
 by_cases c:e.Qc=true
 ·simp [Za4,Zft,ZdC,h,c]
 ·by_cases c2:e.Qw∈[State.Qg,.Qf,.opn,.Qk]
  ·have c2':e.Qw=State.Qg\/e.Qw=State.Qf\/e.Qw=State.opn\/e.Qw=State.Qk:=by simpa using c2
   simp [Za4,Zft,ZdC,h,c,c2',<-hw,ZtM h hc]
  ·have c2':¬(e.Qw=State.Qg\/e.Qw=State.Qf\/e.Qw=State.opn\/e.Qw=State.Qk):=by simpa using c2
   simp [Za4,Zft,ZdC,h,c,c2']
noncomputable def readE (e:Zm) (n:Int):Zm:=
 if ZH e=0/\0<ZH { e with come:=e.come.drop n.toNat }/\e.Qw∈[State.opn,.Qh,.Qi] then { e with come:=e.come.drop n.toNat,Qa:=true } else { e with come:=e.come.drop n.toNat }
theorem ZtI (h:l+3 < θ.length):ZcP [.ref l,.int n] (upE θ l e)=.ok (il (e.come.take n.toNat)) (upE θ l (readE e n)):=by
 have tk:=Zqh (θ:=θ) (l:=l) (e:=e) (n:=n) h
 obtain ⟨e1,he1⟩:∃q:Zm,q={ e with come:=e.come.drop n.toNat }:=⟨_,rfl⟩
 obtain ⟨k1,hk1⟩:∃q,q=il (e.come.take n.toNat):=⟨_,rfl⟩
 have s1:e.Qw=e1.Qw:=by rw [he1]
 unfold readE
 have e2:({ e with come:=e.come.drop n.toNat,Qa:=true }:Zm)={ e1 with Qa:=true }:=by rw [he1]
 rw [e2,<-he1,<-hk1,s1]
 rw [<-he1,<-hk1] at tk
 by_cases c1:ZH e=0
 ·by_cases c2:0<ZH e1
  ·by_cases c3:e1.Qw∈[State.opn,.Qh,.Qi]
   ·have c3':e1.Qw=State.opn\/e1.Qw=State.Qh\/e1.Qw=State.Qi:=by simpa using c3
    simp [ZcP,Ze3,Zdk,h,tk,c1,c2,c3']
   ·have c3':¬(e1.Qw=State.opn\/e1.Qw=State.Qh\/e1.Qw=State.Qi):=by simpa using c3
    simp [ZcP,Ze3,Zdk,h,tk,c1,c2,c3']
  ·simp [ZcP,Ze3,Zdk,h,tk,c1,c2]
 ·simp [ZcP,Ze3,Zdk,h,tk,c1]
end
theorem Zbd {n j k:Int} (h : -2147483648<=j-k/\j-k<2147483648):Z3 (Zy n j) (Zy n k)=j-k:=by
 unfold Z3 Zy; omega
@[simp] theorem Zwg (n:Int):Z3 n n=0:=by
 unfold Z3; omega
@[simp] theorem Zmx (n:Int):Za7 n n=false:=by simp [Za7]
theorem Zbt (n j k:Int):Zy (Zy n j) k=Zy n (j+k):=by
 unfold Zy; omega
theorem Zfm (n k:Int):0<=Zy n k/\Zy n k<=4294967295:=by
 unfold Zy; omega
theorem ZgA {n:Int} (h:0<=n/\n<=4294967295):Zy n 0=n:=by
 unfold Zy; omega
theorem Zc9 {n j k:Int} (h:0<=j/\0<=k/\j<4294967296/\k<4294967296):Zy n j=Zy n k↔j=k:=by
 unfold Zy; omega
theorem Zrx {r:List Int} {k:Int} (h:(r.length:Int)<=k):ZbA r none (some k)=r:=by
 rw [Zcw r (by omega)]
 exact YE (by omega)
@[simp] theorem ZwH {a b c d f w m k:Int} {x:List Int}:ZI ⟨a,b,c,d,f,w,m,x⟩ k=decide (bit f k=1):=rfl
@[simp] theorem Zw4 {a b c d f w m:Int} {x:List Int}:ZmH ⟨a,b,c,d,f,w,m,x⟩=x.length+bit f 2+bit f 1:=rfl
noncomputable def ZrY:Option Seg->List Int
 | none=>[]
 | some s=>putL s
@[simp] theorem Zt4:ZrY none=[]:=rfl
@[simp] theorem Zt3 (s:Seg):ZrY (some s)=putL s:=rfl
theorem Zt7 (s:Seg):putL s≠[]:=fun z=>by
 have:=ZlA (s:=s)
 rw [z] at this
 simp at this
 split at this<;>omega
section
variable {θ:Sto} {l:Nat} {e:Zm} {s:Seg} {now n:Int}
theorem ZiB {a b n k f w m:Int} {x:List Int} (ha:0<=a/\a<=65535) (hb:0<=b/\b<=65535) (hn:0<=n/\n<=4294967295) (hk:0<=k/\k<=4294967295) (hf:0<=f/\f<=31) (hw:0<=w/\w<=65535) (hm:m=0\/(4<=m/\m<=65535/\f/2 % 2=1)) (hx:(∀z∈x,0<=z/\z<=255)/\x.length<=16):(Seg.mk a b n k f w m x).Ok:=⟨ha,hb,hn,hk,hf,hw,hm,hx⟩
theorem Zf5:(∀z∈([]:List Int),0<=z/\z<=255)/\([]:List Int).length<=16:=⟨by simp,by simp⟩
theorem Zkv {n:Int} (h:0<=n/\n<=4294967295):0<=Zem n/\Zem n<=4294967295:=by
 unfold Zem
 split<;>omega
end
end
end My
namespace L2.MM
open PySem PySem.Spec PyProof.Rows
section
variable {X:Cx}
noncomputable def Zgb (fo fi fv:EM):SM:=fun ρ θ=>(fv ρ θ).bind fun v θ=>(fo ρ θ).bind fun d θ=>(fi ρ θ).bind fun y θ=>match ZdX y,dkOf θ d with
 | some k,some (l,kvs)=>if kvs.length<BIG then .ok (.nx,ρ) (θ.set l (.dK (putD kvs k v))) else .bad
 | _,_=>.bad
theorem ZlO {o i value:Expr} {fo fi fv:EM} {pos pos':Pos} {k:Nat} (hr:Room k X.A) (ho:ME X o fo) (hi:ME X i fi) (hv:ME X value fv) (hs:swapsWith value (some (.Subscript o i pos')) pos.line X.env=pure false:=by rfl):MS X (.Assign [.Subscript o i pos'] value pos) (Zgb fo fi fv):=
 PS.imp (ZqM (ZkO hr) ho hi hv hs) fun D σ H h=>by
 obtain ⟨B,θ,ρ,F,w⟩:=h
 refine ZK (ZdS F w) ?_
 rintro v H1 ⟨B1,θ1,dv,E1,F1,rv,w1⟩
 refine ZK (ZdS F1 w1) ?_
 rintro x H2 ⟨B2,θ2,d,E2,F2,rd,w2⟩
 refine ZK (ZdS F2 w2) ?_
 rintro y H3 ⟨B3,θ3,dy,E3,F3,ry,w3⟩
 split at w3
 ·rename_i k l kvs ek ed
  split at w3
  ·rename_i hb
   obtain ⟨hl,rfl,vs,h1,h2⟩:=ZdB F3.good (rd.ext E3.toExtS) ed
   cases keyD_rep ry ek
   have hz:vs.length<sizeLine:=by
    have:=zR (n:=kvs.length+1) hb
    rw [RepKV.len h2]; omega
   refine ⟨_,_,rfl,DPut.k h1 hz,?_⟩
   have E4:=ZcY F3.good hl (.dK (ZcG vs k v))
   have G4:=ZcK F3.good hl (o:=.dK (ZcG vs k v)) (c:=.dK (putD kvs k dv)) ⟨_,Z9,(h2.putD ((rv.ext E2.toExtS).ext E3.toExtS)).ext E4.toExtS⟩
   exact w3 _ _ _ E4.toExtS (F3.ext E4 G4)
  ·exact w3.elim
 ·exact w3.elim
end
end L2.MM
namespace My
open PySem L2 L2.MM
noncomputable section
theorem for_rng {fi:IM} {body:SM} {k:Nat} {ρ:List Sl} {θ:Sto} {lo:Int} {n:Nat} (Inv:Nat->List Sl->Sto->Prop) (hn:fi ρ θ=.ok (.rng lo n) θ) (hi:Inv 0 ρ θ)
  (step:∀(i:Nat) ρ θ,i<n->Inv i ρ θ->∃ρ' θ',body (ρ.set k (.val (.int (lo+(i:Int))))) θ=.ok (.nx,ρ') θ'/\Inv (i+1) ρ' θ') (hk:∀i ρ θ,Inv i ρ θ->k < ρ.length) :
  ∃ρ' θ',Zfy fi (gNm k) body ρ θ=.ok (.nx,ρ') θ'/\Inv n ρ' θ':=by
 obtain ⟨all,hall⟩:∃x,x=(List.range n).map fun (i:Nat)=>D.int (lo+(i:Int)):=⟨_,rfl⟩
 have hm:Zfy fi (gNm k) body ρ θ=Zel (.rng lo n) all (gNm k) body all ρ θ:=by
  unfold Zfy
  rw [hn,R.bind_ok]
  simp only [Zfl,<-hall]
 rw [hm]
 have key:∀(m:Nat) ρ θ,m<=n->Inv (n-m) ρ θ->∃ρ' θ',Zel (.rng lo n) all (gNm k) body (all.drop (n-m)) ρ θ=.ok (.nx,ρ') θ'/\Inv n ρ' θ':=by
  intro m
  induction m with
  | zero=>
   intro ρ θ _ hI
   refine ⟨ρ,θ,?_,by simpa using hI⟩
   rw [Nat.sub_zero,YU (by rw [hall]; simp)]
   simp [Zel,hall]
  | succ m ih=>
   intro ρ θ hm hI
   have hlt:n-(m+1)<n:=by omega
   have hla:n-(m+1)<all.length:=by rw [hall]; simpa using hlt
   have e:n-(m+1)+1=n-m:=by omega
   have hx:all[n-(m+1)]=D.int (lo+((n-(m+1):Nat):Int)):=by simp [hall]
   have hg:gNm k (D.int (lo+((n-(m+1):Nat):Int))) ρ=some (ρ.set k (.val (.int (lo+((n-(m+1):Nat):Int))))):=by
    have:=hk _ _ _ hI
    simp [gNm,this]
   have hit:(Src.rng lo n).items θ=some all:=by rw [Zfl,hall]
   rw [Yz hla,hx,e]
   simp only [Zel,hit,if_true,hg]
   obtain ⟨ρ',θ',h,hI'⟩:=step _ ρ θ hlt hI
   rw [h,R.bind_ok,ZbX]
   exact ih ρ' θ' (by omega) (by rw [<-e]; exact hI')
 have:=key n ρ θ (Yb _) (by rw [Y6]; exact hi)
 rw [Y6,Jm] at this
 exact this
noncomputable def kd (K:List Int):List (Key×D):=K.map fun n=>(Sum.inl n,D.bl true)
section
variable {B:Sto} {l:Nat} {e:Zm} {m m':List (Key×D)}
theorem Zm8 (h:l+3<B.length) (X:Sto):upE B l e++X=upE (B++X) l e:=by
 unfold upE
 rw [Y0 _ _ (by omega),Y0 _ _ (by simp; omega),Y0 _ _ (by simp; omega),Y0 _ _ (by simp; omega)]
end
end
end My
namespace L2.MM
open PySem PySem.Spec PyProof.Rows
noncomputable def ZfM (θ:Sto):D->Option (Nat×List D)
 | .ref l=>match θ[l]? with
  | some (.lst xs)=>some (l,xs)
  | _=>none
 | _=>none
section
variable {B:Bx} {H:Hp}
theorem Zge {cl:Mo} {θ:Sto} (G:Good cl B θ H) {d:D} {v:V} {l:Nat} {xs:List D} (r:RepV B H d v) (h:ZfM θ d=some (l,xs)):l<B.n/\v=.ref (B.m l)/\∃vs,H (B.m l)=some (.lst vs)/\RepL B H xs vs:=by
 cases d with
 | ref k=>
  simp only [ZfM] at h
  split at h
  ·rename_i xs' e
   cases h
   obtain ⟨hl,rfl⟩:=r
   obtain ⟨vs,h1,h2⟩:=G.cel _ _ e
   exact ⟨hl,rfl,vs,h1,h2⟩
  ·cases h
 | _=>cases h
end
section
variable {X:Cx}
noncomputable def Zkm (fo fe:EM):EM:=fun ρ θ=>(fo ρ θ).bind fun d θ=>match ZfM θ d with
 | none=>.bad
 | some _=>(fe ρ θ).bind fun y θ=>match ZfM θ d with
  | some (l,xs)=>if xs.length<BIG then .ok .non (θ.set l (.lst (xs++[y]))) else .bad
  | none=>.bad
theorem Zra {o e:Expr} {fo fe:EM} {apos pos:Pos} (hpe:PE X (.Call (.Attribute o "append" apos) [e] [] pos) (tBM X.K "list" Zjf (tM X fo) (Zlv (tM X fe) Zni))):ME X (.Call (.Attribute o "append" apos) [e] [] pos) (Zkm fo fe):=by
 refine PE.imp hpe fun σ H Q h=>?_
 obtain ⟨B,θ,ρ,F,w⟩:=h
 refine ZK (step F w) ?_
 rintro v H1 ⟨B1,θ1,d,E1,F1,rd,w1⟩
 split at w1
 ·exact w1.elim
 ·rename_i q ed
  obtain ⟨l,xs⟩:=q
  obtain ⟨hl,rfl,vs,h1,h2⟩:=Zge F1.good rd ed
  refine ⟨.inl ⟨rfl,vs,SqL.of h1⟩,?_⟩
  refine ZK (step F1 w1) ?_
  rintro y H2 ⟨B2,θ2,dy,E2,F2,ry,w2⟩
  split at w2
  ·rename_i l2 xs2 ed2
   obtain ⟨hl2,e2,vs2,h3,h4⟩:=Zge F2.good (rd.ext E2.toExtS) ed2
   have e3:B1.m l=B2.m l2:=by injection e2
   split at w2
   ·rename_i hb
    refine ⟨B1.m l,vs2,y,rfl,rfl,by rw [e3]; exact h3,by rw [h4.len]; exact Yl hb (zR (Yb _)),?_⟩
    rw [e3]
    have E4:=ZcY F2.good hl2 (.lst (vs2++[y]))
    have G4:=ZcK F2.good hl2 (o:=.lst (vs2++[y])) (c:=.lst (xs2++[dy])) ⟨_,Z9,(h4.app (show RepL B2 H2 [dy] [y] from ⟨y,[],rfl,ry,rfl⟩)).ext E4.toExtS⟩
    exact w2 _ _ _ E4 G4 (show RepV _ _ .non .non from rfl)
   ·exact w2.elim
  ·exact w2.elim
end
end L2.MM
namespace My
open PySem L2 L2.MM
noncomputable section
noncomputable def hfs (cf turn:Int) (r:Option Seg):List (Str×D):=[("coming_first",.int cf),("ends",.ref 1),("latest",.ref 2),("untaken",.ref 3),("owed_reset",Zbs r),("turn",.int turn)]
noncomputable def Zwv (cf turn:Int) (r:Option Seg) (rs:List D) (kv:List (List Key×D)) (un:List (Key×D)) (X:Sto):Sto:=.ins "Host" (hfs cf turn r)::.lst rs::.dT kv::.dK un::X
section
variable {cf turn:Int} {r:Option Seg} {rs:List D} {kv:List (List Key×D)} {un:List (Key×D)} {X:Sto} {es:List Zm}
theorem len1:Zdr [.ref 1] (Zwv cf turn r rs kv un X)=.ok (.int rs.length) (Zwv cf turn r rs kv un X):=rfl
end
@[simp] theorem ZtB {fo fe:EM} {ρ:List Sl} {θ:Sto}:Zkm fo fe ρ θ=(fo ρ θ).bind fun d θ=>match ZfM θ d with
 | none=>.bad
 | some _=>(fe ρ θ).bind fun y θ=>match ZfM θ d with
  | some (l,xs)=>if xs.length<BIG then .ok .non (θ.set l (.lst (xs++[y]))) else .bad
  | none=>.bad:=nr' rfl
end
end My
namespace L2.MM
open PySem PySem.Spec PyProof.Rows
noncomputable def ZzL:Stmt->Scope
 | .Assign _ (.ListComp _ _ sc _) _=>sc
 | _=>{ kind:=.function,names:=[],isGenerator:=false,isCoroutine:=false }
section
variable {X:Cx}
noncomputable def ZAU:OM:=fun x y θ=>match zK θ x,zK θ y with
 | some xs,some ys=>if xs.length+ys.length<=BIG then .ok (.ref θ.length) (θ++[.lst (xs++ys)]) else .bad
 | _,_=>.bad
noncomputable def ZeB (fo fi fv:EM):SM:=fun ρ θ=>(fv ρ θ).bind fun v θ=>(fo ρ θ).bind fun d θ=>(fi ρ θ).bind fun y θ=>match y,ZfM θ d with
 | .int i,some (l,xs)=>match ixN xs.length i with
  | some k=>.ok (.nx,ρ) (θ.set l (.lst (xs.set k v)))
  | none=>.bad
 | _,_=>.bad
theorem RepL.setAt {B:Bx} {H:Hp}:∀{ds:List D} {vs:List V} {d:D} {v:V} (k:Nat),RepL B H ds vs->RepV B H d v->RepL B H (ds.set k d) (vs.set k v)
 | [],vs,d,v,k,r,_=>by cases (show vs=[] from r); exact rfl
 | e::ds,vs,d,v,0,r,rv=>by
  obtain ⟨u,us,rfl,r1,r2⟩:=r
  exact ⟨v,us,rfl,rv,r2⟩
 | e::ds,vs,d,v,k+1,r,rv=>by
  obtain ⟨u,us,rfl,r1,r2⟩:=r
  exact ⟨u,us.set k v,rfl,r1,RepL.setAt k r2 rv⟩
theorem Zf7 {o i value:Expr} {fo fi fv:EM} {pos pos':Pos} (ho:ME X o fo) (hi:ME X i fi) (hv:ME X value fv) (hps:PS X (.Assign [.Subscript o i pos'] value pos) (Zqw (tM X fv) (Zwz (tM X fo) (tM X fi) Zr0))):MS X (.Assign [.Subscript o i pos'] value pos) (ZeB fo fi fv):=
 PS.imp hps fun D σ H h=>by
 obtain ⟨B,θ,ρ,F,w⟩:=h
 refine ZK (ZdS F w) ?_
 rintro v H1 ⟨B1,θ1,dv,E1,F1,rv,w1⟩
 refine ZK (ZdS F1 w1) ?_
 rintro x H2 ⟨B2,θ2,d,E2,F2,rd,w2⟩
 refine ZK (ZdS F2 w2) ?_
 rintro y H3 ⟨B3,θ3,dy,E3,F3,ry,w3⟩
 split at w3
 ·rename_i n l xs ed
  obtain ⟨hl,rfl,vs,h1,h2⟩:=Zge F3.good (rd.ext E3.toExtS) ed
  split at w3
  ·rename_i k ek
   have rv3:=(rv.ext E2.toExtS).ext E3.toExtS
   have E4:=ZcY F3.good hl (.lst (vs.set k v))
   have G4:=ZcK F3.good hl (o:=.lst (vs.set k v)) (c:=.lst (xs.set k dv)) ⟨_,Z9,(h2.setAt k rv3).ext E4.toExtS⟩
   have:=w3 _ _ _ E4.toExtS (F3.ext E4 G4)
   exact ⟨B3.m l,vs,n,k,rfl,ry,h1,by rw [h2.len]; exact ek,this⟩
  ·exact w3.elim
 ·exact w3.elim
end
end L2.MM
namespace My
open PySem L2 L2.MM
noncomputable section
section
variable {A T U W:Int} {N:Nat} {e:Zm} {s:Seg} {t:Int}
theorem Zns (hs:s.Ok):(ZbH s).Ok:=by
 unfold ZbH
 split
 ·exact ZiB hs.goal hs.src hs.ans (by omega) (by omega) (by omega) (.inl rfl) Zf5
 ·exact ZiB hs.goal hs.src (by omega) (Zfm _ _) (by omega) (by omega) (.inl rfl) Zf5
theorem Zek (num:Int):∀(r:List Int) (k:Nat) (e:Zm),∃l,keepAll e num k r={ e with Qv:=l }
 | [],k,e=>⟨e.Qv,rfl⟩
 | b::r,k,e=>by
  unfold keepAll
  split
  ·obtain ⟨l,h⟩:=Zek num r (k+1) { e with Qv:=Zgf e.Qv (Zy num k) b }
   exact ⟨l,h⟩
  ·exact Zek num r (k+1) e
end
theorem Zlm {B:Sto} {i j:Nat} (h:i+3<j) (e e':Zm):upE (upE B i e) j e'=upE (upE B j e') i e:=by
 unfold upE
 apply List.ext_getElem?
 intro k
 simp only [YZ,Yx]
 repeat' split
 all_goals (first | rfl | omega)
end
end My
namespace L2.MM
open PySem
noncomputable def ZvT (scope sc:Scope):Scope:=PySem.relabel scope { scope:=sc,locals:=0,globals:=0,cells:=[] }
end L2.MM
namespace L2
open PySem PySem.Spec PyProof.Rows
section
variable {X:Cx} {x:Str} {px:Pos} {iter elt tst:Expr} {scope:Scope} {pos:Pos} {N':List Str} {src:List Nat} {wi:TI} {te:TE} {tc:TT}
theorem Zjz {prog:Program} {w:World} {A:Around} {R:Result->Shared->Prop} {s:Shared} {elt target iter tst:Expr} {scope:Scope} {pos:Pos} {it acc:Value} {env:Env} (I:Nat->Shared->Prop)
  (turn:∀n s,I n s->wpAny (model prog w) A (pyNext it) (fun r s₁=>match r with
   | none=>R (.ok .next) s₁
   | some v=>wpAny (model prog w) A (letOwnedTupleGo target it v) (fun _ s₂=>wpAny (model prog w) A (assign target env v) (fun _ s₃=>wpAny (model prog w) A (isTrue tst env (eval tst env)) (fun ok s₃₅=>if ok=true then wpAny (model prog w) A (eval elt env) (fun x s₄=>
     wpAny (model prog w) A (call (.builtin "list.append") [acc,x]) (fun _ s₅=>∃m,m<n/\I m s₅) (notedBy (model prog w) A env fun e s'=>R (.error e) s') s₄) (notedBy (model prog w) A env fun e s'=>R (.error e) s') s₃₅ else ∃m,m<n/\I m s₃₅)
     (notedBy (model prog w) A env fun e s'=>R (.error e) s') s₃) (notedBy (model prog w) A env fun e s'=>R (.error e) s') s₂) (notedBy (model prog w) A env fun e s'=>R (.error e) s') s₁) (notedBy (model prog w) A env fun e s'=>R (.error e) s') s)
  (n:Nat) (h:I n s):codeAny (model prog w) A (.compLoop (.ListComp elt [⟨target,iter,[tst],0⟩] scope pos) 0 it acc env) R s:=by
 refine codeAny_loop rfl I (fun n s hI=>?_) n h
 show wpAny _ A ((compTurn (.ListComp elt [⟨target,iter,[tst],0⟩] scope pos) 0 it acc env).onRaise (fun x=>do noteFrame x env; theTreesLotGoes x)) _ _ s
 refine wpAny_noted ?_
 rw [compTurn_list]
 refine wpAny_bind (wpAny_standAt (wpAny_bind (thn (turn n s hI) fun r s₁ h₁=>?_)))
 cases r with
 | none=>exact wpAny_pure h₁
 | some v=>
  refine wpAny_bind (thn h₁ fun _ s₂ h₂=>wpAny_bind (thn h₂ fun _ s₃ h₃=>?_))
  refine wpAny_bind (thn (wpAny_tests_one h₃) fun ok s₄ h₄=>?_)
  cases ok with
  | false=>
   rw [if_neg (by decide)] at h₄
   exact wpAny_pure ⟨rfl,h₄⟩
  | true=>
   rw [if_pos rfl] at h₄
   exact wpAny_bind (wpAny_bind (thn h₄ fun x s₅ h₅=>wpAny_bind (thn h₅ fun _ s₆ h₆=>wpAny_pure (wpAny_pure ⟨rfl,h₆⟩))))
def ZzM (J:It) (src:List Nat) (σ:St) (tc:TT) (te:TE) (H1:Hp) (Q:VK):Prop:=∃(n:Nat) (Pv:Nat->List V->Hp->Prop),n<=sizeLine/\Pv 0 [] H1/\
 (∀i ys H,i<n->Pv i ys H->J.go i H/\∀y H',J.yld i H y H'->tc (inner src σ (some y)) H' fun b H1=>if b=true then te (inner src σ (some y)) H1 fun z H2=>Pv (i+1) (ys++[z]) H2 else Pv (i+1) ys H1)/\
 ∀ys H,Pv n ys H->J.stop n H/\∀p,H p=none->Q (.ref p) (upd H p (.lst ys))
def ZvH (wi:TI) (src:List Nat) (tc:TT) (te:TE):TE:=fun σ H Q=>wi σ H fun J H1=>ZzM J src σ tc te H1 Q
theorem Zrf {pins:List (Addr×Obj)} {σ:St} {H:Hp} {s:Shared} {cl:List (Str×Addr)} {it:Addr} {fp:List Addr} {tn:Nat->Heap->Prop} {J:It} {n:Nat} {Pv:Nat->List V->Hp->Prop} {RR:Value->Addr->Result->Shared->Prop} {E:Value->Shared->Prop}
  (I:Inv X pins σ H s) (hcm:X.calm=true) (S:Zam scope X.env.scope x X.N N' src) (hcl:∀n c,(n,c)∈cl->X.env.cells.lookup n=some c) (hcl2:∀y∈scope.names,y.2=.free->∃c,(y.1,c)∈cl)
  (T:Zlh X.prog X.w X.K (.Name x px) J fp it tn) (t0:tn 0 s.heap) (hfp:∀b∈fp,ZgX X pins H b)
  (helt:∀(cl:List (Str×Addr)) (C:Addr) (s₀:Shared) (H₀:Hp) (fp:List Addr),PE (X.comp scope N' cl C s₀ H₀ fp) elt te)
  (htst:∀(cl:List (Str×Addr)) (C:Addr) (s₀:Shared) (H₀:Hp) (fp:List Addr),PT (X.comp scope N' cl C s₀ H₀ fp) tst tc)
  (hn:n<=sizeLine) (p0:Pv 0 [] H) (turn:∀i ys H,i<n->Pv i ys H->J.go i H/\∀y H',J.yld i H y H'->tc (inner src σ (some y)) H' fun b H1=>if b=true then te (inner src σ (some y)) H1 fun z H2=>Pv (i+1) (ys++[z]) H2 else Pv (i+1) ys H1) (stop:∀ys H,Pv n ys H->J.stop n H)
  (hR:∀(D C:Addr) (o:Obj) (ys:List V) (H':Hp) (s':Shared),Pv n ys H'->H' D=none->Inv X (pins++[(C,o)]) σ (upd H' D (.lst ys)) s'->(∃m,s'.heap.Ns C m)->ZgX X pins (upd H' D (.lst ys)) C->RR (.ref D) C (.ok .next) s') :
  wpAny (model X.prog X.w) X.A (newList []) (fun acc s₃=>wpAny (model X.prog X.w) X.A (newFunctionEnv scope X.env.globals cl [] X.env.qual none .none (some X.env)) (fun cenv s₄=>
   codeAny (model X.prog X.w) X.A (.compStart (.ListComp elt [⟨.Name x px,iter,[tst],0⟩] scope pos) 0 (.ref it) acc { cenv with scope:=relabel scope X.env }) (RR acc cenv.locals) s₄) E s₃) E s:=by
 refine wpAny_newObj_type (wpAny_newFunctionEnv S.cell (by intro y hy; simp at hy) (fun h₁ hns₁ hsb₁=>?_) S.kind)
 dsimp only at hns₁ hsb₁ ⊢
 generalize hH2:s.heap.push { cls:=.type "list",dict:=none,data:=.seq ([]:List Value).toArray }=H2 at hns₁ hsb₁ ⊢
 have hC:H2.objs.size=s.heap.objs.size+1:=by rw [<-hH2,Heap.size_push]
 have hDC:s.heap.objs.size≠H2.objs.size:=by rw [hC]; exact Yn (YC _)
 have hCle:s.heap.objs.size<=H2.objs.size:=by rw [hC]; exact Y7 _
 have below:∀b,b<s.heap.objs.size->b≠H2.objs.size/\b≠s.heap.objs.size:=fun b hb=>⟨by rw [hC]; exact Yn (Y5 hb),Yn hb⟩
 have old:∀b o,s.heap.get? b=some o->h₁.get? b=some o:=fun b o e=>hsb₁.extBut b o (below b (Heap.lt_size e)).1 (Heap.get?_push_of_some _ (hH2 ▸ Heap.get?_push_of_some _ e))
 have hacc:h₁.PlainList s.heap.objs.size #[]:=⟨_,hsb₁.extBut _ _ hDC (Heap.get?_push_of_some _ (hH2 ▸ Heap.get?_push_size _ rfl))⟩
 have hfl:∀b∈fp,b<s.heap.objs.size:=fun b hb=>by
  obtain ⟨o,e,_⟩:=T.obj 0 _ t0 b hb
  exact Heap.lt_size e
 have fresh:∀a,s.heap.objs.size<=a->s.heap.get? a=none:=fun a ha=>by
  cases e:s.heap.get? a with
  | none=>rfl
  | some o'=>exact absurd (Heap.lt_size e) (YI.mpr ha)
 generalize eD:s.heap.objs.size=D at hDC hacc hCle below fresh hfl hC ⊢
 generalize eC:H2.objs.size=C at hDC hCle below hC hns₁ hsb₁ ⊢
 have I1:Inv (X.comp scope N' cl C s H fp) [] (inner src σ none) H { s with heap:=h₁,toks:=s.toks+([]:List (Str×Value)).length }:=
  ZhY I S hcl hcl2 (by rw [eD]; exact hCle) hfp (by rw [eD]; exact hfl) ⟨_,hns₁⟩ old rfl rfl
 have stat:∀{H':Hp} {pl:List (Addr×Obj)},(∀p∈pl,p.1=D)->(∀b∈fp,H' b=none)->∀b∈fp,ZgX (X.comp scope N' cl C s H fp) pl H' b:=fun {H' pl} hp hn b hb=>
  ⟨hn b hb,(below b (hfl b hb)).1,fun z=>by
   rcases Yq.mp (I.stkSub b z) with q | q
   ·exact (hfp b hb).2.1 q
   ·exact (hfp b hb).2.2.1 q,.inl hb,fun y c e=>(hfp b hb).2.2.2.2.1 y c (hcl y c (PySem.mem_of_lookup e)),fun p hq=>by
   rw [hp p (by rcases Yw.mp hq with z | z; exact absurd (show p∈([]:List (Addr×Obj)) from z) (by simp); exact z)]
   exact Ne.symm (below b (hfl b hb)).2⟩
 have nD:D∉frs X.stack:=fun z=>by
  rcases Yq.mp (I.stkSub D z) with q | q
  ·have:=I.lt; rw [<-q,eD] at this; exact YB _ this
  ·exact I.nofs (a:=D) (by rw [eD]; exact Yb _) q
 have nC:C∉X.fs:=I.nofs (by rw [eD]; exact hCle)
 have cellD:∀y c,cl.lookup y=some c->c<D:=fun y c e=>by
  obtain ⟨v,q⟩:=I.cell y c (hcl y c (PySem.mem_of_lookup e))
  have:=q.lt
  rw [eD] at this
  exact this
 have loop:∀s₃:Shared,s₃={ s with heap:=h₁,toks:=s.toks+([]:List (Str×Value)).length }->
   codeAny (model X.prog X.w) X.A (.compLoop (.ListComp elt [⟨.Name x px,iter,[tst],0⟩] scope pos) 0 (.ref it) (.ref D) (compEnvC scope cl C X.env)) (RR (.ref D) C) s₃:=by
  rintro s₃ rfl
  refine Zjz (fun k s'=>∃(i:Nat) (ys:List V) (its:List Value) (H':Hp) (xo:Option V),Inv (X.comp scope N' cl C s H fp) [] (inner src σ xo) H' s'/\tn i s'.heap/\(∀b∈fp,H' b=none)/\s'.heap.PlainList D its.toArray/\Vals ys its/\H' D=none/\
   Pv i ys H'/\ys.length<=i/\i<=n/\k=n+1-i) ?_ (n+1) ⟨0,[],[],H,none,I1,T.keep _ _ _ t0 (fun b _ o e=>old b o e),fun b hb=>(hfp b hb).1,hacc,.nil,I.hok.fresh (by rw [eD]; exact Yb _),p0,Yb _,YG _,rfl⟩
  rintro k s' ⟨i,ys,its,H',xo,I3,t3,f3,l3,v3,d3,p3,e3,le3,rfl⟩
  by_cases hlt:i<n
  ·obtain ⟨go,step⟩:=turn i ys H' hlt p3
   obtain ⟨nn,oD⟩:=id l3
   have I3p:Inv (X.comp scope N' cl C s H fp) [(D,{ cls:=.type "list",data:=.seq its.toArray nn })] (inner src σ xo) H' s':=
    I3.pins_of fun p hp=>by
     have ep:p=(D,{ cls:=.type "list",data:=.seq its.toArray nn }):=by simpa using hp
     subst ep
     exact ⟨oD,d3,hDC,nD,fun v z=>by cases z⟩
   refine thn (T.item (X.comp scope N' cl C s H fp) rfl rfl rfl hcm i _ s' _ H' _ I3p (stat (by simp) f3) t3 go) fun r s4 ⟨u,hr,h4⟩=>?_
   subst hr
   refine thn h4 fun _ s5 ⟨y,H5,I5,r5,y5,st5,fr5⟩=>?_
   have I5':=I5.pinned (stat (by simp) fr5) (T.obj _ _ st5)
   have hg:PG (X.comp scope N' cl C s H fp) (.Name x px) (ZiN 0):=
    Zfn S.nd (by show N'[0]?=some x; rw [S.names]; rfl) (.inl (lookup_relabel_local S.own)) (.inr (lookup_relabel_local S.own))
   refine wpAny_mono (hg _ s5 _ H5 y u (fun σ2 H2=>σ2=inner src σ (some y)/\H2=H5) I5' r5 ⟨rfl,rfl⟩) (fun _ s6 ⟨σ6,H6,I6,e6,e6'⟩=>?_) fun _ _ z=>False.elim z
   subst e6 e6'
   refine wpAny_mono (htst cl C s H fp _ s6 _ _ _ I6 (step y _ y5)) (fun b s65 ⟨H65,I65,q65⟩=>?_) fun _ _ z=>False.elim z
   have hys:its.toArray.size<=sizeLine:=by
    have:=v3.length
    rw [Yd]
    omega
   cases b with
   | true=>
    rw [if_pos rfl] at q65 ⊢
    refine wpAny_mono (helt cl C s H fp _ s65 _ _ _ I65 q65) (fun v s7 ⟨z,H7,I7,r7,q7⟩=>?_) fun _ _ z=>False.elim z
    have o7:=I7.pin (D,{ cls:=.type "list",data:=.seq its.toArray nn }) (by simp)
    refine wpAny_list_append_plain (hsz:=hys) (items:=its.toArray) (s:=s7) ⟨nn,o7.1⟩ fun h8 hl8 hs8=>?_
    refine ⟨n+1-(i+1),by omega,i+1,ys++[z],its++[v],H7,some y,?_,?_,?_,?_,v3.append (.cons r7 .nil),o7.2.1,q7,by rw [Yj]; exact Nat.succ_le_succ e3,hlt,rfl⟩
    ·have I7':Inv (X.comp scope N' cl C s H fp) [] (inner src σ (some y)) H7 s7:=I7.pins_of fun p hp=>absurd hp (by simp)
     exact I7'.turned (t':=s7.toks) (it:=D) (fun b o hb e=>(hs8.2 b hb).trans e) o7.2.1 hDC (.inr (by show s.heap.objs.size<=D; rw [eD]; exact Yb _)) (fun y c e=>Yn (cellD y c e)) fun p hp=>absurd (show p∈([]:List (Addr×Obj)) from hp) (by simp)
    ·refine T.keep _ _ _ st5 fun b hb o e=>(hs8.2 b (below b (hfl b hb)).2).trans ?_
     exact (I7.pin (b,o) (Yh _ (Yh _ (Zbn hb e)))).1
    ·intro b hb
     obtain ⟨o,e,_⟩:=T.obj _ _ st5 b hb
     exact (I7.pin (b,o) (Yh _ (Yh _ (Zbn hb e)))).2.1
    ·have:(its++[v]).toArray=its.toArray.push v:=by simp
     rw [this]; exact hl8
   | false=>
    rw [if_neg (by decide)] at q65 ⊢
    have o7:=I65.pin (D,{ cls:=.type "list",data:=.seq its.toArray nn }) (by simp)
    refine ⟨n+1-(i+1),by omega,i+1,ys,its,H65,some y,I65.pins_of fun p hp=>absurd hp (by simp),?_,?_,⟨nn,o7.1⟩,v3,o7.2.1,q65,Nat.le_succ_of_le e3,hlt,rfl⟩
    ·refine T.keep _ _ _ st5 fun b hb o e=>?_
     exact (I65.pin (b,o) (Yh _ (Yh _ (Zbn hb e)))).1
    ·intro b hb
     obtain ⟨o,e,_⟩:=T.obj _ _ st5 b hb
     exact (I65.pin (b,o) (Yh _ (Yh _ (Zbn hb e)))).2.1
  ·have ein:i=n:=by omega
   subst ein
   obtain ⟨nn,oD⟩:=id l3
   have I3p:Inv (X.comp scope N' cl C s H fp) [(D,{ cls:=.type "list",data:=.seq its.toArray nn })] (inner src σ xo) H' s':=
    I3.pins_of fun p hp=>by
     have ep:p=(D,{ cls:=.type "list",data:=.seq its.toArray nn }):=by simpa using hp
     subst ep
     exact ⟨oD,d3,hDC,nD,fun v z=>by cases z⟩
   refine thn (T.done (X.comp scope N' cl C s H fp) rfl rfl rfl hcm i _ s' _ H' _ I3p (stat (by simp) f3) t3 (stop ys H' p3)) fun r s4 ⟨hr,I4⟩=>?_
   subst hr
   have o4:=I4.pin (D,{ cls:=.type "list",data:=.seq its.toArray nn }) (by simp)
   have newI:Inv X pins σ (upd H' D (.lst ys)) s4:=I.call' (ch:=fp) I4.os (I4.base.lay d3 (fresh D (Yb _))) (I4.hok.lay d3 ⟨by omega,its,nn,v3,o4.1⟩) I4.bare (fun b hb=>
    ⟨(hfp b hb).2.2.2.1,(hfp b hb).2.1,(hfp b hb).2.2.2.2.1,(hfp b hb).2.2.2.2.2⟩)
   obtain ⟨m,hm,_⟩:=I4.loc
   obtain ⟨o,es,ep,ho,hd,_⟩:=id hm
   refine hR D C o ys H' s4 p3 d3 (newI.pins_of fun p hp=>?_) ⟨m,hm⟩ (I.fpOk (by rw [eD]; exact hCle) (by rw [ZM (Ne.symm hDC)]; exact I4.free))
   rcases Yw.mp hp with z | z
   ·exact newI.pin p (Yh _ z)
   ·have ep:p=(C,o):=by simpa using z
    subst ep
    refine ⟨ho,by rw [ZM (Ne.symm hDC)]; exact I4.free,fun z=>?_,nC,fun v z=>?_⟩
    ·have:=I.lt
     rw [eD,<-z] at this
     exact absurd (Yl this hCle) (YB _)
    ·have z':o.data=.cell v:=z
     rw [hd] at z'; cases z'
 exact codeAny_compStart_list (loop _ rfl) (T.self _ 0 _ _ _ (T.keep _ _ _ t0 (fun b _ o e=>old b o e)) (loop _ rfl))
theorem Zul {sc:Scope} {N:List Str} (S:Zam scope sc x N N' src) (hsc:X.env.scope=sc) (hN:X.N=N) (hi:PI X (.Name x px) iter wi)
  (helt:∀(cl:List (Str×Addr)) (C:Addr) (s₀:Shared) (H₀:Hp) (fp:List Addr),PE (X.comp scope N' cl C s₀ H₀ fp) elt te) (htst:∀(cl:List (Str×Addr)) (C:Addr) (s₀:Shared) (H₀:Hp) (fp:List Addr),PT (X.comp scope N' cl C s₀ H₀ fp) tst tc) (hcm:X.calm=true:=by rfl) (hs:∀v,foldedSetIterable iter X.env v=pure v:=by intro _; rfl) :
  PE X (.ListComp elt [⟨.Name x px,iter,[tst],0⟩] scope pos) (ZvH wi src tc te):=by
 subst hsc hN
 intro pins s σ H Q I h
 obtain ⟨cl,hclos,hcl,hcl2⟩:=Zep (scope:=scope) (env:=X.env) fun y hy hf=>I.ok.has y.1 (.inl (S.free y hy hf))
 rw [eval_ListComp]
 refine wpAny_comprehension_free (use:=none) rfl hs hclos S.kind S.loc ?_
 refine thn (hi pins s σ H _ I h) fun v s1 h1=>thn h1 fun itv s2 h2=>?_
 obtain ⟨it,fp,tn,J,H2,e,I2,T,st2,f2,n,Pv,hn,p0,turn,done⟩:=h2
 subst e
 refine Zrf I2 hcm S hcl hcl2 T st2 f2 helt htst hn p0 turn (fun ys H p=>(done ys H p).1) fun D C o ys H' s' p d J' hm ho=>?_
 obtain ⟨m,hm⟩:=hm
 refine ⟨m,hm,fun h' hs'=>?_⟩
 have J2:Inv X pins σ (upd H' D (.lst ys)) s':=J'.pins_of fun q hq=>J'.pin q (Yh _ (YQ _ hq))
 obtain ⟨f0,f1,f2,f3,f4,f5⟩:=ho
 exact ⟨.ref D,_,J2.turned (t':=s'.toks) (it:=C) (fun b o hb e=>(hs'.2 b hb).trans e) f0 f1 f3 f4 f5,rfl,(done ys H' p).2 D d⟩
end
end L2
namespace L2.MM
open PySem PySem.Spec PyProof.Rows PySem.W PySem.SeqAt
noncomputable section
end
end L2.MM
namespace L2.MM
open PySem PySem.Spec PyProof.Rows PySem.W PySem.SeqAt
noncomputable section
variable {X:Cx}
noncomputable def ZZ (fo fi:EM):EM:=fun ρ θ=>(fo ρ θ).bind fun d θ=>(fi ρ θ).bind fun y θ=>match ZdX y,dkOf θ d with
 | some k,some (_,kvs)=>match valD kvs k with
  | some v=>.ok v θ
  | none=>.bad
 | _,_=>.bad
theorem zg {i o:Expr} {fi fo:EM} {pos:Pos} {k:Nat} (hr:Room k X.A) (ho:ME X o fo) (hi:ME X i fi) (hs:ZuV i:=by intro _ _; rfl):ME X (.Subscript o i pos) (ZZ fo fi):=by
 refine PE.imp (ZqV (ZkO hr) ho hi hs) fun σ H Q h=>?_
 obtain ⟨B,θ,ρ,F,w⟩:=h
 refine ZK (step F w) ?_
 rintro v H1 ⟨B1,θ1,d,E1,F1,rd,w1⟩
 refine ZK (step F1 w1) ?_
 rintro y H2 ⟨B2,θ2,dy,E2,F2,ry,w2⟩
 split at w2
 ·rename_i k l kvs ek ed
  obtain ⟨hl,rfl,vs,h1,h2⟩:=ZdB F2.good (rd.ext E2.toExtS) ed
  cases keyD_rep ry ek
  split at w2
  ·rename_i dv ev
   rcases h2.valD k with ⟨q1,q2⟩ | ⟨d',v',q1,q2,r⟩
   ·rw [q1] at ev; cases ev
   ·rw [q1] at ev; cases ev
    refine ⟨_,v',rfl,?_,ZU (Rel:=RepV) F2.good r w2⟩
    rw [<-q2]
    exact DGet.k h1
  ·exact w2.elim
 ·exact w2.elim
end
end L2.MM
namespace My
open PySem L2 L2.MM
noncomputable section
def stF (st:State) (n m u x r:Nat):Prop:=match st with
 | .Qu=>u=0/\x=0/\r=0/\n=0
 | .Qg=>u=0/\x<=1/\r=0
 | .Qf=>u=0/\x<=1/\r=1
 | .opn=>1<=u/\x<=n+1/\1<=r/\r<=m+1
 | .Qh=>1<=u/\u<=n+1/\x<=n+2/\1<=r/\r<=m+1
 | .Qi=>u=n+2/\x=n+2/\1<=r/\r<=m+1
 | .Qk=>1<=u/\x<=n+1/\r=m+2
 | .Qm=>1<=u/\u<=n+1/\x<=n+2/\r=m+2
 | .Ql=>1<=u/\u<=n+1/\x<=n+2/\r=m+2
 | .Qj=>u=n+2/\x=n+2/\r=m+2
 | .closed=>u=n+2/\x=n+2/\r=m+2
def hcF (st:State) (hc:Bool):Prop:=match st with
 | .Qu | .Qg | .opn | .Qk=>hc=false
 | .Qf=>True
 | _=>hc=true
def tmF (now:Int) (e:Zm):Prop:=0<=e.Qq/\e.Qq<=now/\1000<=e.wait/\(e.Qp=0\/(e.Qp=1/\2000<=e.wait/\1000<=e.Qq)\/(e.Qp=2/\4000<=e.wait/\3000<=e.Qq)\/(e.Qp=3/\8000<=e.wait/\7000<=e.Qq)\/(e.Qp=4/\16000<=e.wait/\15000<=e.Qq))
def ZkN (d:List Int):Prop:=∀z∈d,0<=z/\z<=255
structure EI (a b f g:Int) (T R G:List Int) (now:Int) (u x r y:Nat) (e:Zm):Prop where
 ours:e.ours=a/\0<=a/\a<=65535
 Qt:e.Qt=b/\0<=b/\b<=65535
 first:e.first=f/\0<=f/\f<=4294967295
 una:e.una=Zy f u
 nxt:e.nxt=Zy f x
 beh:e.Qs=Zy f (1+T.length)
 ux:u<=x
 rcv:1<=r->e.rcv=Zy g r
 rcvB:0<=e.rcv/\e.rcv<=4294967295
 wr:e.Qr=T.drop (u-1)
 wl:e.Qr.length<=64
 byt:ZkN T
 come:G++e.come=R.take (r-1)
 cl:e.come.length<=64
 ear:∀p∈e.Qv,∃i:Nat,p.1=Zy g (1+i)/\R[i]?=some p.2/\r<=1+i/\1+i+e.come.length<r+64/\1+i<y
 nod:e.Qv.Pairwise (fun p q=>p.1≠q.1)
 fin:∀n,e.Qd=some n->n=Zy g (1+R.length)/\y=R.length+2
 ry:r<=y
 most:4<=e.most
 err:e.error=.none
 tm:tmF now e
 oa:e.Qa=true->1<=r
 hc:hcF e.Qw e.Qc
 st:stF e.Qw T.length R.length u x r
def Sg (a b f g:Int) (T:List Int) (x r:Nat) (s:Seg):Prop:=s.src=a/\s.goal=b/\s.Ok/\
 ((s.flags=2/\s.num=f/\s.data=[]/\1<=x)\/
   (s.flags=18/\s.num=f/\s.ans=Zy g 1/\s.data=[]/\1<=x/\1<=r)\/
   ∃m k:Nat,s.num=Zy f m/\s.ans=Zy g k/\1<=m/\1<=k/\k<=r/\s.most=0/\
    (((s.flags=16\/s.flags=24)/\s.data=(T.drop (m-1)).take s.data.length/\m+s.data.length<=x)\/
   (s.flags=17/\s.data=[]/\m=T.length+1/\x=T.length+2)))
theorem ZdI {α:Type} (l:List α) (k:Nat):l.take (l.take k).length=l.take k:=by
 rw [Yy,List.take_eq_take_iff]
 omega
section
variable {a b f g:Int} {T R G:List Int} {now:Int} {u x r y:Nat} {e:Zm}
theorem EI.lim (h:EI a b f g T R G now u x r y e):u<=T.length+2/\x<=T.length+2/\r<=R.length+2:=by
 have h1:=h.st
 have h2:=h.ux
 unfold stF at h1
 split at h1<;>omega
theorem EI.off (h:EI a b f g T R G now u x r y e) (hN:T.length<=5000):Z3 e.nxt e.una=(x:Int)-u:=by
 have:=h.lim
 rw [h.nxt,h.una,Zbd (by omega)]
theorem EI.uns (h:EI a b f g T R G now u x r y e) (hN:T.length<=5000):Zb9 e=1+(T.length:Int)-x:=by
 have:=h.lim
 unfold Zb9
 rw [h.beh,h.nxt,Zbd (by omega)]
theorem EI.xu (h:EI a b f g T R G now u x r y e) (hN:T.length<=5000):e.nxt=e.una↔x=u:=by
 have:=h.lim
 rw [h.nxt,h.una,Zc9 (by omega)]
 omega
theorem EI.x0 (h:EI a b f g T R G now u x r y e) (hN:T.length<=5000):e.nxt=e.first↔x=0:=by
 have:=h.lim
 have z:=ZgA h.first.2
 rw [h.nxt,h.first.1]
 constructor
 ·intro q
  have q':Zy f x=Zy f 0:=by rw [z]; exact q
  rw [Zc9 (by omega)] at q'
  omega
 ·rintro rfl
  exact z
theorem EI.with (h:EI a b f g T R G now u x r y e) {x':Nat} {oa os pr:Bool} {w t:Int} {si:Int} (hx:x<=x') (hoa:oa=true->1<=r) (ht:tmF now { e with Qq:=si,wait:=w,Qp:=t }) (hs:stF e.Qw T.length R.length u x' r):EI a b f g T R G now u x' r y { e with nxt:=Zy f x',Qa:=oa,Qe:=os,Qo:=pr,Qq:=si,wait:=w,Qp:=t }:=
 ⟨h.ours,h.Qt,h.first,h.una,rfl,h.beh,Yu h.ux hx,h.rcv,h.rcvB,h.wr,h.wl,h.byt,h.come,h.cl,h.ear,h.nod,h.fin,h.ry,h.most,h.err,ht,hoa,h.hc,hs⟩
theorem EI.win (h:EI a b f g T R G now u x r y e):0<=ZH e/\ZH e<=65535:=by
 have:=h.cl
 unfold ZH
 omega
theorem Zry {d:List Int} (h:ZkN T) (hd:∀z∈d,z∈T):∀z∈d,0<=z/\z<=255:=fun z hz=>h z (hd z hz)
theorem Znp (h:EI a b f g T R G now u x r y e) (hs:e.Qw=.Qg\/e.Qw=.Qf) {x':Nat} (hx:1<=x'):Sg a b f g T x' r (Zcz e)/\((Zcz e).flags=17->(Zcz e).ans=Zy g r):=by
 refine ⟨?_,fun z=>by unfold Zcz at z; split at z<;>simp at z⟩
 have st:=h.st
 unfold Zcz
 rcases hs with q | q
 ·rw [if_pos q]
  exact ⟨h.ours.1,h.Qt.1,ZiB (by rw [h.ours.1]; exact h.ours.2) (by rw [h.Qt.1]; exact h.Qt.2) (by rw [h.first.1]; exact h.first.2) (by omega) (by omega) (by omega) (.inr ⟨by omega,by omega,by decide⟩) Zf5,.inl ⟨rfl,h.first.1,rfl,hx⟩⟩
 ·rw [if_neg (by rw [q]; simp)]
  rw [q] at st
  have r1:r=1:=st.2.2
  have rc:=h.rcv (by omega)
  rw [r1] at rc
  exact ⟨h.ours.1,h.Qt.1,ZiB (by rw [h.ours.1]; exact h.ours.2) (by rw [h.Qt.1]; exact h.Qt.2) (by rw [h.first.1]; exact h.first.2) h.rcvB (by omega) (by omega) (.inr ⟨by omega,by omega,by decide⟩) Zf5,.inr (.inl ⟨rfl,h.first.1,rc,rfl,hx,by omega⟩)⟩
theorem ZkV (h:EI a b f g T R G now u x r y e) {e1:Zm} (he:e1.ours=e.ours/\e1.Qt=e.Qt/\e1.rcv=e.rcv/\e1.come=e.come) {m x':Nat} {fl:Int} {d:List Int} (hm:1<=m) (hr:1<=r) (hf:fl=0\/fl=8) (hd:d=(T.drop (m-1)).take d.length) (hl:d.length<=16) (hx:m+d.length<=x'):Sg a b f g T x' r (Zcl e1 (Zy f m) fl d)/\((Zcl e1 (Zy f m) fl d).flags=17->(Zcl e1 (Zy f m) fl d).ans=Zy g r):=by
 refine ⟨?_,fun z=>he.2.2.1.trans (h.rcv hr)⟩
 have w:=h.win
 refine ⟨he.1.trans h.ours.1,he.2.1.trans h.Qt.1,ZiB (by rw [he.1,h.ours.1]; exact h.ours.2) (by rw [he.2.1,h.Qt.1]; exact h.Qt.2) (Zfm _ _) (by rw [he.2.2.1]; exact h.rcvB) (by omega) (by unfold ZH at w ⊢; rw [he.2.2.2]; exact w) (.inl rfl) ⟨Zry h.byt fun z hz=>?_,hl⟩,.inr (.inr ⟨m,r,rfl,he.2.2.1.trans (h.rcv hr),hm,hr,Yb _,rfl,.inl ⟨?_,hd,hx⟩⟩)⟩
 ·rw [hd] at hz
  exact List.mem_of_mem_drop (List.mem_of_mem_take hz)
 ·show fl+16=16\/fl+16=24
  omega
theorem Znq (h:EI a b f g T R G now u x r y e) {e1:Zm} (he:e1.ours=e.ours/\e1.Qt=e.Qt/\e1.rcv=e.rcv/\e1.come=e.come) {m x':Nat} (hm:m=T.length+1) (hr:1<=r) (hx:x'=T.length+2):Sg a b f g T x' r (Zcl e1 (Zy f m) 1 [])/\((Zcl e1 (Zy f m) 1 []).flags=17->(Zcl e1 (Zy f m) 1 []).ans=Zy g r):=by
 refine ⟨?_,fun z=>he.2.2.1.trans (h.rcv hr)⟩
 have w:=h.win
 exact ⟨he.1.trans h.ours.1,he.2.1.trans h.Qt.1,ZiB (by rw [he.1,h.ours.1]; exact h.ours.2) (by rw [he.2.1,h.Qt.1]; exact h.Qt.2) (Zfm _ _) (by rw [he.2.2.1]; exact h.rcvB) (by omega) (by unfold ZH at w ⊢; rw [he.2.2.2]; exact w) (.inl rfl) Zf5,.inr (.inr ⟨m,r,rfl,he.2.2.1.trans (h.rcv hr),by omega,hr,Yb _,rfl,.inr ⟨rfl,rfl,hm,hx⟩⟩)⟩
def Gone (a b f g:Int) (T R G:List Int) (now:Int) (u x r y:Nat) (e:Zm) (z:Option Seg×Zm):Prop:=∃x',x<=x'/\EI a b f g T R G now u x' r y z.2/\z.2.Qw=e.Qw/\z.2.Qc=e.Qc/\z.2.Qb=none/\z.2.Qd=e.Qd/\∀s,z.1=some s->Sg a b f g T x' r s/\(s.flags=17->s.ans=Zy g r)
theorem EI.same (h:EI a b f g T R G now u x r y e) (ho:e.Qb=none):Gone a b f g T R G now u x r y e (none,e):=⟨x,Yb _,h,rfl,rfl,ho,rfl,fun s z=>(by cases z)⟩
theorem EI.tim (h:EI a b f g T R G now u x r y e) {oa os pr:Bool} {w t si:Int} (hoa:oa=true->1<=r) (ht:tmF now { e with Qq:=si,wait:=w,Qp:=t }):EI a b f g T R G now u x r y { e with Qa:=oa,Qe:=os,Qo:=pr,Qq:=si,wait:=w,Qp:=t }:=
 ⟨h.ours,h.Qt,h.first,h.una,h.nxt,h.beh,h.ux,h.rcv,h.rcvB,h.wr,h.wl,h.byt,h.come,h.cl,h.ear,h.nod,h.fin,h.ry,h.most,h.err,ht,hoa,h.hc,h.st⟩
theorem EI.strm (h:EI a b f g T R G now u x r y e) (h1:¬e.Qw=.Qu) (h2:¬e.Qw=.Qg) (h3:¬e.Qw=.Qf):1<=u/\1<=r:=by
 have st:=h.st
 cases q:e.Qw<;>rw [q] at st<;>simp only [stF] at st<;>first | exact absurd q h1 | exact absurd q h2 | exact absurd q h3 | omega
theorem ZjN (ht:tmF now e) (hn:now<=30000) (hd:e.wait<=now-e.Qq):¬e.Qp=6/\tmF now { e with Qq:=now,wait:=mn (2*e.wait) 16000,Qp:=e.Qp+1 }:=by
 obtain ⟨t1,t2,t3,t4⟩:=ht
 refine ⟨by omega,by show 0<=now; omega,YL _,?_,?_⟩
 ·show 1000<=mn (2*e.wait) 16000
  unfold mn
  split<;>omega
 ·show e.Qp+1=0\/_
  have:mn (2*e.wait) 16000=16000\/mn (2*e.wait) 16000=2*e.wait/\2*e.wait<=16000:=by
   unfold mn
   split
   ·exact .inl rfl
   ·exact .inr ⟨rfl,by omega⟩
  rcases t4 with q | q | q | q | q
  ·right; left
   refine ⟨by show e.Qp+1=1; omega,by show 2000<=mn (2*e.wait) 16000; omega,by show 1000<=now; omega⟩
  ·right; right; left
   refine ⟨by show e.Qp+1=2; omega,by show 4000<=mn (2*e.wait) 16000; omega,by show 3000<=now; omega⟩
  ·right; right; right; left
   refine ⟨by show e.Qp+1=3; omega,by show 8000<=mn (2*e.wait) 16000; omega,by show 7000<=now; omega⟩
  ·right; right; right; right
   refine ⟨by show e.Qp+1=4; omega,by show 16000<=mn (2*e.wait) 16000; omega,by show 15000<=now; omega⟩
  ·omega
theorem Zjm (h:EI a b f g T R G now u x r y e):4<=ZL e/\ZL e<=16:=by
 have:=h.most
 unfold ZL
 split<;>omega
theorem ZoN (h:EI a b f g T R G now u x r y e) (hN:T.length<=5000) (hn:now<=30000) (ho:e.Qb=none) (hd:zv e now=true) (hx:¬x=u):Gone a b f g T R G now u x r y e (again e now):=by
 have hd':e.wait<=now-e.Qq:=of_decide_eq_true hd
 obtain ⟨t6,tm⟩:=ZjN h.tm hn hd'
 have ux:=h.ux
 have lim:=h.lim
 have nl:¬e.Qw=.Qu:=fun q=>by have:=h.st; rw [q] at this; simp only [stF] at this; omega
 unfold again
 rw [if_neg t6]
 by_cases c:e.Qw=.Qg\/e.Qw=.Qf
 ·simp only [if_pos c]
  have h1:=h.tim (oa:=e.Qa) (os:=e.Qe) (pr:=e.Qo) h.oa tm
  refine ⟨x,Yb _,h.tim (oa:=e.Qa) (os:=false) (pr:=e.Qo) h.oa tm,rfl,rfl,ho,rfl,fun s z=>?_⟩
  cases z
  exact Znp h1 c (by omega)
 ·simp only [if_neg c]
  obtain ⟨u1,r1⟩:=h.strm nl (fun q=>c (.inl q)) (fun q=>c (.inr q))
  have h1:=h.tim (oa:=e.Qa) (os:=e.Qe) (pr:=e.Qo) h.oa tm
  refine ⟨x,Yb _,h1,rfl,rfl,ho,rfl,fun s z=>?_⟩
  cases z
  have mo:=Zjm h
  have mm:1<=mn ((x:Int)-u) (ZL e)/\mn ((x:Int)-u) (ZL e)<=16/\mn ((x:Int)-u) (ZL e)<=(x:Int)-u:=by
   unfold mn
   split<;>omega
  have ad:Zaz e=(T.drop (u-1)).take (mn ((x:Int)-u) (ZL e)).toNat:=by
   unfold Zaz
   rw [h.off hN,h.wr,Zcw _ (by omega)]
  have al:(Zaz e).length<=(mn ((x:Int)-u) (ZL e)).toNat:=by
   rw [ad,Yy]
   omega
  rw [h.una]
  by_cases q:0<(Zaz e).length
  ·rw [if_pos q]
   refine ZkV h ⟨rfl,rfl,rfl,rfl⟩ u1 r1 (.inl rfl) ?_ (by omega) (by omega)
   rw [ad,ZdI]
  ·rw [if_neg q]
   have z:Zaz e=[]:=YS.mp (by omega)
   have l0:(T.drop (u-1)).length=0:=by
    have:=congrArg List.length ad
    rw [z,Yy,Yk] at this
    omega
   rw [Yv] at l0
   rw [z]
   exact Znq h ⟨rfl,rfl,rfl,rfl⟩ (by omega) r1 (by omega)
theorem ZeT (h:EI a b f g T R G now u x r y e) (hN:T.length<=5000) (ho:e.Qb=none) {room:Int} (hr:0<room) (hm:zE e=true):Gone a b f g T R G now u x r y e (some (Zas e room).1,(Zas e room).2):=by
 have un:=h.uns hN
 have lim:=h.lim
 have ux:=h.ux
 have st:=h.st
 have mo:=Zjm h
 unfold Zas
 by_cases c:Zat e=true
 ·rw [if_pos c]
  unfold Zat at c
  rw [Yt,decide_eq_true_eq,decide_eq_true_eq] at c
  obtain ⟨c1,c2⟩:=c
  obtain ⟨u1,r1⟩:=h.strm (fun q=>by rw [q] at c1; simp at c1) (fun q=>by rw [q] at c1; simp at c1) (fun q=>by rw [q] at c1; simp at c1)
  have nm:∃k:Nat,ZcB { e with Qo:=false } room=(k:Int)/\1<=k/\k<=16/\x+k<=T.length+1:=by
   have e1:Zb9 { e with Qo:=false }=1+(T.length:Int)-x:=un
   have e2:ZL { e with Qo:=false }=ZL e:=rfl
   refine ⟨(ZcB { e with Qo:=false } room).toNat,?_⟩
   unfold ZcB mn3
   rw [e1,e2]
   split<;>split<;>omega
  obtain ⟨k,hk,k1,k2,k3⟩:=nm
  unfold Zef
  rw [hk]
  simp only
  have pn:Zy e.nxt k=Zy f ((x+k:Nat):Int):=by rw [h.nxt,Zbt]; congr 1; try omega
  have hs:stF e.Qw T.length R.length u (x+k) r:=by
   cases q:e.Qw<;>rw [q] at st c1<;>simp only [stF] at st ⊢<;>first | omega | simp at c1
  refine ⟨x+k,by omega,?_,rfl,rfl,ho,rfl,fun s z=>?_⟩
  ·show EI a b f g T R G now u (x+k) r y { e with Qo:=false,nxt:=Zy e.nxt k }
   rw [pn]
   exact h.with (oa:=e.Qa) (os:=e.Qe) (pr:=false) (by omega) h.oa h.tm hs
  ·cases z
   have cu:ZbA e.Qr (some (Z3 e.nxt e.una)) (some (Z3 e.nxt e.una+k))=(T.drop (x-1)).take k:=by
    rw [h.off hN,h.wr,Zrw _ (by omega) (by omega),List.drop_drop]
    congr 2<;>omega
   simp only [cu]
   rw [h.nxt]
   have l:((T.drop (x-1)).take k).length<=k:=by rw [Yy]; omega
   refine ZkV h ⟨rfl,rfl,rfl,rfl⟩ (by omega) r1 ?_ (by rw [ZdI]) (by omega) (by omega)
   split
   ·exact .inr rfl
   ·exact .inl rfl
 ·rw [if_neg c]
  unfold zE at hm
  rw [YO] at hm
  have c':=hm.resolve_left c
  unfold hasNewFin at c'
  rw [Yt,decide_eq_true_eq,decide_eq_true_eq] at c'
  obtain ⟨c1,c2⟩:=c'
  obtain ⟨u1,r1⟩:=h.strm (fun q=>by rw [q] at c1; simp at c1) (fun q=>by rw [q] at c1; simp at c1) (fun q=>by rw [q] at c1; simp at c1)
  have xn:x=T.length+1:=by omega
  have pn:Zy e.nxt 1=Zy f ((x+1:Nat):Int):=by rw [h.nxt,Zbt]; congr 1
  have hs:stF e.Qw T.length R.length u (x+1) r:=by
   cases q:e.Qw<;>rw [q] at st c1<;>simp only [stF] at st ⊢<;>first | omega | simp at c1
  refine ⟨x+1,by omega,?_,rfl,rfl,ho,rfl,fun s z=>?_⟩
  ·show EI a b f g T R G now u (x+1) r y { e with Qo:=false,nxt:=Zy e.nxt 1 }
   rw [pn]
   exact h.with (oa:=e.Qa) (os:=e.Qe) (pr:=false) (by omega) h.oa h.tm hs
  ·cases z
   unfold ZgF
   simp only [h.nxt]
   exact Znq h ⟨rfl,rfl,rfl,rfl⟩ xn r1 (by omega)
theorem Gone.of {e1:Zm} {z:Option Seg×Zm} (h:Gone a b f g T R G now u x r y e1 z) (h1:e1.Qw=e.Qw/\e1.Qc=e.Qc/\e1.Qd=e.Qd):Gone a b f g T R G now u x r y e z:=by
 obtain ⟨x',k1,k2,k3,k4,k5,k6,k7⟩:=h
 exact ⟨x',k1,k2,k3.trans h1.1,k4.trans h1.2.1,k5,k6.trans h1.2.2,k7⟩
theorem ZuB (h:EI a b f g T R G now u x r y e) (hN:T.length<=5000) (hn:0<=now) (ho:e.Qb=none) (nl:¬e.Qw=.Qu):Gone a b f g T R G now u x r y e (zh e now):=by
 have ux:=h.ux
 have st:=h.st
 unfold zh
 by_cases c:e.Qw=.Qg\/e.Qw=.Qf
 ·rw [if_pos c]
  by_cases c2:e.nxt=e.first\/e.Qe=true
  ·rw [if_pos c2]
   have x1:x<=1:=by
    rcases c with q | q<;>rw [q] at st<;>simp only [stF] at st<;>omega
   have hs:stF e.Qw T.length R.length u 1 r:=by
    rcases c with q | q<;>rw [q] at st ⊢<;>simp only [stF] at st ⊢<;>omega
   have pf:Zy e.first 1=Zy f ((1:Nat):Int):=by rw [h.first.1]; rfl
   have key:∀si w t,tmF now { e with Qq:=si,wait:=w,Qp:=t }->Gone a b f g T R G now u x r y e (some (Zcz { e with Qq:=si,wait:=w,Qp:=t,nxt:=Zy e.first 1 }),{ e with Qq:=si,wait:=w,Qp:=t,nxt:=Zy e.first 1,Qe:=false }):=by
    intro si w t ht
    rw [pf]
    have h1:=h.with (x':=1) (oa:=e.Qa) (os:=e.Qe) (pr:=e.Qo) x1 h.oa ht hs
    refine ⟨1,x1,h.with (x':=1) (oa:=e.Qa) (os:=false) (pr:=e.Qo) x1 h.oa ht hs,rfl,rfl,ho,rfl,fun s z=>?_⟩
    cases z
    exact Znp h1 c (Yb _)
   unfold ZdK
   by_cases c3:e.nxt=e.una
   ·simp only [if_pos c3]
    exact key now 1000 0 ⟨hn,YL _,by show (1000:Int)<=1000; omega,.inl rfl⟩
   ·simp only [if_neg c3]
    exact key e.Qq e.wait e.Qp h.tm
  ·rw [if_neg c2]
   exact h.same ho
 ·rw [if_neg c]
  by_cases c2:e.wnd-Z3 e.nxt e.una<=0\/zE e=false
  ·rw [if_pos c2]
   exact h.same ho
  ·rw [if_neg c2]
   have c2':0<e.wnd-Z3 e.nxt e.una/\zE e=true:=by
    constructor
    ·have:=fun q=>c2 (.inl q); omega
    ·cases q:zE e with
     | true=>rfl
     | false=>exact absurd (.inr q) c2
   by_cases c3:e.nxt=e.una
   ·simp only [if_pos c3]
    have h1:=h.tim (oa:=false) (os:=e.Qe) (pr:=e.Qo) (si:=now) (w:=1000) (t:=0) (by simp) ⟨hn,YL _,by show (1000:Int)<=1000; omega,.inl rfl⟩
    exact (ZeT h1 hN ho c2'.1 c2'.2).of ⟨rfl,rfl,rfl⟩
   ·simp only [if_neg c3]
    have h1:=h.tim (oa:=false) (os:=e.Qe) (pr:=e.Qo) (si:=e.Qq) (w:=e.wait) (t:=e.Qp) (by simp) h.tm
    exact (ZeT h1 hN ho c2'.1 c2'.2).of ⟨rfl,rfl,rfl⟩
theorem ZnC (h:EI a b f g T R G now u x r y e) (hN:T.length<=5000) (hn:0<=now) (ho:e.Qb=none):Gone a b f g T R G now u x r y e (Z0 e now):=by
 unfold Z0
 by_cases c:¬e.nxt=e.una\/¬e.wnd=0\/zE e=false
 ·rw [if_pos c]
  exact ⟨x,Yb _,h.tim (oa:=e.Qa) (os:=e.Qe) (pr:=false) (si:=e.Qq) (w:=e.wait) (t:=e.Qp) h.oa h.tm,rfl,rfl,ho,rfl,fun s z=>(by cases z)⟩
 ·rw [if_neg c]
  have hm:zE e=true:=by
   cases q:zE e with
   | true=>rfl
   | false=>exact absurd (.inr (.inr q)) c
  have key:∀(pr:Bool) si w t,tmF now { e with Qq:=si,wait:=w,Qp:=t }->Gone a b f g T R G now u x r y e (if zv { e with Qo:=pr,Qq:=si,wait:=w,Qp:=t } now=true then (some (Zas { e with Qo:=pr,Qq:=now,wait:=w,Qp:=t } 1).1,(Zas { e with Qo:=pr,Qq:=now,wait:=w,Qp:=t } 1).2) else (none,{ e with Qo:=pr,Qq:=si,wait:=w,Qp:=t })):=by
   intro pr si w t ht
   split
   ·have h1:=h.tim (oa:=e.Qa) (os:=e.Qe) (pr:=pr) (si:=now) (w:=w) (t:=t) h.oa (by
     obtain ⟨t1,t2,t3,t4⟩:=ht
     have t1':0<=si:=t1
     have t2':si<=now:=t2
     refine ⟨hn,YL _,t3,t4.imp id (fun q=>?_)⟩
     rcases q with q | q | q | q
     ·exact .inl ⟨q.1,q.2.1,by have:1000<=si:=q.2.2; show 1000<=now; omega⟩
     ·exact .inr (.inl ⟨q.1,q.2.1,by have:3000<=si:=q.2.2; show 3000<=now; omega⟩)
     ·exact .inr (.inr (.inl ⟨q.1,q.2.1,by have:7000<=si:=q.2.2; show 7000<=now; omega⟩))
     ·exact .inr (.inr (.inr ⟨q.1,q.2.1,by have:15000<=si:=q.2.2; show 15000<=now; omega⟩)))
    exact (ZeT h1 hN ho (by decide) hm).of ⟨rfl,rfl,rfl⟩
   ·exact ⟨x,Yb _,h.tim (oa:=e.Qa) (os:=e.Qe) (pr:=pr) (si:=si) (w:=w) (t:=t) h.oa ht,rfl,rfl,ho,rfl,fun s z=>(by cases z)⟩
  by_cases c2:e.Qo=true
  ·simp only [if_pos c2]
   exact key e.Qo e.Qq e.wait e.Qp h.tm
  ·simp only [if_neg c2]
   exact key true now 1000 0 ⟨hn,YL _,by show (1000:Int)<=1000; omega,.inl rfl⟩
theorem ZmX (h:EI a b f g T R G now u x r y e) (hN:T.length<=5000) (ho:e.Qb=none) (hx:1<=x):Gone a b f g T R G now u x r y e (Zal e):=by
 unfold Zal
 by_cases c:e.Qa=true
 ·rw [if_pos c]
  refine ⟨x,Yb _,h.tim (oa:=false) (os:=e.Qe) (pr:=e.Qo) (si:=e.Qq) (w:=e.wait) (t:=e.Qp) (by simp) h.tm,rfl,rfl,ho,rfl,fun s z=>?_⟩
  cases z
  rw [h.nxt]
  exact ZkV h ⟨rfl,rfl,rfl,rfl⟩ hx (h.oa c) (.inl rfl) (by simp) (by simp) (by simp)
 ·rw [if_neg c]
  exact h.same ho
theorem Gone.le {x1:Nat} {z:Option Seg×Zm} (h:Gone a b f g T R G now u x1 r y e z) (h1:x<=x1):Gone a b f g T R G now u x r y e z:=by
 obtain ⟨x',k1,k2⟩:=h
 exact ⟨x',Yu h1 k1,k2⟩
theorem Zke (h:(zh e now).1=none):zh e now=(none,e)/\¬((e.Qw=.Qg\/e.Qw=.Qf)/\e.nxt=e.first):=by
 unfold zh at h ⊢
 by_cases c:e.Qw=.Qg\/e.Qw=.Qf
 ·rw [if_pos c] at h ⊢
  by_cases c2:e.nxt=e.first\/e.Qe=true
  ·rw [if_pos c2] at h
   cases h
  ·rw [if_neg c2]
   exact ⟨rfl,fun q=>c2 (.inl q.2)⟩
 ·rw [if_neg c] at h ⊢
  by_cases c2:e.wnd-Z3 e.nxt e.una<=0\/zE e=false
  ·rw [if_pos c2]
   exact ⟨rfl,fun q=>c q.1⟩
  ·rw [if_neg c2] at h
   cases h
theorem Zwf (h:EI a b f g T R G now u x r y e) (hN:T.length<=5000) (hn:0<=now) (ho:e.Qb=none) (nl:¬e.Qw=.Qu):Gone a b f g T R G now u x r y e (ZcC e now):=by
 have n1:=ZuB h hN hn ho nl
 have ux:=h.ux
 unfold ZcC
 cases q:zh e now with
 | mk o e1=>
  rw [q] at n1
  cases o with
  | some s=>exact n1
  | none=>
   obtain ⟨q1,q2⟩:=Zke (e:=e) (now:=now) (by rw [q])
   rw [q] at q1
   cases q1
   have x1:1<=x:=by
    by_cases c:e.Qw=.Qg\/e.Qw=.Qf
    ·have:¬e.nxt=e.first:=fun z=>q2 ⟨c,z⟩
     rw [h.x0 hN] at this
     omega
    ·have:=h.strm nl (fun z=>c (.inl z)) (fun z=>c (.inr z))
     omega
   have p1:=ZnC h hN hn ho
   simp only
   cases q3:Z0 e now with
   | mk o2 e2=>
    rw [q3] at p1
    cases o2 with
    | some s=>exact p1
    | none=>
     obtain ⟨x',k1,k2,k3,k4,k5,k6,k7⟩:=p1
     exact ((ZmX k2 hN k5 (by omega)).of ⟨k3,k4,k6⟩).le k1
theorem Zom (h:EI a b f g T R G now u x r y e) (hN:T.length<=5000) (hn:0<=now/\now<=30000) (ho:e.Qb=none):Gone a b f g T R G now u x r y e (z8 e now):=by
 obtain ⟨t1,t2,_⟩:=h.tm
 unfold z8
 rw [ho]
 simp only
 rw [if_neg (show ¬(e.Qw=.Qj/\120000<=now-e.Qq) by omega)]
 by_cases c:e.Qw=.closed\/e.Qw=.Qu
 ·rw [if_pos c]
  exact h.same ho
 ·rw [if_neg c]
  by_cases c2:¬e.nxt=e.una/\zv e now=true
  ·rw [if_pos c2]
   exact ZoN h hN hn.2 ho c2.2 (fun q=>c2.1 ((h.xu hN).mpr q))
  ·rw [if_neg c2]
   exact Zwf h hN hn.1 ho (fun q=>c (.inr q))
end
def Zfj (g:Int) (R:List Int) (r W y:Nat) (m:EL):Prop:=(∀p∈m,∃i:Nat,p.1=Zy g (1+i)/\R[i]?=some p.2/\r<=1+i/\1+i<W/\1+i<y)/\m.Pairwise (fun p q=>p.1≠q.1)
section
variable {g:Int} {R:List Int} {r W y:Nat} {m:EL} {e:Zm}
theorem ZrE {n b:Int} (h:atE m n=some b):(n,b)∈m:=by
 unfold atE at h
 cases q:m.find? (fun p=>decide (p.1=n)) with
 | none=>rw [q] at h; cases h
 | some p=>
  rw [q] at h
  cases h
  have h1:=List.mem_of_find?_eq_some q
  have h2:=List.find?_some q
  have h3:p.1=n:=of_decide_eq_true h2
  rw [<-h3]
  exact h1
theorem ZuQ {n:Int} (h:atE m n=none):∀p∈m,p.1≠n:=by
 intro p hp z
 unfold atE at h
 rw [Option.map_eq_none_iff,List.find?_eq_none] at h
 exact h p hp (decide_eq_true z)
theorem Zow (h:Zfj g R r W y m) {i:Nat} {b:Int} (h1:R[i]?=some b) (h2:r<=1+i) (h3:1+i<W/\1+i<y):Zfj g R r W y (Zgf m (Zy g (1+i)) b):=by
 unfold Zgf
 cases q:atE m (Zy g (1+i)) with
 | some z=>exact h
 | none=>
  refine ⟨fun p hp=>?_,?_⟩
  ·rcases Yw.mp hp with hp | hp
   ·exact h.1 p hp
   ·rw [Jg] at hp
    subst hp
    exact ⟨i,rfl,h1,h2,h3⟩
  ·rw [List.pairwise_append]
   refine ⟨h.2,List.pairwise_singleton _ _,fun p hp z hz=>?_⟩
   rw [Jg] at hz
   subst hz
   exact ZuQ q p hp
theorem Zjy {mm:Nat} (hr:e.rcv=Zy g r) (hw:ZH e=(W:Int)-r) (hB:mm<=6000/\r<=6000):∀(d:List Int) (k:Nat) (l:EL),k+d.length<=100->(∀j b,d[j]?=some b->1<=mm+k+j/\R[mm+k+j-1]?=some b/\mm+k+j<y)->Zfj g R r W y l->Zfj g R r W y (keepAll { e with Qv:=l } (Zy g mm) k d).Qv
 | [],k,l,_,_,h=>h
 | b::d,k,l,hl,hd,h=>by
  rw [Yc] at hl
  obtain ⟨h1,h2,h5⟩:=hd 0 b rfl
  rw [Nat.add_zero] at h1 h2 h5
  have pp:Zy (Zy g mm) k=Zy g ((mm+k:Nat):Int):=by rw [Zbt]; congr 1
  have hd':∀j b,d[j]?=some b->1<=mm+(k+1)+j/\R[mm+(k+1)+j-1]?=some b/\mm+(k+1)+j<y:=by
   intro j b' hj
   have:=hd (j+1) b' hj
   rw [show mm+k+(j+1)=mm+(k+1)+j by omega] at this
   exact this
  unfold keepAll
  by_cases c:inWin { e with Qv:=l } (Zy (Zy g mm) k)=true
  ·rw [if_pos c]
   have c':=c
   unfold inWin at c'
   rw [Yt,decide_eq_true_eq,decide_eq_true_eq] at c'
   have o:Z3 (Zy (Zy g mm) k) e.rcv=((mm+k:Nat):Int)-r:=by
    rw [hr,pp,Zbd (by omega)]
   have c1:0<=Z3 (Zy (Zy g mm) k) e.rcv:=c'.1
   have c2:Z3 (Zy (Zy g mm) k) e.rcv<ZH e:=c'.2
   rw [o] at c1 c2
   rw [hw] at c2
   refine Zjy hr hw hB d (k+1) _ (by omega) hd' ?_
   rw [pp,show ((mm+k:Nat):Int)=1+((mm+k-1:Nat):Int) by omega]
   exact Zow h h2 (by omega) ⟨by omega,by omega⟩
  ·rw [if_neg c]
   exact Zjy hr hw hB d (k+1) l (by omega) hd' h
theorem Zkz (hR:R.length<=5000):∀(n:Nat) (e:Zm) (r:Nat),1<=r->r<=R.length+1->e.rcv=Zy g r->Zfj g R r W y e.Qv->∃(j:Nat) (l:EL),(drawn n e).1=(R.drop (r-1)).take j/\(drawn n e).2={ e with Qv:=l,rcv:=Zy g ((r+j:Nat):Int) }/\Zfj g R (r+j) W y l/\r+j<=R.length+1/\(j=0\/r+j<=W/\r+j<=y)
 | 0,e,r,_,h1,hr,h=>⟨0,e.Qv,by simp [drawn],by simp only [drawn,Nat.add_zero]; rw [<-hr],h,h1,.inl rfl⟩
 | n+1,e,r,h0,h1,hr,h=>by
  have no:∃(j:Nat) (l:EL),([]:List Int)=(R.drop (r-1)).take j/\e={ e with Qv:=l,rcv:=Zy g ((r+j:Nat):Int) }/\Zfj g R (r+j) W y l/\r+j<=R.length+1/\(j=0\/r+j<=W/\r+j<=y):=⟨0,e.Qv,by simp,by simp only [Nat.add_zero]; rw [<-hr],h,h1,.inl rfl⟩
  unfold drawn
  by_cases c:e.Qd=some e.rcv
  ·rw [if_pos c]
   exact no
  ·rw [if_neg c]
   cases q:atE e.Qv e.rcv with
   | none=>exact no
   | some b=>
    simp only
    obtain ⟨i,i1,i2,i3,i4,i5⟩:=h.1 _ (ZrE q)
    simp only at i1 i2
    have il:i<R.length:=(Ye.mp i2).1
    have ir:r=1+i:=by
     rw [hr] at i1
     have:=(Zc9 (n:=g) (j:=(r:Int)) (k:=1+(i:Int)) (by omega)).mp i1
     omega
    have pr:Zy e.rcv 1=Zy g ((r+1:Nat):Int):=by rw [hr,Zbt]; congr 1
    have h':Zfj g R (r+1) W y (ZeZ e.Qv e.rcv):=by
     refine ⟨fun p hp=>?_,h.2.filter _⟩
     unfold ZeZ at hp
     rw [YN,decide_eq_true_eq] at hp
     obtain ⟨i',j1,j2,j3,j4,j5⟩:=h.1 p hp.1
     refine ⟨i',j1,j2,?_,j4,j5⟩
     have:¬1+i'=r:=by
      intro z
      refine hp.2 ?_
      rw [j1,hr]
      congr 1
      omega
     omega
    obtain ⟨j,l,k1,k2,k3,k4,k5⟩:=Zkz hR n { e with Qv:=ZeZ e.Qv e.rcv,rcv:=Zy e.rcv 1 } (r+1) (by omega) (by omega) pr h'
    refine ⟨j+1,l,?_,?_,?_,by omega,.inr (by omega)⟩
    ·rw [k1,Yz (show r-1<R.length by omega),List.take_succ_cons]
     have:R[r-1]=b:=by
      have z:=(Ye.mp i2).2
      rw [<-z]
      congr 1
      omega
     rw [this,show r-1+1=r+1-1 by omega]
    ·rw [k2,show r+1+j=r+(j+1) by omega]
    ·rw [show r+(j+1)=r+1+j by omega]
     exact k3
end
section
variable {a b f g:Int} {T R G:List Int} {now:Int} {u x r y:Nat} {e:Zm} {s:Seg}
theorem ZjT (h:EI a b f g T R G now u x r y e) (hR:R.length<=5000) (hst:e.Qw=.opn\/e.Qw=.Qh\/e.Qw=.Qi) {m:Nat} (hm:1<=m) (hm2:m<=6000) (hn:s.num=Zy g m) (hl:s.data.length<=16)
  (hd:((s.flags=16\/s.flags=24)/\s.data=(R.drop (m-1)).take s.data.length/\m+s.data.length<=y)\/(s.flags=17/\s.data=[]/\m=R.length+1/\y=R.length+2)) :
  ∃r',r<=r'/\r'<=R.length+1/\EI a b f g T R G now u x r' y (ZaB e s)/\(ZaB e s).Qw=e.Qw/\(ZaB e s).Qb=e.Qb/\(ZaB e s).rcv=Zy g r'/\((ZaB e s).Qd≠none->e.Qd≠none\/s.flags=17):=by
 have st:=h.st
 have r1:1<=r/\r<=R.length+1:=by
  rcases hst with q | q | q<;>rw [q] at st<;>simp only [stF] at st<;>omega
 have cl:=h.cl
 have hr:=h.rcv r1.1
 obtain ⟨W,hW⟩:∃W:Nat,W=r+(64-e.come.length):=⟨_,rfl⟩
 have hw:ZH e=(W:Int)-r:=by unfold ZH; omega
 have ea:Zfj g R r W y e.Qv:=⟨fun p hp=>by
  obtain ⟨i,i1,i2,i3,i4,i5⟩:=h.ear p hp
  exact ⟨i,i1,i2,i3,by omega,i5⟩,h.nod⟩
 have kd:∃l o,keepData e s={ e with Qv:=l,Qa:=o }/\Zfj g R r W y l:=by
  have ka:∃l,keepAll e s.num 0 s.data={ e with Qv:=l }/\Zfj g R r W y l:=by
   obtain ⟨l,hl'⟩:=Zek s.num s.data 0 e
   refine ⟨l,hl',?_⟩
   have:=Zjy (e:=e) (mm:=m) hr hw (by omega) s.data 0 e.Qv (by omega) (by
    intro j b' hj
    have jl:j<s.data.length:=(Ye.mp hj).1
    rcases hd with ⟨_,q,q2⟩ | ⟨_,q,_⟩
    ·rw [q,List.getElem?_take] at hj
     rw [if_pos jl,Jf] at hj
     refine ⟨by omega,?_,by omega⟩
     rw [show m+0+j-1=m-1+j by omega]
     exact hj
    ·rw [q] at hj
     cases hj) ea
   rw [<-hn] at this
   have e0:({ e with Qv:=e.Qv }:Zm)=e:=rfl
   rw [e0,hl'] at this
   exact this
  obtain ⟨l,h1,h2⟩:=ka
  unfold keepData
  split
  ·exact ⟨l,true,by rw [h1],h2⟩
  ·exact ⟨l,e.Qa,by rw [h1],h2⟩
 obtain ⟨l,o,k1,k2⟩:=kd
 have kf:∃o' fi,keepFin (keepData e s) s={ e with Qv:=l,Qa:=o',Qd:=fi }/\(∀n,fi=some n->n=Zy g (1+R.length)/\y=R.length+2)/\(fi≠none->e.Qd≠none\/s.flags=17):=by
  rw [k1]
  unfold keepFin
  by_cases c:ZI s 1=false
  ·rw [if_pos c]
   exact ⟨o,e.Qd,rfl,h.fin,fun z=>.inl z⟩
  ·rw [if_neg c]
   have f17:s.flags=17/\s.data=[]/\m=R.length+1/\y=R.length+2:=by
    rcases hd with ⟨q,_⟩ | q
    ·exfalso
     apply c
     unfold ZI
     rcases q with q | q<;>rw [q]<;>decide
    ·exact q
   by_cases c2:({ e with Qv:=l,Qa:=o }:Zm).Qd=none/\inWin { e with Qv:=l,Qa:=o } (Zy s.num s.data.length)=true
   ·rw [if_pos c2]
    refine ⟨true,some (Zy s.num s.data.length),rfl,fun n z=>?_,fun _=>.inr f17.1⟩
    cases z
    refine ⟨?_,f17.2.2.2⟩
    rw [hn,f17.2.1,Zbt,f17.2.2.1]
    congr 1
    simp
    omega
   ·rw [if_neg c2]
    exact ⟨true,e.Qd,rfl,h.fin,fun z=>.inl z⟩
 obtain ⟨o',fi,k3,k4,k5⟩:=kf
 obtain ⟨j,l2,d1,d2,d3,d4,d5⟩:=Zkz (g:=g) (W:=W) hR 200 { e with Qv:=l,Qa:=o',Qd:=fi } r r1.1 r1.2 hr k2
 have jl:((R.drop (r-1)).take j).length=j:=by
  rw [Yy,Yv]
  omega
 have sE:ZaB e s={ e with Qv:=l2,Qa:=o',Qd:=fi,rcv:=Zy g ((r+j:Nat):Int),come:=e.come++(R.drop (r-1)).take j }:=by
  unfold ZaB Zgk
  rw [k3,d1,d2]
  unfold Zhs
  have:ZbA ((R.drop (r-1)).take j) none (some (ZH { e with Qv:=l2,Qa:=o',Qd:=fi,rcv:=Zy g ((r+j:Nat):Int) }))=(R.drop (r-1)).take j:=by
   refine Zrx ?_
   rw [jl]
   show (j:Int)<=64-(e.come.length:Int)
   omega
  rw [this]
 rw [sE]
 have ry:=h.ry
 have hy:r+j<=y:=by
  rcases d5 with c | c<;>omega
 refine ⟨r+j,by omega,d4,⟨h.ours,h.Qt,h.first,h.una,h.nxt,h.beh,h.ux,fun _=>rfl,Zfm _ _,h.wr,h.wl,h.byt,?_,?_,?_,d3.2,k4,hy,h.most,h.err,h.tm,fun _=>by omega,h.hc,?_⟩,rfl,rfl,rfl,k5⟩
 ·show G++(e.come++(R.drop (r-1)).take j)=R.take (r+j-1)
  rw [<-YF,h.come,show r+j-1=(r-1)+j by omega,List.take_add]
 ·show (e.come++(R.drop (r-1)).take j).length<=64
  rw [Yj,jl]
  omega
 ·intro p hp
  obtain ⟨i,i1,i2,i3,i4,i5⟩:=d3.1 p hp
  refine ⟨i,i1,i2,i3,?_,i5⟩
  show 1+i+(e.come++(R.drop (r-1)).take j).length<r+j+64
  rw [Yj,jl]
  omega
 ·show stF e.Qw T.length R.length u x (r+j)
  rcases hst with q | q | q<;>rw [q] at st ⊢<;>simp only [stF] at st ⊢<;>omega
end
section
variable {a b f g:Int} {T R G:List Int} {now:Int} {u x r y:Nat} {e:Zm} {s:Seg}
theorem br2 (h:s.flags=2):ZI s 2=true/\ZI s 16=false/\ZI s 4=false/\ZI s 1=false:=by unfold ZI; rw [h]; decide
theorem Zrz (h:s.flags=18):ZI s 2=true/\ZI s 16=true/\ZI s 4=false/\ZI s 1=false:=by unfold ZI; rw [h]; decide
theorem brD (h:s.flags=16\/s.flags=24\/s.flags=17):ZI s 2=false/\ZI s 16=true/\ZI s 4=false:=by
 unfold ZI
 rcases h with h | h | h<;>rw [h]<;>decide
theorem Zfk {si w:Int} (h1:0<=si/\si<=now) (h2:1000<=w):tmF now { e with Qq:=si,wait:=w,Qp:=0 }:=⟨h1.1,h1.2,h2,.inl rfl⟩
theorem Zja (h:tmF now e):tmF now { e with Qq:=now }:=by
 obtain ⟨t1,t2,t3,t4⟩:=h
 refine ⟨by show 0<=now; omega,YL _,t3,t4.imp id (fun q=>?_)⟩
 rcases q with q | q | q | q
 ·exact .inl ⟨q.1,q.2.1,by show 1000<=now; omega⟩
 ·exact .inr (.inl ⟨q.1,q.2.1,by show 3000<=now; omega⟩)
 ·exact .inr (.inr (.inl ⟨q.1,q.2.1,by show 7000<=now; omega⟩))
 ·exact .inr (.inr (.inr ⟨q.1,q.2.1,by show 15000<=now; omega⟩))
theorem Zrk (h:EI a b f g T R G now u x r y e) (hN:T.length<=5000) (hn:0<=now) {k:Nat} (u1:1<=u) (ha:s.ans=Zy f k) (hk:k<=x):∃(u':Nat) (w to tb si wa tr:Int),ZY e s now={ e with una:=Zy f u',Qr:=T.drop (u'-1),wnd:=w,told:=to,Qn:=tb,Qq:=si,wait:=wa,Qp:=tr }/\u<=u'/\k<=u'/\(u'=u\/u'=k)/\tmF now { e with Qq:=si,wait:=wa,Qp:=tr }:=by
 have lim:=h.lim
 obtain ⟨t1,t2,t3,t4⟩:=h.tm
 have o:Z3 s.ans e.una=(k:Int)-u:=by rw [ha,h.una,Zbd (by omega)]
 have o':Z3 e.una s.ans=(u:Int)-k:=by rw [ha,h.una,Zbd (by omega)]
 have same:e={ e with una:=Zy f u,Qr:=T.drop (u-1),wnd:=e.wnd,told:=e.told,Qn:=e.Qn,Qq:=e.Qq,wait:=e.wait,Qp:=e.Qp }:=by
  rw [<-h.una,<-h.wr]
 by_cases c:u<k
 ·have p:Za7 s.ans e.una=true:=by unfold Za7; rw [o]; exact decide_eq_true (by omega)
  have wd:e.Qr.drop (Z3 s.ans e.una).toNat=T.drop (k-1):=by
   rw [o,h.wr,List.drop_drop]
   congr 1
   omega
  have key:∀si wa tr:Int,(0<=si/\si<=now)->1000<=wa->tmF now { e with Qq:=si,wait:=wa,Qp:=tr }->Zby e s now={ e with Qr:=T.drop (k-1),una:=s.ans,Qq:=si,wait:=wa,Qp:=tr }->∃(u':Nat) (w to tb si wa tr:Int),ZY e s now={ e with una:=Zy f u',Qr:=T.drop (u'-1),wnd:=w,told:=to,Qn:=tb,Qq:=si,wait:=wa,Qp:=tr }/\u<=u'/\k<=u'/\(u'=u\/u'=k)/\tmF now { e with Qq:=si,wait:=wa,Qp:=tr }:=by
   intro si wa tr h1 h2 ht he
   unfold ZY
   rw [he]
   simp only
   rw [if_neg (by rw [Zmx]; simp),p,Bool.true_or,if_pos rfl]
   split
   ·exact ⟨k,s.win,s.num,s.ans,si,wa,0,by rw [<-ha]; rfl,by omega,Yb _,.inr rfl,Zfk h1 h2⟩
   ·exact ⟨k,s.win,s.num,s.ans,si,wa,tr,by rw [<-ha]; rfl,by omega,Yb _,.inr rfl,ht⟩
  by_cases c2:s.ans=e.nxt
  ·exact key e.Qq e.wait e.Qp ⟨t1,t2⟩ t3 h.tm (by unfold Zby; rw [if_pos p,if_pos c2,wd])
  ·exact key now 1000 0 ⟨hn,YL _⟩ (by omega) (Zfk ⟨hn,YL _⟩ (by omega)) (by unfold Zby; rw [if_pos p,if_neg c2,wd]; rfl)
 ·have p:Za7 s.ans e.una=false:=by unfold Za7; rw [o]; exact decide_eq_false (by omega)
  have he:Zby e s now=e:=by unfold Zby; rw [p,if_neg (by simp)]
  unfold ZY
  rw [he,p]
  simp only
  by_cases c2:Za7 e.una s.ans=true
  ·rw [if_pos c2]
   exact ⟨u,e.wnd,e.told,e.Qn,e.Qq,e.wait,e.Qp,same,Yb _,by omega,.inl rfl,h.tm⟩
  ·rw [if_neg c2,Bool.false_or]
   by_cases c3:isNewer e s=true
   ·rw [if_pos c3]
    split
    ·exact ⟨u,s.win,s.num,s.ans,e.Qq,e.wait,0,by rw [<-h.una,<-h.wr]; rfl,Yb _,by omega,.inl rfl,Zfk ⟨t1,t2⟩ t3⟩
    ·exact ⟨u,s.win,s.num,s.ans,e.Qq,e.wait,e.Qp,by rw [<-h.una,<-h.wr]; rfl,Yb _,by omega,.inl rfl,h.tm⟩
   ·rw [if_neg c3]
    split
    ·exact ⟨u,e.wnd,e.told,e.Qn,e.Qq,e.wait,0,by rw [<-h.una,<-h.wr],Yb _,by omega,.inl rfl,Zfk ⟨t1,t2⟩ t3⟩
    ·exact ⟨u,e.wnd,e.told,e.Qn,e.Qq,e.wait,e.Qp,same,Yb _,by omega,.inl rfl,h.tm⟩
noncomputable def ZlN:State->State
 | .Qh=>.Qi
 | .Qm=>.Qj
 | .Ql=>.closed
 | q=>q
theorem ZoP (h:EI a b f g T R G now u x r y e) (hN:T.length<=5000) (hn:0<=now) (u1:1<=u) {k:Nat} (ha:s.ans=Zy f k) (hk:k<=x):∃u',u<=u'/\k<=u'/\(u'=u\/u'=k)/\EI a b f g T R G now u' x r y (zL (ZY e s now) now)/\(zL (ZY e s now) now).Qb=e.Qb/\(zL (ZY e s now) now).Qd=e.Qd/\(zL (ZY e s now) now).Qw=(if x=T.length+2/\u'=x then ZlN e.Qw else e.Qw):=by
 obtain ⟨u',w,to,tb,si,wa,tr,hE,k1,k2,k3,tm⟩:=Zrk h hN hn u1 ha hk
 have lim:=h.lim
 have ux:=h.ux
 have st:=h.st
 have hc:=h.hc
 have wl:(T.drop (u'-1)).length<=64:=by
  have:=h.wl
  rw [h.wr,Yv] at this
  rw [Yv]
  omega
 obtain ⟨e2,he2⟩:∃e2:Zm,e2={ e with una:=Zy f u',Qr:=T.drop (u'-1),wnd:=w,told:=to,Qn:=tb,Qq:=si,wait:=wa,Qp:=tr }:=⟨_,rfl⟩
 rw [<-he2] at hE
 have base:∀q,hcF q e.Qc->stF q T.length R.length u' x r->EI a b f g T R G now u' x r y { e2 with Qw:=q }:=fun q h1 h2=>by
  rw [he2]
  exact ⟨h.ours,h.Qt,h.first,rfl,h.nxt,h.beh,by omega,h.rcv,h.rcvB,rfl,wl,h.byt,h.come,h.cl,h.ear,h.nod,h.fin,h.ry,h.most,h.err,tm,h.oa,h1,h2⟩
 have baseN:∀q,hcF q e.Qc->stF q T.length R.length u' x r->EI a b f g T R G now u' x r y { e2 with Qw:=q,Qq:=now }:=fun q h1 h2=>by
  rw [he2]
  exact ⟨h.ours,h.Qt,h.first,rfl,h.nxt,h.beh,by omega,h.rcv,h.rcvB,rfl,wl,h.byt,h.come,h.cl,h.ear,h.nod,h.fin,h.ry,h.most,h.err,Zja (e:={ e with Qq:=si,wait:=wa,Qp:=tr }) tm,h.oa,h1,h2⟩
 have q1:e2.Qw=e.Qw:=by rw [he2]
 have q2:e2.Qb=e.Qb:=by rw [he2]
 have q3:e2.Qd=e.Qd:=by rw [he2]
 have sf:Zd8 e2=decide (x=T.length+2):=by
  rw [he2]
  show Za7 e.nxt e.Qs=_
  unfold Za7
  rw [h.nxt,h.beh,Zbd (by omega),decide_eq_decide]
  omega
 have un:e2.una=e2.nxt↔u'=x:=by
  rw [he2]
  show Zy f u'=e.nxt↔u'=x
  rw [h.nxt,Zc9 (by omega)]
  omega
 refine ⟨u',k1,k2,k3,?_⟩
 rw [hE]
 by_cases c:x=T.length+2/\u'=x
 ·have n1:¬(Zd8 e2=false\/¬e2.una=e2.nxt):=by
   rw [sf,un]
   simp [c.1,c.2]
  unfold zL
  rw [if_neg n1,if_pos c]
  by_cases s1:e.Qw=.Qh
  ·rw [if_pos (q1.trans s1),s1]
   rw [s1] at hc st
   exact ⟨base .Qi hc (by simp only [stF] at st ⊢; omega),q2,q3,rfl⟩
  ·rw [if_neg (by rw [q1]; exact s1)]
   by_cases s2:e.Qw=.Qm
   ·rw [if_pos (q1.trans s2),s2]
    rw [s2] at hc st
    exact ⟨baseN .Qj hc (by simp only [stF] at st ⊢; omega),q2,q3,rfl⟩
   ·rw [if_neg (by rw [q1]; exact s2)]
    by_cases s3:e.Qw=.Ql
    ·rw [if_pos (q1.trans s3),s3]
     rw [s3] at hc st
     exact ⟨base .closed hc (by simp only [stF] at st ⊢; omega),q2,q3,rfl⟩
    ·rw [if_neg (by rw [q1]; exact s3)]
     have z:=base e.Qw hc (by
      cases q:e.Qw<;>rw [q] at st s1 s2 s3<;>simp only [stF] at st ⊢<;>first | omega | exact absurd rfl s1 | exact absurd rfl s2 | exact absurd rfl s3)
     have e3:({ e2 with Qw:=e.Qw }:Zm)=e2:=by rw [<-q1]
     rw [e3] at z
     refine ⟨z,q2,q3,q1.trans ?_⟩
     cases q:e.Qw<;>rw [q] at s1 s2 s3<;>first | rfl | exact absurd rfl s1 | exact absurd rfl s2 | exact absurd rfl s3
 ·have n1:Zd8 e2=false\/¬e2.una=e2.nxt:=by
   rw [sf,un]
   by_cases q:x=T.length+2
   ·exact .inr fun z=>c ⟨q,z⟩
   ·exact .inl (decide_eq_false q)
  unfold zL
  rw [if_pos n1,if_neg c]
  have z:=base e.Qw hc (by cases q:e.Qw<;>rw [q] at st<;>simp only [stF] at st ⊢<;>omega)
  have e3:({ e2 with Qw:=e.Qw }:Zm)=e2:=by rw [<-q1]
  rw [e3] at z
  exact ⟨z,q2,q3,q1⟩
end
structure Zsd (T:List Int) (f:Int) (u':Nat) (s:Seg) (e e':Zm):Prop where
 closed:e.Qw=.closed->e'.Qw=.closed
 time:e.Qw=.Qj->e'.Qw=.Qj
 toClosed:e'.Qw=.closed->e.Qw=.closed\/(e.Qw=.Ql/\u'=T.length+2)
 toLast:e'.Qw=.Ql->e.Qw=.Ql
 wait:(e.Qw=.Qh\/e.Qw=.Qi\/e.Qw=.Qj)->(e.Qd≠none->e.Qw≠.Qh)->(s.flags=17->s.ans=Zy f (T.length+2))->(e'.Qw=.Qh\/e'.Qw=.Qi\/e'.Qw=.Qj)/\(e'.Qd≠none->e'.Qw≠.Qh)
def ZrJ (a b f g:Int) (T R G:List Int) (now:Int) (u x r y ro:Nat) (s:Seg) (e e':Zm):Prop:=∃u' r',EI a b f g T R G now u' x r' y e'/\u<=u'/\u'<=ro/\r<=r'/\(e'.Qb=none\/e.Qw=.closed)/\Zsd T f u' s e e'
section
variable {a b f g:Int} {T R G:List Int} {now:Int} {u x r y ro:Nat} {e:Zm} {s:Seg}
theorem Zc2 {u':Nat} {e':Zm} (h1:e'.Qw=e.Qw) (h2:e'.Qd=e.Qd):Zsd T f u' s e e':=
 ⟨fun q=>h1.trans q,fun q=>h1.trans q,fun q=>.inl (h1.symm.trans q),fun q=>h1.symm.trans q,fun q1 q2 _=>by rw [h1,h2]; exact ⟨q1,q2⟩⟩
theorem EI.up (h:EI a b f g T R G now u x r y e) {r':Nat} {st:State} {rc w to tb mo:Int} {oa os:Bool} {si wa tr:Int} {un:Int} {u':Nat} (hr:r<=r') (hr0:r=0) (hr':r'=1) (hy:1<=y) (hrc:rc=Zy g 1) (hmo:4<=mo) (ht:tmF now { e with Qq:=si,wait:=wa,Qp:=tr }) (hu:un=Zy f u') (hux:u'<=x) (hu1:u'<=1) (hu2:u=0) (hc:hcF st e.Qc) (hs:stF st T.length R.length u' x r'):EI a b f g T R G now u' x r' y { e with rcv:=rc,wnd:=w,told:=to,Qn:=tb,most:=mo,Qw:=st,Qa:=oa,Qe:=os,Qq:=si,wait:=wa,Qp:=tr,una:=un }:=by
 subst hr'
 refine ⟨h.ours,h.Qt,h.first,hu,h.nxt,h.beh,hux,fun _=>hrc,by show 0<=rc/\rc<=4294967295; rw [hrc]; exact Zfm _ _,?_,h.wl,h.byt,?_,h.cl,fun p hp=>?_,h.nod,h.fin,hy,hmo,h.err,ht,fun _=>Yb _,hc,hs⟩
 ·show e.Qr=T.drop (u'-1)
  rw [h.wr]
  congr 1
  omega
 ·have:=h.come
  rw [hr0] at this
  exact this
 ·obtain ⟨i,i1,i2,i3,i4,i5⟩:=h.ear p hp
  refine ⟨i,i1,i2,by omega,?_,i5⟩
  show 1+i+e.come.length<1+64
  omega
theorem Zqf (h:EI a b f g T R G now u x r y e) (hn:0<=now) (hr:1<=r) (h4:ZI s 4=false) (hu:u<=ro) (ho:e.Qb=none):ZrJ a b f g T R G now u x r y ro s e (ZcE e s now):=by
 unfold ZcE
 rw [h4,if_neg (by simp)]
 by_cases c:e.Qw=.Qj
 ·rw [if_pos c]
  exact ⟨u,r,h.tim (oa:=true) (os:=e.Qe) (pr:=e.Qo) (si:=now) (w:=e.wait) (t:=e.Qp) (fun _=>hr) (Zja h.tm),Yb _,hu,Yb _,.inl ho,Zc2 rfl rfl⟩
 ·rw [if_neg c]
  split
  ·exact ⟨u,r,h.tim (oa:=e.Qa) (os:=true) (pr:=e.Qo) (si:=e.Qq) (w:=e.wait) (t:=e.Qp) h.oa h.tm,Yb _,hu,Yb _,.inl ho,Zc2 rfl rfl⟩
  ·exact ⟨u,r,h.tim (oa:=true) (os:=e.Qe) (pr:=e.Qo) (si:=e.Qq) (w:=e.wait) (t:=e.Qp) (fun _=>hr) h.tm,Yb _,hu,Yb _,.inl ho,Zc2 rfl rfl⟩
theorem Zlw (h:EI a b f g T R G now u x r y e) (hR:R.length<=5000) (hn:0<=now) {m:Nat} (hm:1<=m) (hm2:m<=6000) (hnum:s.num=Zy g m) (hl:s.data.length<=16)
  (hd:((s.flags=16\/s.flags=24)/\s.data=(R.drop (m-1)).take s.data.length/\m+s.data.length<=y)\/(s.flags=17/\s.data=[]/\m=R.length+1/\y=R.length+2)) :
  ∃r',r<=r'/\EI a b f g T R G now u x r' y (zk e s now)/\(zk e s now).Qb=e.Qb/\((zk e s now).Qw=e.Qw/\((zk e s now).Qd≠none->e.Qd≠none\/s.flags=17)\/(e.Qd≠none\/s.flags=17)/\(e.Qw=.opn/\(zk e s now).Qw=.Qk\/e.Qw=.Qh/\(zk e s now).Qw=.Qm\/e.Qw=.Qi/\(zk e s now).Qw=.Qj)):=by
 unfold zk
 by_cases c:e.Qw=.opn\/e.Qw=.Qh\/e.Qw=.Qi
 ·rw [if_pos c]
  obtain ⟨r',k1,k2,k3,k4,k5,k6,k7⟩:=ZjT h hR c hm hm2 hnum hl hd
  obtain ⟨e1,he1⟩:∃e1,e1=ZaB e s:=⟨_,rfl⟩
  rw [<-he1] at k3 k4 k5 k6 k7 ⊢
  by_cases c2:e1.Qd=some e1.rcv
  ·rw [if_pos c2]
   obtain ⟨z1,z2⟩:=k3.fin _ c2
   have rr:r'=R.length+1:=by
    rw [k6] at z1
    have:=(Zc9 (n:=g) (j:=(r':Int)) (k:=1+(R.length:Int)) (by omega)).mp z1
    omega
   have nn:=k7 (by rw [c2]; simp)
   have pr:Zy e1.rcv 1=Zy g ((r'+1:Nat):Int):=by rw [k6,Zbt]; congr 1
   have st:=k3.st
   have hc:=k3.hc
   have cm:∀n:Nat,R.take (R.length+n)=R:=fun n=>YE (by omega)
   have nx:∀q si,hcF q e1.Qc->stF q T.length R.length u x (r'+1)->(0<=si/\si<=now)->tmF now { e1 with Qq:=si }->EI a b f g T R G now u x (r'+1) y { e1 with rcv:=Zy e1.rcv 1,Qw:=q,Qq:=si }:=by
    intro q si h1 h2 h3 h4
    refine ⟨k3.ours,k3.Qt,k3.first,k3.una,k3.nxt,k3.beh,k3.ux,fun _=>pr,by show 0<=Zy e1.rcv 1/\Zy e1.rcv 1<=4294967295; exact Zfm _ _,k3.wr,k3.wl,k3.byt,?_,k3.cl,fun p hp=>?_,k3.nod,k3.fin,by omega,k3.most,k3.err,h4,fun _=>by omega,h1,h2⟩
    ·show G++e1.come=R.take (r'+1-1)
     rw [k3.come,rr]
     have a1:R.take (R.length+1-1)=R:=YE (by omega)
     have a2:R.take (R.length+1+1-1)=R:=YE (by omega)
     rw [a1,a2]
    ·obtain ⟨i,i1,i2,i3,i4,i5⟩:=k3.ear p hp
     have:=(Ye.mp i2).1
     omega
   obtain ⟨t1,t2,_⟩:=k3.tm
   unfold Zgj
   by_cases s1:e1.Qw=.opn
   ·rw [if_pos s1]
    rw [s1] at st hc
    exact ⟨r'+1,by omega,nx .Qk e1.Qq hc (by simp only [stF] at st ⊢; omega) ⟨t1,t2⟩ k3.tm,k5,.inr ⟨nn,.inl ⟨k4.symm.trans s1,rfl⟩⟩⟩
   ·rw [if_neg s1]
    by_cases s2:e1.Qw=.Qh
    ·rw [if_pos s2]
     rw [s2] at st hc
     exact ⟨r'+1,by omega,nx .Qm e1.Qq hc (by simp only [stF] at st ⊢; omega) ⟨t1,t2⟩ k3.tm,k5,.inr ⟨nn,.inr (.inl ⟨k4.symm.trans s2,rfl⟩)⟩⟩
    ·rw [if_neg s2]
     have s3:e1.Qw=.Qi:=by
      rw [k4] at s1 s2 ⊢
      rcases c with q | q | q
      ·exact absurd q s1
      ·exact absurd q s2
      ·exact q
     rw [s3] at st hc
     exact ⟨r'+1,by omega,nx .Qj now hc (by simp only [stF] at st ⊢; omega) ⟨hn,YL _⟩ (Zja k3.tm),k5,.inr ⟨nn,.inr (.inr ⟨k4.symm.trans s3,rfl⟩)⟩⟩
  ·rw [if_neg c2]
   exact ⟨r',k1,k3,k5,.inl ⟨k4,k7⟩⟩
 ·rw [if_neg c]
  exact ⟨r,Yb _,h,rfl,.inl ⟨rfl,fun z=>.inl z⟩⟩
theorem ZoE (h:EI a b f g T R G now u x r y e) (hN:T.length<=5000) (hR:R.length<=5000) (hn:0<=now) (hu:u<=ro) (hx:ro<=x) (hy:y<=R.length+2) (so:s.Ok) (hs:(s.flags=2/\s.num=g/\s.data=[]/\1<=y)\/(s.flags=18/\s.num=g/\s.ans=Zy f 1/\s.data=[]/\1<=y/\1<=ro)\/
   ∃m k:Nat,s.num=Zy g m/\s.ans=Zy f k/\1<=m/\1<=k/\k<=ro/\s.most=0/\
    (((s.flags=16\/s.flags=24)/\s.data=(R.drop (m-1)).take s.data.length/\m+s.data.length<=y)\/
   (s.flags=17/\s.data=[]/\m=R.length+1/\y=R.length+2))) (h4:ZI s 4=false) (ho:e.Qb=none) (r1:1<=r) (nc:¬e.Qw=.closed) (nl:¬e.Qw=.Qu) (nss:¬e.Qw=.Qg):ZrJ a b f g T R G now u x r y ro s e (Za3 e s now):=by
 unfold Za3
 by_cases c:ZiP e s=false
 ·rw [if_pos c]
  exact Zqf h hn r1 h4 hu ho
 rw [if_neg c,h4,if_neg (by simp)]
 have syn:ZI s 2=true->ZrJ a b f g T R G now u x r y ro s e { e with Qa:=true }:=fun _=>
  ⟨u,r,h.tim (oa:=true) (os:=e.Qe) (pr:=e.Qo) (si:=e.Qq) (w:=e.wait) (t:=e.Qp) (fun _=>r1) h.tm,Yb _,hu,Yb _,.inl ho,Zc2 rfl rfl⟩
 rcases hs with z | z | ⟨m,k,z1,z2,z3,z4,z5,z6,z⟩
 ·rw [(br2 z.1).1,if_pos rfl]
  exact syn (br2 z.1).1
 ·rw [(Zrz z.1).1,if_pos rfl]
  exact syn (Zrz z.1).1
 have fl:s.flags=16\/s.flags=24\/s.flags=17:=by
  rcases z with z | z
  ·rcases z.1 with w | w
   ·exact .inl w
   ·exact .inr (.inl w)
  ·exact .inr (.inr z.1)
 obtain ⟨b2,b16,_⟩:=brD fl
 rw [b2,if_neg (by simp),b16,if_pos rfl]
 have lim:=h.lim
 have dl:s.data.length<=16:=so.data.2
 have m6:m<=6000:=by
  rcases z with z | z<;>omega
 have st:=h.st
 have hc:=h.hc
 by_cases sc:e.Qw=.Qf
 ·
  rw [sc] at st
  simp only [stF] at st
  have x1:x=1:=by omega
  have k1:k=1:=by omega
  have go:Zbe e s now=(true,Zds { e with una:=s.ans,Qw:=if e.Qc=true then .Qh else .opn } s):=by
   unfold Zbe
   rw [if_pos sc]
   unfold ZaP
   rw [if_neg]
   have a1:¬e.nxt=e.first:=by rw [h.x0 hN]; omega
   have a2:s.ans=e.nxt:=by rw [z2,h.nxt,k1,x1]
   simp [a1,a2]
  rw [go]
  simp only [if_true]
  have h1:EI a b f g T R G now 1 x r y (Zds { e with una:=s.ans,Qw:=if e.Qc=true then .Qh else .opn } s):=by
   refine ⟨h.ours,h.Qt,h.first,by show s.ans=_; rw [z2,k1],h.nxt,h.beh,by omega,h.rcv,h.rcvB,?_,h.wl,h.byt,h.come,h.cl,h.ear,h.nod,h.fin,h.ry,h.most,h.err,h.tm,h.oa,?_,?_⟩
   ·show e.Qr=T.drop (1-1)
    rw [h.wr]
    congr 1
    omega
   ·show hcF (if e.Qc=true then .Qh else .opn) e.Qc
    cases e.Qc<;>rfl
   ·show stF (if e.Qc=true then .Qh else .opn) T.length R.length 1 x r
    split<;>simp only [stF]<;>omega
  obtain ⟨e1,he1⟩:∃e1,e1=Zds { e with una:=s.ans,Qw:=if e.Qc=true then .Qh else .opn } s:=⟨_,rfl⟩
  have o1:e1.Qb=none:=by rw [he1]; exact ho
  have t1:e1.Qw=.Qh\/e1.Qw=.opn:=by
   rw [he1]
   show (if e.Qc=true then State.Qh else .opn)=_\/(if e.Qc=true then State.Qh else .opn)=_
   split
   ·exact .inl rfl
   ·exact .inr rfl
  rw [<-he1] at h1 ⊢
  obtain ⟨r',k1',k2',k3',k4'⟩:=Zlw h1 hR hn z3 m6 z1 dl z
  refine ⟨1,r',k2',by omega,by omega,k1',.inl (k3'.trans o1),?_⟩
  have fin:(zk e1 s now).Qw=.Qh\/(zk e1 s now).Qw=.opn\/(zk e1 s now).Qw=.Qk\/(zk e1 s now).Qw=.Qm:=by
   rcases k4' with w | ⟨_,w | w | w⟩
   ·rcases t1 with t | t
    ·exact .inl (w.1.trans t)
    ·exact .inr (.inl (w.1.trans t))
   ·exact .inr (.inr (.inl w.2))
   ·exact .inr (.inr (.inr w.2))
   ·rcases t1 with t | t<;>rw [t] at w<;>cases w.1
  refine ⟨fun w=>(by rw [sc] at w; cases w),fun w=>(by rw [sc] at w; cases w),fun w=>?_,fun w=>?_,fun w=>(by rw [sc] at w; simp at w)⟩
  ·rw [w] at fin; simp at fin
  ·rw [w] at fin; simp at fin
 ·have u1:=(h.strm nl nss sc).1
  have go:Zbe e s now=(!decide ((zL (ZY e s now) now).Qw=.closed),zL (ZY e s now) now):=by
   unfold Zbe
   rw [if_neg sc,if_neg]
   unfold Za7
   rw [z2,h.nxt,Zbd (by omega)]
   simp
   omega
  obtain ⟨u',a1,a2,a3,a4,a5,a6,a7⟩:=ZoP h hN hn u1 z2 (by omega)
  obtain ⟨e1,he1⟩:∃e1,e1=zL (ZY e s now) now:=⟨_,rfl⟩
  rw [go]
  simp only
  rw [<-he1] at a4 a5 a6 a7 ⊢
  have ur:u'<=ro:=by rcases a3 with w | w<;>omega
  have lim':=a4.lim
  by_cases cd:e1.Qw=.closed
  ·rw [if_neg (by simp [cd])]
   have la:e.Qw=.Ql/\u'=T.length+2:=by
    rw [a7] at cd
    by_cases w:x=T.length+2/\u'=x
    ·rw [if_pos w] at cd
     refine ⟨?_,by omega⟩
     cases q:e.Qw<;>rw [q] at cd nc<;>simp [ZlN] at cd nc ⊢
    ·rw [if_neg w] at cd
     exact absurd cd nc
   refine ⟨u',r,a4,a1,ur,Yb _,.inl (a5.trans ho),?_⟩
   exact ⟨fun w=>absurd w nc,fun w=>(by rw [la.1] at w; cases w),fun _=>.inr la,fun w=>la.1,fun w=>(by rw [la.1] at w; simp at w)⟩
  ·rw [if_pos (by simp [cd])]
   obtain ⟨r',k1,k2,k3,k4⟩:=Zlw a4 hR hn z3 m6 z1 dl z
   refine ⟨u',r',k2,a1,ur,k1,.inl ((k3.trans a5).trans ho),?_⟩
   refine ⟨fun w=>absurd w nc,fun w=>?_,fun w=>?_,fun w=>?_,fun w1 w2 w3=>?_⟩
   ·have e1t:e1.Qw=.Qj:=by
     rw [a7,w]
     split<;>rfl
    rcases k4 with v | ⟨_,v | v | v⟩
    ·exact v.1.trans e1t
    ·rw [e1t] at v; cases v.1
    ·rw [e1t] at v; cases v.1
    ·exact v.2
   ·rcases k4 with v | ⟨_,v | v | v⟩
    ·exact absurd (v.1.symm.trans w) cd
    ·rw [v.2] at w; cases w
    ·rw [v.2] at w; cases w
    ·rw [v.2] at w; cases w
   ·rcases k4 with v | ⟨_,v | v | v⟩
    ·have e1l:=v.1.symm.trans w
     rw [a7] at e1l
     split at e1l
     ·cases q:e.Qw<;>rw [q] at e1l<;>simp [ZlN] at e1l
     ·exact e1l
    ·rw [v.2] at w; cases w
    ·rw [v.2] at w; cases w
    ·rw [v.2] at w; cases w
   ·
    have e1w:(e1.Qw=.Qh\/e1.Qw=.Qi\/e1.Qw=.Qj)/\(e1.Qd≠none\/s.flags=17->e1.Qw≠.Qh):=by
     rw [a6,a7]
     by_cases w:x=T.length+2/\u'=x
     ·rw [if_pos w]
      rcases w1 with v | v | v<;>rw [v]<;>simp [ZlN]
     ·rw [if_neg w]
      refine ⟨w1,fun v v2=>?_⟩
      rcases v with v | v
      ·exact w2 v v2
      ·have kk:=w3 v
       rw [z2] at kk
       have:=(Zc9 (n:=f) (j:=(k:Int)) (k:=(T.length:Int)+2) (by omega)).mp kk
       rw [v2] at st
       simp only [stF] at st
       omega
    rcases k4 with v | ⟨v0,v | v | v⟩
    ·rw [v.1]
     exact ⟨e1w.1,fun q=>e1w.2 (v.2 q)⟩
    ·rw [v.1] at e1w; simp at e1w
    ·exact absurd v.1 (e1w.2 v0)
    ·rw [v.2]
     exact ⟨.inr (.inr rfl),fun _=>by simp⟩
theorem ZoD (h:EI a b f g T R G now u x r y e) (hN:T.length<=5000) (hR:R.length<=5000) (hn:0<=now) (hu:u<=ro) (hx:ro<=x) (hy:y<=R.length+2) (hs:Sg b a g f R y ro s) (ho:e.Qb=none\/e.Qw=.closed):ZrJ a b f g T R G now u x r y ro s e (ZbC e s now):=by
 obtain ⟨s1,s2,so,hs⟩:=hs
 have lim:=h.lim
 have ux:=h.ux
 have st:=h.st
 have mo:4<=(if s.most=0 then e.most else s.most):=by
  have:=h.most
  have sm:=so.most
  split
  ·exact this
  ·rcases sm with q | q
   ·exact absurd q (by assumption)
   ·exact q.1
 have h4:ZI s 4=false:=by
  rcases hs with q | q | ⟨m,k,_,_,_,_,_,_,q⟩
  ·exact (br2 q.1).2.2.1
  ·exact (Zrz q.1).2.2.1
  ·refine (brD ?_).2.2
   rcases q with q | q
   ·rcases q.1 with z | z
    ·exact .inl z
    ·exact .inr (.inl z)
   ·exact .inr (.inr q.1)
 cases q:e.Qw
 case closed=>
  unfold ZbC
  simp only [q]
  unfold ZaD
  rw [h4,if_neg (by simp)]
  exact ⟨u,r,⟨h.ours,h.Qt,h.first,h.una,h.nxt,h.beh,h.ux,h.rcv,h.rcvB,h.wr,h.wl,h.byt,h.come,h.cl,h.ear,h.nod,h.fin,h.ry,h.most,h.err,h.tm,h.oa,h.hc,h.st⟩,Yb _,hu,Yb _,.inr q,Zc2 rfl rfl⟩
 case Qu=>
  rw [q] at st
  simp only [stF] at st
  have ho':e.Qb=none:=ho.resolve_right (by rw [q]; simp)
  have s2':s.flags=2/\s.num=g/\s.data=[]/\1<=y:=by
   rcases hs with z | z | ⟨m,k,_,_,_,_,_,_,z⟩
   ·exact z
   ·omega
   ·omega
  obtain ⟨b2,b16,b4,b1⟩:=br2 s2'.1
  unfold ZbC
  simp only [q]
  unfold Zbq
  rw [b4,if_neg (by simp),b16,if_neg (by simp),b2,if_pos rfl]
  have hsy:({ hearSyn { e with Qt:=s.src } s with Qw:=.Qf }:Zm)={ e with rcv:=Zy s.num 1,wnd:=s.win,told:=s.num,Qn:=(if ZI s 16=true then s.ans else 0),most:=(if s.most=0 then e.most else s.most),Qw:=.Qf,Qa:=e.Qa,Qe:=e.Qe,Qq:=e.Qq,wait:=e.wait,Qp:=e.Qp,una:=e.una }:=by
   unfold hearSyn
   rw [s1,<-h.Qt.1]
  rw [hsy]
  refine ⟨u,1,h.up (u':=u) (by omega) (by omega) rfl s2'.2.2.2 (by rw [s2'.2.1]) mo h.tm h.una (by omega) (by omega) (by omega) trivial (show u=0/\x<=1/\1=1 from ⟨by omega,by omega,rfl⟩),Yb _,hu,by omega,.inl ho',?_⟩
  exact ⟨fun z=>(by rw [q] at z; cases z),fun z=>(by rw [q] at z; cases z),fun z=>(by cases z),fun z=>(by cases z),fun z=>(by rw [q] at z; simp at z)⟩
 case Qg=>
  rw [q] at st
  simp only [stF] at st
  have ho':e.Qb=none:=ho.resolve_right (by rw [q]; simp)
  have hc:=h.hc
  rw [q] at hc
  unfold ZbC
  simp only [q]
  unfold z9
  rcases hs with z | z | ⟨m,k,z1,z2,z3,z4,z5,z6,z⟩
  ·obtain ⟨b2,b16,b4,b1⟩:=br2 z.1
   rw [b16,if_neg (by simp),b4,if_neg (by simp),b2,if_pos rfl,if_neg (by simp)]
   have hsy:({ startTimer { hearSyn e s with Qw:=.Qf } now with Qe:=true }:Zm)={ e with rcv:=Zy s.num 1,wnd:=s.win,told:=s.num,Qn:=(if ZI s 16=true then s.ans else 0),most:=(if s.most=0 then e.most else s.most),Qw:=.Qf,Qa:=e.Qa,Qe:=true,Qq:=now,wait:=1000,Qp:=0,una:=e.una }:=rfl
   rw [hsy]
   refine ⟨u,1,h.up (u':=u) (by omega) (by omega) rfl z.2.2.2 (by rw [z.2.1]) mo (Zfk ⟨hn,YL _⟩ (by omega)) h.una (by omega) (by omega) (by omega) trivial (show u=0/\x<=1/\1=1 from ⟨by omega,by omega,rfl⟩),Yb _,hu,by omega,.inl ho',?_⟩
   exact ⟨fun w=>(by rw [q] at w; cases w),fun w=>(by rw [q] at w; cases w),fun w=>(by cases w),fun w=>(by cases w),fun w=>(by rw [q] at w; simp at w)⟩
  ·obtain ⟨b2,b16,b4,b1⟩:=Zrz z.1
   have an:Zbr e s=true:=by
    unfold Zbr
    rw [z.2.2.1,h.first.1]
    have:¬e.nxt=f:=by
     rw [<-h.first.1,h.x0 hN]
     omega
    simp [this]
   rw [b16,an,if_neg (by simp),b4,if_neg (by simp),b2,if_pos rfl,if_pos rfl]
   have hsy:({ hearSyn e s with una:=s.ans,Qw:=.opn,Qa:=true }:Zm)={ e with rcv:=Zy s.num 1,wnd:=s.win,told:=s.num,Qn:=(if ZI s 16=true then s.ans else 0),most:=(if s.most=0 then e.most else s.most),Qw:=.opn,Qa:=true,Qe:=e.Qe,Qq:=e.Qq,wait:=e.wait,Qp:=e.Qp,una:=s.ans }:=rfl
   rw [hsy]
   refine ⟨1,1,h.up (u':=1) (by omega) (by omega) rfl (by have:=h.ry; omega) (by rw [z.2.1]) mo h.tm (by rw [z.2.2.1]; rfl) (by omega) (by omega) (by omega) hc (by simp only [stF]; omega),by omega,by omega,by omega,.inl ho',?_⟩
   exact ⟨fun w=>(by rw [q] at w; cases w),fun w=>(by rw [q] at w; cases w),fun w=>(by cases w),fun w=>(by cases w),fun w=>(by rw [q] at w; simp at w)⟩
  ·have fl:s.flags=16\/s.flags=24\/s.flags=17:=by
    rcases z with z | z
    ·rcases z.1 with w | w
     ·exact .inl w
     ·exact .inr (.inl w)
    ·exact .inr (.inr z.1)
   obtain ⟨b2,b16,b4⟩:=brD fl
   have an:Zbr e s=true:=by
    unfold Zbr
    have k1:k=1:=by omega
    rw [z2,h.first.1,k1]
    have:¬e.nxt=f:=by
     rw [<-h.first.1,h.x0 hN]
     omega
    simp [this]
   rw [b16,an,if_neg (by simp),b4,if_neg (by simp),b2,if_neg (by simp)]
   exact ⟨u,r,h,Yb _,hu,Yb _,.inl ho',Zc2 rfl rfl⟩
 all_goals (
  have ho':e.Qb=none:=ho.resolve_right (by rw [q]; simp)
  have r1:1<=r:=by
   rw [q] at st
   simp only [stF] at st
   omega
  have hcm:ZbC e s now=Za3 e s now:=by
   unfold ZbC
   simp only [q]
  rw [hcm]
  exact ZoE h hN hR hn hu hx hy so hs h4 ho' r1 (by rw [q]; simp) (by rw [q]; simp) (by rw [q]; simp))
end
def La (o e:Zm):Prop:=(o.Qw=.Ql\/o.Qw=.closed)->(e.Qw=.Qh\/e.Qw=.Qi\/e.Qw=.Qj)/\(e.Qd≠none->e.Qw≠.Qh)/\(o.Qw=.closed->e.Qw=.Qj)
structure Hf (a b f g:Int) (T R G:List Int) (now:Int) (u x r y ro:Nat) (e o:Zm) (rd:List Seg):Prop where
 ei:EI a b f g T R G now u x r y e
 ur:u<=ro
 road:∀s∈rd,Sg b a g f R y ro s\/(ZI s 4=true/\s.Ok/\s.src=b/\s.goal=a/\e.Qw=.Qj)
 la:La o e
 fr:(o.Qw=.Ql\/o.Qw=.closed)->∀s∈rd,s.flags=17->s.ans=Zy f (T.length+2)
 ow:∀s,e.Qb=some s->e.Qw=.closed/\ZI s 4=true/\s.Ok/\s.src=a/\s.goal=b
def Two (a b f g:Int) (T R G Go:List Int) (now:Int) (e o:Zm) (rd ro:List Seg):Prop:=∃u x r uo xo ro',Hf a b f g T R G now u x r xo ro' e o rd/\Hf b a g f R T Go now uo xo ro' x r o e ro
section
variable {a b f g:Int} {T R G Go:List Int} {now:Int} {u x r y:Nat} {e o:Zm} {s:Seg} {rd ro:List Seg}
theorem Two.swap (h:Two a b f g T R G Go now e o rd ro):Two b a g f R T Go G now o e ro rd:=by
 obtain ⟨u,x,r,uo,xo,ro',h1,h2⟩:=h
 exact ⟨uo,xo,ro',u,x,r,h2,h1⟩
theorem Sg.mono (h:Sg a b f g T x r s) {x' r':Nat} (hx:x<=x') (hx':x'<=T.length+2) (hr:r<=r'):Sg a b f g T x' r' s:=by
 obtain ⟨h1,h2,h3,h4⟩:=h
 refine ⟨h1,h2,h3,?_⟩
 rcases h4 with z | z | ⟨m,k,z1,z2,z3,z4,z5,z6,z⟩
 ·exact .inl ⟨z.1,z.2.1,z.2.2.1,by omega⟩
 ·exact .inr (.inl ⟨z.1,z.2.1,z.2.2.1,z.2.2.2.1,by omega,by omega⟩)
 ·refine .inr (.inr ⟨m,k,z1,z2,z3,z4,by omega,z6,?_⟩)
  rcases z with z | z
  ·exact .inl ⟨z.1,z.2.1,by omega⟩
  ·exact .inr ⟨z.1,z.2.1,z.2.2.1,by omega⟩
theorem EI.monoY (h:EI a b f g T R G now u x r y e) {y':Nat} (h1:y<=y') (h2:y'<=R.length+2):EI a b f g T R G now u x r y' e:=
 ⟨h.ours,h.Qt,h.first,h.una,h.nxt,h.beh,h.ux,h.rcv,h.rcvB,h.wr,h.wl,h.byt,h.come,h.cl,fun p hp=>by
  obtain ⟨i,i1,i2,i3,i4,i5⟩:=h.ear p hp
  exact ⟨i,i1,i2,i3,i4,by omega⟩,h.nod,fun n hn=>⟨(h.fin n hn).1,by have:=(h.fin n hn).2; omega⟩,by have:=h.ry; omega,h.most,h.err,h.tm,h.oa,h.hc,h.st⟩
theorem Hf.sub {ro':Nat} (h:Hf a b f g T R G now u x r y ro' e o rd) {rd':List Seg} (hs:∀s∈rd',s∈rd):Hf a b f g T R G now u x r y ro' e o rd':=
 ⟨h.ei,h.ur,fun s q=>h.road s (hs s q),h.la,fun q s q2=>h.fr q s (hs s q2),h.ow⟩
theorem Two.sub (h:Two a b f g T R G Go now e o rd ro) {rd' ro2:List Seg} (hs:∀s∈rd',s∈rd) (hs2:∀s∈ro2,s∈ro):Two a b f g T R G Go now e o rd' ro2:=by
 obtain ⟨u,x,r,uo,xo,ro',h1,h2⟩:=h
 exact ⟨u,x,r,uo,xo,ro',h1.sub hs,h2.sub hs2⟩
theorem ZmS (h:ZI s 4=true) (ht:e.Qw=.Qj):ZbC e s now=e:=by
 unfold ZbC
 simp only [ht]
 unfold Za3
 split
 ·unfold ZcE
  rw [if_pos h]
 ·first
   | (rw [if_pos h]; unfold Zc5; rw [if_pos ht])
   | (unfold Zc5; rw [if_pos ht])
theorem Zj4 (s:Seg):ZI (ZbH s) 4=true/\(ZbH s).src=s.goal/\(ZbH s).goal=s.src:=by
 unfold ZbH
 split
 ·exact ⟨by show decide (bit 4 4=1)=true; decide,rfl,rfl⟩
 ·exact ⟨by show decide (bit 20 4=1)=true; decide,rfl,rfl⟩
theorem two_come (h:Two a b f g T R G Go now e o rd ro) (hN:T.length<=5000) (hR:R.length<=5000) (hn:0<=now) (hs:s∈rd):Two a b f g T R G Go now (ZbC e s now) o rd ro:=by
 obtain ⟨u,x,r,uo,xo,r',h1,h2⟩:=h
 rcases h1.road s hs with q | q
 ·have ry':=h2.ei.ry
  have lim':=h2.ei.lim
  have ho:e.Qb=none\/e.Qw=.closed:=by
   cases z:e.Qb with
   | none=>exact .inl rfl
   | some w=>exact .inr (h1.ow w z).1
  obtain ⟨u2,r2,c1,c2,c3,c4,c5,c6⟩:=ZoD h1.ei hN hR hn h1.ur ry' lim'.2.1 q ho
  have lim2:=c1.lim
  refine ⟨u2,x,r2,uo,xo,r',⟨c1,c3,fun s' hs'=>?_,fun ql=>?_,h1.fr,fun s' hs'=>?_⟩,⟨h2.ei,Yu h2.ur c4,fun s' hs'=>?_,fun ql=>?_,fun ql=>?_,h2.ow⟩⟩
  ·rcases h1.road s' hs' with z | z
   ·exact .inl z
   ·exact .inr ⟨z.1,z.2.1,z.2.2.1,z.2.2.2.1,c6.time z.2.2.2.2⟩
  ·obtain ⟨l1,l2,l3⟩:=h1.la ql
   obtain ⟨w1,w2⟩:=c6.wait l1 l2 (h1.fr ql s hs)
   exact ⟨w1,w2,fun z=>c6.time (l3 z)⟩
  ·rcases c5 with z | z
   ·rw [z] at hs'; cases hs'
   ·have e1:ZbC e s now=ZaD e s:=by
     unfold ZbC
     simp only [z]
    rw [e1] at hs' ⊢
    unfold ZaD at hs' ⊢
    split at hs'
    ·rw [if_pos (by assumption)]
     exact h1.ow s' hs'
    ·rw [if_neg (by assumption)]
     cases hs'
     obtain ⟨k1,k2,k3⟩:=Zj4 s
     exact ⟨z,k1,Zns q.2.2.1,k2.trans q.2.1,k3.trans q.1⟩
  ·rcases h2.road s' hs' with z | z
   ·exact .inl (z.mono (Yb _) lim2.2.1 c4)
   ·exact .inr z
  ·rcases ql with z | z
   ·obtain ⟨l1,l2,l3⟩:=h2.la (.inl (c6.toLast z))
    exact ⟨l1,l2,fun w=>by rw [z] at w; cases w⟩
   ·rcases c6.toClosed z with w | w
    ·obtain ⟨l1,l2,l3⟩:=h2.la (.inr w)
     exact ⟨l1,l2,fun _=>l3 w⟩
    ·obtain ⟨l1,l2,l3⟩:=h2.la (.inl w.1)
     have tw:o.Qw=.Qj:=by
      have st:=h2.ei.st
      rcases l1 with v | v | v
      ·rw [v] at st; simp only [stF] at st; omega
      ·rw [v] at st; simp only [stF] at st; omega
      ·exact v
     exact ⟨l1,l2,fun _=>tw⟩
  ·refine h2.fr ?_
   rcases ql with z | z
   ·exact .inl (c6.toLast z)
   ·rcases c6.toClosed z with w | w
    ·exact .inr w
    ·exact .inl w.1
 ·rw [ZmS q.1 q.2.2.2.2]
  exact ⟨u,x,r,uo,xo,r',h1,h2⟩
theorem two_go (h:Two a b f g T R G Go now e o rd ro) (hN:T.length<=5000) (hn:0<=now/\now<=30000):Two a b f g T R G Go now (z8 e now).2 o rd (ro++(z8 e now).1.toList)/\(∀s,(z8 e now).1=some s->s.Ok):=by
 obtain ⟨u,x,r,uo,xo,r',h1,h2⟩:=h
 cases q:e.Qb with
 | some s=>
  obtain ⟨w1,w2,w3,w4,w5⟩:=h1.ow s q
  have g1:z8 e now=(some s,{ e with Qb:=none }):=by
   unfold z8
   rw [q]
  rw [g1]
  obtain ⟨l1,l2,l3⟩:=h2.la (.inr w1)
  have ei:EI a b f g T R G now u x r xo { e with Qb:=none }:=⟨h1.ei.ours,h1.ei.Qt,h1.ei.first,h1.ei.una,h1.ei.nxt,h1.ei.beh,h1.ei.ux,h1.ei.rcv,h1.ei.rcvB,h1.ei.wr,h1.ei.wl,h1.ei.byt,h1.ei.come,h1.ei.cl,h1.ei.ear,h1.ei.nod,h1.ei.fin,h1.ei.ry,h1.ei.most,h1.ei.err,h1.ei.tm,h1.ei.oa,h1.ei.hc,h1.ei.st⟩
  refine ⟨⟨u,x,r,uo,xo,r',⟨ei,h1.ur,h1.road,h1.la,h1.fr,fun s' z=>by cases z⟩,⟨h2.ei,h2.ur,fun s' hs'=>?_,h2.la,fun ql s' hs' hf=>?_,h2.ow⟩⟩,fun s' z=>by cases z; exact w3⟩
  ·rcases Yw.mp hs' with z | z
   ·exact h2.road s' z
   ·simp at z
    subst z
    exact .inr ⟨w2,w3,w4,w5,l3 w1⟩
  ·rcases Yw.mp hs' with z | z
   ·exact h2.fr ql s' z hf
   ·simp at z
    subst z
    exfalso
    unfold ZI at w2
    rw [hf] at w2
    exact absurd w2 (by decide)
 | none=>
  obtain ⟨x',k1,k2,k3,k4,k5,k6,k7⟩:=Zom h1.ei hN hn q
  have lim:=k2.lim
  refine ⟨⟨u,x',r,uo,xo,r',⟨k2,h1.ur,fun s' hs'=>?_,fun ql=>?_,h1.fr,fun s' z=>by rw [k5] at z; cases z⟩,⟨h2.ei.monoY k1 lim.2.1,h2.ur,fun s' hs'=>?_,fun ql=>?_,fun ql s' hs' hf=>?_,h2.ow⟩⟩,fun s z=>(k7 s z).1.2.2.1⟩
  ·rcases h1.road s' hs' with z | z
   ·exact .inl z
   ·exact .inr ⟨z.1,z.2.1,z.2.2.1,z.2.2.2.1,k3.trans z.2.2.2.2⟩
  ·have:=h1.la ql
   rw [<-k3,<-k6] at this
   exact this
  ·rcases Yw.mp hs' with z | z
   ·rcases h2.road s' z with v | v
    ·exact .inl (v.mono k1 lim.2.1 (Yb _))
    ·exact .inr v
   ·rw [Option.mem_toList] at z
    exact .inl (k7 s' z).1
  ·rw [k3] at ql
   have:=h2.la ql
   rw [k3]
   exact this
  ·rw [k3] at ql
   rcases Yw.mp hs' with z | z
   ·exact h2.fr ql s' z hf
   ·rw [Option.mem_toList] at z
    rw [(k7 s' z).2 hf]
    have st:=h1.ei.st
    have rr:r=R.length+2:=by
     rcases ql with v | v<;>rw [v] at st<;>simp only [stF] at st<;>omega
    rw [rr]
    rfl
end
section
variable {a b f g:Int} {T R G Go:List Int} {now:Int} {u x r y:Nat} {e o:Zm} {s:Seg} {rd ro:List Seg}
theorem Znb {now':Int} (h:tmF now e) (hn:now<=now'):tmF now' e:=by
 obtain ⟨t1,t2,t3,t4⟩:=h
 exact ⟨t1,by omega,t3,t4⟩
theorem EI.later (h:EI a b f g T R G now u x r y e) {now':Int} (hn:now<=now'):EI a b f g T R G now' u x r y e:=
 ⟨h.ours,h.Qt,h.first,h.una,h.nxt,h.beh,h.ux,h.rcv,h.rcvB,h.wr,h.wl,h.byt,h.come,h.cl,h.ear,h.nod,h.fin,h.ry,h.most,h.err,Znb h.tm hn,h.oa,h.hc,h.st⟩
theorem two_later (h:Two a b f g T R G Go now e o rd ro) {now':Int} (hn:now<=now'):Two a b f g T R G Go now' e o rd ro:=by
 obtain ⟨u,x,r,uo,xo,r',h1,h2⟩:=h
 exact ⟨u,x,r,uo,xo,r',⟨h1.ei.later hn,h1.ur,h1.road,h1.la,h1.fr,h1.ow⟩,⟨h2.ei.later hn,h2.ur,h2.road,h2.la,h2.fr,h2.ow⟩⟩
theorem two_read (h:Two a b f g T R G Go now e o rd ro) (n:Int):Two a b f g T R (G++e.come.take n.toNat) Go now (readE e n) o rd ro:=by
 obtain ⟨u,x,r,uo,xo,r',h1,h2⟩:=h
 have key:∃oa,readE e n={ e with come:=e.come.drop n.toNat,Qa:=oa }/\(oa=true->1<=r):=by
  unfold readE
  split
  ·rename_i c
   refine ⟨true,rfl,fun _=>?_⟩
   have st:=h1.ei.st
   have c3:=c.2.2
   simp at c3
   rcases c3 with q | q | q<;>rw [q] at st<;>simp only [stF] at st<;>omega
  ·exact ⟨e.Qa,rfl,h1.ei.oa⟩
 obtain ⟨oa,k1,k2⟩:=key
 have h:=h1.ei
 have dl:(e.come.drop n.toNat).length<=e.come.length:=by rw [Yv]; omega
 have ei:EI a b f g T R (G++e.come.take n.toNat) now u x r xo (readE e n):=by
  rw [k1]
  refine ⟨h.ours,h.Qt,h.first,h.una,h.nxt,h.beh,h.ux,h.rcv,h.rcvB,h.wr,h.wl,h.byt,?_,?_,fun p hp=>?_,h.nod,h.fin,h.ry,h.most,h.err,h.tm,k2,h.hc,h.st⟩
  ·show G++e.come.take n.toNat++e.come.drop n.toNat=_
   rw [YF,List.take_append_drop]
   exact h.come
  ·have:=h.cl
   show (e.come.drop n.toNat).length<=64
   omega
  ·obtain ⟨i,i1,i2,i3,i4,i5⟩:=h.ear p hp
   refine ⟨i,i1,i2,i3,?_,i5⟩
   show 1+i+(e.come.drop n.toNat).length<r+64
   omega
 have s1:(readE e n).Qw=e.Qw:=by rw [k1]
 have s2:(readE e n).Qd=e.Qd:=by rw [k1]
 have s3:(readE e n).Qb=e.Qb:=by rw [k1]
 refine ⟨u,x,r,uo,xo,r',⟨ei,h1.ur,fun s hs=>?_,fun q=>?_,h1.fr,fun s hs=>?_⟩,⟨h2.ei,h2.ur,h2.road,fun q=>?_,fun q=>?_,h2.ow⟩⟩
 ·rw [s1]; exact h1.road s hs
 ·rw [s1,s2]; exact h1.la q
 ·rw [s3] at hs; rw [s1]; exact h1.ow s hs
 ·rw [s1] at q ⊢; exact h2.la q
 ·rw [s1] at q; exact h2.fr q
theorem two_write (h:Two a b f g T R G Go now e o rd ro) (hN:T.length<=4000) {d:List Int} (hd:ZkN d):Two a b f g (T++(if Zdi e=true then ZeK e d else [])) R G Go now (Zcn e d) o rd ro:=by
 by_cases c:Zdi e=true
 ·rw [if_pos c]
  obtain ⟨u,x,r,uo,xo,r',h1,h2⟩:=h
  have h:=h1.ei
  obtain ⟨w,hw⟩:∃w,w=ZeK e d:=⟨_,rfl⟩
  have wE:Zcn e d={ e with Qr:=e.Qr++w,Qs:=Zy e.Qs w.length }:=by
   unfold Zcn
   rw [if_pos c,hw]
  rw [<-hw,wE]
  have c':=c
  unfold Zdi at c'
  rw [Yt,decide_eq_true_eq] at c'
  have st:=h.st
  have ux:=h.ux
  have xs:x<=T.length+1:=by
   have c2:=c'.2
   simp at c2
   rcases c2 with q | q | q | q<;>rw [q] at st<;>simp only [stF] at st<;>omega
  have wl:w.length+e.Qr.length<=64:=by
   have:=h.wl
   have q:=Zhv (r:=d) (k:=64-(e.Qr.length:Int)) (by omega)
   rw [hw]
   unfold ZeK
   omega
  have wb:ZkN w:=by
   intro z hz
   refine hd z ?_
   rw [hw] at hz
   unfold ZeK at hz
   rw [Zcw _ (by have:=h.wl; omega)] at hz
   exact List.mem_of_mem_take hz
  have lt:(T++w).length=T.length+w.length:=Yj
  have ei:EI a b f g (T++w) R G now u x r xo { e with Qr:=e.Qr++w,Qs:=Zy e.Qs w.length }:=by
   refine ⟨h.ours,h.Qt,h.first,h.una,h.nxt,?_,ux,h.rcv,h.rcvB,?_,?_,?_,h.come,h.cl,h.ear,h.nod,h.fin,h.ry,h.most,h.err,h.tm,h.oa,h.hc,?_⟩
   ·show Zy e.Qs w.length=_
    rw [h.beh,Zbt,lt]
    congr 1
    omega
   ·show e.Qr++w=_
    rw [h.wr,Y8 (by omega)]
   ·show (e.Qr++w).length<=64
    rw [Yj]
    omega
   ·intro z hz
    rcases Yw.mp hz with q | q
    ·exact h.byt z q
    ·exact wb z q
   ·show stF e.Qw (T++w).length R.length u x r
    rw [lt]
    have c2:=c'.2
    simp at c2
    rcases c2 with q | q | q | q<;>rw [q] at st ⊢<;>simp only [stF] at st ⊢<;>omega
  have h':=h2.ei
  have ry:=h'.ry
  have sto:=h'.st
  have ei':EI b a g f R (T++w) Go now uo xo r' x o:=by
   refine ⟨h'.ours,h'.Qt,h'.first,h'.una,h'.nxt,h'.beh,h'.ux,h'.rcv,h'.rcvB,h'.wr,h'.wl,h'.byt,?_,h'.cl,fun p hp=>?_,h'.nod,fun n hn=>?_,ry,h'.most,h'.err,h'.tm,h'.oa,h'.hc,?_⟩
   ·rw [h'.come,Y9 (by omega)]
   ·obtain ⟨i,i1,i2,i3,i4,i5⟩:=h'.ear p hp
    refine ⟨i,i1,?_,i3,i4,i5⟩
    rw [Yp (Ye.mp i2).1]
    exact i2
   ·have:=(h'.fin n hn).2
    omega
   ·rw [lt]
    cases q:o.Qw<;>rw [q] at sto<;>simp only [stF] at sto ⊢<;>omega
  have nlast:¬(o.Qw=.Ql\/o.Qw=.closed):=by
   intro q
   rcases q with q | q<;>rw [q] at sto<;>simp only [stF] at sto<;>omega
  refine ⟨u,x,r,uo,xo,r',⟨ei,h1.ur,h1.road,h1.la,fun q=>absurd q nlast,h1.ow⟩,⟨ei',h2.ur,fun s hs=>?_,h2.la,h2.fr,h2.ow⟩⟩
  rcases h2.road s hs with q | q
  ·obtain ⟨q1,q2,q3,q4⟩:=q
   refine .inl ⟨q1,q2,q3,?_⟩
   rcases q4 with z | z | ⟨m,k,z1,z2,z3,z4,z5,z6,z⟩
   ·exact .inl z
   ·exact .inr (.inl z)
   ·refine .inr (.inr ⟨m,k,z1,z2,z3,z4,z5,z6,?_⟩)
    rcases z with z | z
    ·refine .inl ⟨z.1,?_,z.2.2⟩
     have ll:=congrArg List.length z.2.1
     rw [Yy,Yv] at ll
     rcases Nat.eq_zero_or_pos s.data.length with v | v
     ·rw [v,Jl]
      exact YS.mp v
     ·rw [Y8 (by omega),Y9 (by rw [Yv]; omega)]
      exact z.2.1
    ·omega
  ·exact .inr q
 ·rw [if_neg c,YV]
  unfold Zcn
  rw [if_neg c]
  exact h
theorem two_close (h:Two a b f g T R G Go now e o rd ro) (h1:e.Qw≠.Qu) (h2:e.Qw≠.Qg):Two a b f g T R G Go now (Zcc e).2 o rd ro:=by
 obtain ⟨u,x,r,uo,xo,r',hA,hB⟩:=h
 have h:=hA.ei
 have st:=h.st
 have ux:=h.ux
 have ow:∀(q:State) (hc:Bool),e.Qw≠.closed->∀s,({ e with Qc:=hc,Qw:=q }:Zm).Qb=some s->({ e with Qc:=hc,Qw:=q }:Zm).Qw=.closed/\ZI s 4=true/\s.Ok/\s.src=a/\s.goal=b:=fun q hc z s hs=>absurd (hA.ow s hs).1 z
 have nw:e.Qc=false->¬(o.Qw=.Ql\/o.Qw=.closed):=by
  intro q z
  have:=(hA.la z).1
  have hc:=h.hc
  rcases this with v | v | v<;>rw [v] at hc<;>simp only [hcF] at hc<;>rw [q] at hc<;>cases hc
 have mk:∀q,e.Qc=false->hcF q true->stF q T.length R.length u x r->EI a b f g T R G now u x r xo { e with Qc:=true,Qw:=q }:=fun q _ k1 k2=>
  ⟨h.ours,h.Qt,h.first,h.una,h.nxt,h.beh,ux,h.rcv,h.rcvB,h.wr,h.wl,h.byt,h.come,h.cl,h.ear,h.nod,h.fin,h.ry,h.most,h.err,h.tm,h.oa,k1,k2⟩
 unfold Zcc
 by_cases c:e.Qc=true
 ·rw [if_pos c]
  exact ⟨u,x,r,uo,xo,r',hA,hB⟩
 ·rw [if_neg c]
  have hf:e.Qc=false:=by cases q:e.Qc<;>simp_all
  rw [if_neg (by simp [h1,h2])]
  by_cases c1:e.Qw=.opn
  ·rw [if_pos c1]
   rw [c1] at st
   simp only [stF] at st
   have rt:∀s∈rd,Sg b a g f R xo r' s\/(ZI s 4=true/\s.Ok/\s.src=b/\s.goal=a/\State.Qh=.Qj):=fun s hs=>(hA.road s hs).imp id fun z=>by rw [c1] at z; simp at z
   refine ⟨u,x,r,uo,xo,r',⟨mk .Qh hf rfl (by simp only [stF]; omega),hA.ur,rt,fun q=>absurd q (nw hf),hA.fr,ow .Qh true (by rw [c1]; simp)⟩,⟨hB.ei,hB.ur,hB.road,fun q=>?_,fun q=>?_,hB.ow⟩⟩
   ·simp at q
   ·simp at q
  ·rw [if_neg c1]
   by_cases c2:e.Qw=.Qk
   ·rw [if_pos c2]
    rw [c2] at st
    simp only [stF] at st
    have rt:∀s∈rd,Sg b a g f R xo r' s\/(ZI s 4=true/\s.Ok/\s.src=b/\s.goal=a/\State.Ql=.Qj):=fun s hs=>(hA.road s hs).imp id fun z=>by rw [c2] at z; simp at z
    have ry:=h.ry
    have h':=hB.ei
    have lim':=h'.lim
    have ryo:=h'.ry
    have sto:=h'.st
    refine ⟨u,x,r,uo,xo,r',⟨mk .Ql hf rfl (by simp only [stF]; omega),hA.ur,rt,fun q=>absurd q (nw hf),hA.fr,ow .Ql true (by rw [c2]; simp)⟩,⟨hB.ei,hB.ur,hB.road,fun _=>?_,fun _ s hs hf=>?_,hB.ow⟩⟩
    ·refine ⟨?_,fun q=>?_,fun q=>by simp at q⟩
     ·cases q:o.Qw<;>rw [q] at sto<;>simp only [stF] at sto<;>first | omega | simp
     ·cases z:o.Qd with
      | none=>exact absurd z q
      | some n=>
       have:=(h'.fin n z).2
       omega
    ·rcases hB.road s hs with q | q
     ·rcases q.2.2.2 with z | z | ⟨m,k,_,_,_,_,_,_,z⟩
      ·omega
      ·omega
      ·rcases z with z | z
       ·omega
       ·omega
     ·exfalso
      have w2:=q.1
      unfold ZI at w2
      rw [hf] at w2
      exact absurd w2 (by decide)
   ·rw [if_neg c2]
    by_cases c3:e.Qw=.Qf
    ·rw [if_pos c3]
     have e1:({ e with Qc:=true }:Zm)={ e with Qc:=true,Qw:=.Qf }:=by rw [<-c3]
     show Two a b f g T R G Go now { e with Qc:=true } o rd ro
     rw [e1]
     rw [c3] at st
     have rt:∀s∈rd,Sg b a g f R xo r' s\/(ZI s 4=true/\s.Ok/\s.src=b/\s.goal=a/\State.Qf=.Qj):=fun s hs=>(hA.road s hs).imp id fun z=>by rw [c3] at z; simp at z
     refine ⟨u,x,r,uo,xo,r',⟨mk .Qf hf trivial st,hA.ur,rt,fun q=>absurd q (nw hf),hA.fr,ow .Qf true (by rw [c3]; simp)⟩,⟨hB.ei,hB.ur,hB.road,fun q=>?_,fun q=>?_,hB.ow⟩⟩
     ·simp at q
     ·simp at q
    ·rw [if_neg c3]
     exact ⟨u,x,r,uo,xo,r',hA,hB⟩
theorem two_new {act:Bool} (ha:0<=a/\a<=65535) (hb:0<=b/\b<=65535) (hf:0<=f/\f<=4294967295) (hg:0<=g/\g<=4294967295):Two a b f g [] [] [] [] 0 (Zae a b f true) (Zae b a g act) [] []:=by
 have mk:∀(a b f g:Int) (act:Bool),(0<=a/\a<=65535)->(0<=b/\b<=65535)->(0<=f/\f<=4294967295)->EI a b f g [] [] [] 0 0 0 0 0 (Zae a b f act):=by
  intro a b f g act ha hb hf
  refine ⟨⟨rfl,ha⟩,⟨rfl,hb⟩,⟨rfl,hf⟩,(ZgA hf).symm,(ZgA hf).symm,rfl,Yb _,fun z=>by omega,by simp [Zae],rfl,by simp [Zae],fun z hz=>by simp at hz,rfl,by simp [Zae],fun p hp=>by simp [Zae] at hp,by simp [Zae],fun n hn=>by simp [Zae] at hn,Yb _,by simp [Zae],rfl,⟨by simp [Zae],by simp [Zae],by simp [Zae],.inl rfl⟩,fun z=>by simp [Zae] at z,?_,?_⟩
  ·cases act<;>simp [Zae,hcF]
  ·cases act<;>simp [Zae,stF]
 have la:∀(a b f:Int) (act:Bool) (e:Zm),La (Zae a b f act) e:=by
  intro a b f act e q
  cases act<;>simp [Zae] at q
 refine ⟨0,0,0,0,0,0,⟨mk a b f g true ha hb hf,Yb _,fun s hs=>by simp at hs,la _ _ _ _ _,fun _ s hs=>by simp at hs,fun s hs=>by simp [Zae] at hs⟩,⟨mk b a g f act hb ha hg,Yb _,fun s hs=>by simp at hs,la _ _ _ _ _,fun _ s hs=>by simp at hs,fun s hs=>by simp [Zae] at hs⟩⟩
theorem Two.good (h:Two a b f g T R G Go now e o rd ro):G=R.take G.length/\e.error=.none:=by
 obtain ⟨u,x,r,uo,xo,r',hA,hB⟩:=h
 refine ⟨?_,hA.ei.err⟩
 have:=hA.ei.come
 have l:=congrArg (List.take G.length) this
 rw [List.take_left'] at l
 ·rw [List.take_take] at l
  have ll:=congrArg List.length this
  rw [Yj,Yy] at ll
  rw [Jd (by omega)] at l
  exact l
 ·rfl
end
noncomputable def b1 (b:Bool):Nat:=if b=true then 1 else 0
noncomputable def lft (n:Nat) (now:Int) (x:Nat) (e:Zm):Nat:=b1 e.Qb.isSome+b1 (zv e now)+(n+2-x)+b1 e.Qe+b1 e.Qa
section
variable {a b f g:Int} {T R G:List Int} {now:Int} {u x r y:Nat} {e:Zm}
theorem ZuE (h:EI a b f g T R G now u x r y e):lft T.length now x e<=70:=by
 have wl:=h.wl
 rw [h.wr,Yv] at wl
 have ux:=h.ux
 have z:∀b:Bool,b1 b<=1:=fun b=>by cases b<;>decide
 have h1:=z e.Qb.isSome
 have h2:=z (zv e now)
 have h3:=z e.Qe
 have h4:=z e.Qa
 unfold lft
 omega
def ZAd (n:Nat) (now:Int) (f:Int) (x:Nat) (e:Zm) (z:Option Seg×Zm):Prop:=∀s,z.1=some s->∃x':Nat,z.2.nxt=Zy f (x':Int)/\x'<=n+2/\lft n now x' z.2<lft n now x e
theorem Zhu {w t:Int} (hw:1000<=w) (e:Zm):zv { e with Qq:=now,wait:=w,Qp:=t } now=false:=by
 unfold zv
 exact decide_eq_false (by show ¬w<=now-now; omega)
theorem ZwI (b:Bool):b1 b<=1:=by cases b<;>decide
theorem ZfL (h:EI a b f g T R G now u x r y e) (hN:T.length<=5000) {room:Int} (hr:0<room) (hm:zE e=true):∃x',x<x'/\x'<=T.length+2/\(Zas e room).2={ e with Qo:=false,nxt:=Zy f x' }:=by
 have un:=h.uns hN
 have lim:=h.lim
 have mo:=Zjm h
 unfold Zas
 by_cases c:Zat e=true
 ·rw [if_pos c]
  unfold Zat at c
  rw [Yt,decide_eq_true_eq,decide_eq_true_eq] at c
  have nm:∃k:Nat,ZcB { e with Qo:=false } room=(k:Int)/\1<=k/\k<=16/\x+k<=T.length+1:=by
   have e1:Zb9 { e with Qo:=false }=1+(T.length:Int)-x:=un
   have e2:ZL { e with Qo:=false }=ZL e:=rfl
   have c2:=c.2
   refine ⟨(ZcB { e with Qo:=false } room).toNat,?_⟩
   unfold ZcB mn3
   rw [e1,e2]
   split<;>split<;>omega
  obtain ⟨k,hk,k1,k2,k3⟩:=nm
  refine ⟨x+k,by omega,by omega,?_⟩
  have pn:Zy e.nxt k=Zy f ((x+k:Nat):Int):=by rw [h.nxt,Zbt]; congr 1; try omega
  unfold Zef
  rw [hk]
  show ({ e with Qo:=false,nxt:=Zy e.nxt k }:Zm)=_
  rw [pn]
 ·rw [if_neg c]
  unfold zE at hm
  rw [YO] at hm
  have c':=hm.resolve_left c
  unfold hasNewFin at c'
  rw [Yt,decide_eq_true_eq,decide_eq_true_eq] at c'
  have c2:=c'.2
  have xn:x=T.length+1:=by omega
  have pn:Zy e.nxt 1=Zy f ((x+1:Nat):Int):=by rw [h.nxt,Zbt]; congr 1
  refine ⟨x+1,by omega,by omega,?_⟩
  unfold ZgF
  show ({ e with Qo:=false,nxt:=Zy e.nxt 1 }:Zm)=_
  rw [pn]
theorem Zk9 (h:EI a b f g T R G now u x r y e) (hN:T.length<=5000) (hn:0<=now/\now<=30000):ZAd T.length now f x e (z8 e now):=by
 have lim:=h.lim
 have ux:=h.ux
 obtain ⟨t1,t2,t3,t4⟩:=h.tm
 have dl:∀b:Bool,b1 b<=1:=ZwI
 intro s hs
 unfold z8 at hs ⊢
 cases q:e.Qb with
 | some s0=>
  rw [q] at hs
  simp only
  refine ⟨x,h.nxt,lim.2.1,?_⟩
  unfold lft
  rw [q]
  show b1 none.isSome+b1 (zv e now)+_+b1 e.Qe+b1 e.Qa<_
  simp [b1]
  try omega
 | none=>
  rw [q] at hs
  simp only at hs ⊢
  rw [if_neg (show ¬(e.Qw=.Qj/\120000<=now-e.Qq) by omega)] at hs ⊢
  by_cases c:e.Qw=.closed\/e.Qw=.Qu
  ·rw [if_pos c] at hs
   cases hs
  ·rw [if_neg c] at hs ⊢
   by_cases c2:¬e.nxt=e.una/\zv e now=true
   ·rw [if_pos c2] at hs ⊢
    have hd':e.wait<=now-e.Qq:=of_decide_eq_true c2.2
    obtain ⟨t6,tm⟩:=ZjN h.tm hn.2 hd'
    have tm3:=tm.2.2.1
    have nd:zv { e with Qp:=e.Qp+1,wait:=mn (2*e.wait) 16000,Qq:=now } now=false:=Zhu tm3 e
    unfold again at hs ⊢
    rw [if_neg t6] at hs ⊢
    by_cases c3:e.Qw=.Qg\/e.Qw=.Qf
    ·simp only [if_pos c3] at hs ⊢
     refine ⟨x,h.nxt,lim.2.1,?_⟩
     unfold lft
     have nd':zv { e with Qp:=e.Qp+1,wait:=mn (2*e.wait) 16000,Qq:=now,Qe:=false } now=false:=nd
     rw [nd',q,c2.2]
     show b1 none.isSome+b1 false+_+b1 false+b1 e.Qa<_
     have:=dl e.Qe
     simp [b1]
     omega
    ·simp only [if_neg c3] at hs ⊢
     refine ⟨x,h.nxt,lim.2.1,?_⟩
     unfold lft
     rw [nd,q,c2.2]
     show b1 none.isSome+b1 false+_+b1 e.Qe+b1 e.Qa<_
     simp [b1]
   ·rw [if_neg c2] at hs ⊢
    unfold ZcC at hs ⊢
    cases q1:zh e now with
    | mk o1 e1=>
     rw [q1] at hs
     cases o1 with
     | some s1=>
      simp only at hs ⊢
      unfold zh at q1
      by_cases c3:e.Qw=.Qg\/e.Qw=.Qf
      ·rw [if_pos c3] at q1
       by_cases c4:e.nxt=e.first\/e.Qe=true
       ·rw [if_pos c4] at q1
        have e1E:e1=(ZdK e now).2:=by cases q1; rfl
        subst e1E
        have st:=h.st
        have x1:x<=1:=by
         rcases c3 with z | z<;>rw [z] at st<;>simp only [stF] at st<;>omega
        have drop:(x=0\/e.Qe=true):=c4.imp (fun z=>(h.x0 hN).mp z) id
        refine ⟨1,?_,by omega,?_⟩
        ·unfold ZdK
         split<;>(show Zy e.first 1=_; rw [h.first.1]; try rfl)
        ·unfold ZdK lft
         by_cases c5:e.nxt=e.una
         ·simp only [if_pos c5]
          have nd:zv { startTimer e now with nxt:=Zy e.first 1,Qe:=false } now=false:=by
           unfold zv startTimer
           exact decide_eq_false (by show ¬(1000:Int)<=now-now; omega)
          rw [nd]
          show b1 e.Qb.isSome+b1 false+_+b1 false+b1 e.Qa<_
          rcases drop with z | z
          ·simp [b1]; omega
          ·rw [z]; simp [b1]; omega
         ·simp only [if_neg c5]
          show b1 e.Qb.isSome+b1 (zv e now)+_+b1 false+b1 e.Qa<_
          rcases drop with z | z
          ·simp [b1]; omega
          ·rw [z]; simp [b1]; omega
       ·rw [if_neg c4] at q1
        cases q1
      ·rw [if_neg c3] at q1
       by_cases c4:e.wnd-Z3 e.nxt e.una<=0\/zE e=false
       ·rw [if_pos c4] at q1
        cases q1
       ·rw [if_neg c4] at q1
        have c4':0<e.wnd-Z3 e.nxt e.una/\zE e=true:=by
         constructor
         ·have:=fun z=>c4 (.inl z); omega
         ·cases z:zE e with
          | true=>rfl
          | false=>exact absurd (.inr z) c4
        by_cases c5:e.nxt=e.una
        ·simp only [if_pos c5] at q1
         have h1:=h.tim (oa:=false) (os:=e.Qe) (pr:=e.Qo) (si:=now) (w:=1000) (t:=0) (by simp) (Zfk ⟨hn.1,YL _⟩ (by omega))
         obtain ⟨x',p1,p2,p3⟩:=ZfL h1 hN c4'.1 c4'.2
         have e1E:e1={ e with Qa:=false,Qo:=false,nxt:=Zy f x',Qq:=now,wait:=1000,Qp:=0 }:=by cases q1; exact p3
         subst e1E
         refine ⟨x',rfl,p2,?_⟩
         unfold lft
         have nd:zv { e with Qa:=false,Qo:=false,nxt:=Zy f x',Qq:=now,wait:=1000,Qp:=0 } now=false:=Zhu (w:=1000) (t:=0) (by omega) e
         rw [nd]
         show b1 e.Qb.isSome+b1 false+_+b1 e.Qe+b1 false<_
         simp [b1]
         omega
        ·simp only [if_neg c5] at q1
         have h1:=h.tim (oa:=false) (os:=e.Qe) (pr:=e.Qo) (si:=e.Qq) (w:=e.wait) (t:=e.Qp) (by simp) h.tm
         obtain ⟨x',p1,p2,p3⟩:=ZfL h1 hN c4'.1 c4'.2
         have e1E:e1={ e with Qa:=false,Qo:=false,nxt:=Zy f x' }:=by cases q1; exact p3
         subst e1E
         refine ⟨x',rfl,p2,?_⟩
         unfold lft
         show b1 e.Qb.isSome+b1 (zv e now)+_+b1 e.Qe+b1 false<_
         have h0:b1 false=0:=rfl
         rw [h0]
         omega
     | none=>
      obtain ⟨w1,w2⟩:=Zke (e:=e) (now:=now) (by rw [q1])
      rw [q1] at w1
      cases w1
      simp only at hs ⊢
      cases q2:Z0 e now with
      | mk o2 e2=>
       rw [q2] at hs
       cases o2 with
       | some s2=>
        simp only at hs ⊢
        unfold Z0 at q2
        by_cases c3:¬e.nxt=e.una\/¬e.wnd=0\/zE e=false
        ·rw [if_pos c3] at q2
         cases q2
        ·rw [if_neg c3] at q2
         have hm:zE e=true:=by
          cases z:zE e with
          | true=>rfl
          | false=>exact absurd (.inr (.inr z)) c3
         by_cases c4:e.Qo=true
         ·simp only [if_pos c4] at q2
          by_cases c5:zv e now=true
          ·rw [if_pos c5] at q2
           have h1:=h.tim (oa:=e.Qa) (os:=e.Qe) (pr:=e.Qo) (si:=now) (w:=e.wait) (t:=e.Qp) h.oa (Zja h.tm)
           obtain ⟨x',p1,p2,p3⟩:=ZfL h1 hN (by decide:(0:Int)<1) hm
           have e2E:e2={ e with Qo:=false,nxt:=Zy f x',Qq:=now }:=by cases q2; exact p3
           subst e2E
           refine ⟨x',rfl,p2,?_⟩
           unfold lft
           have nd:zv { e with Qo:=false,nxt:=Zy f x',Qq:=now } now=false:=by
            unfold zv
            exact decide_eq_false (by show ¬e.wait<=now-now; omega)
           rw [nd]
           show b1 e.Qb.isSome+b1 false+_+b1 e.Qe+b1 e.Qa<_
           simp [b1]
           omega
          ·rw [if_neg c5] at q2
           cases q2
         ·simp only [if_neg c4] at q2
          have nd:zv (startTimer { e with Qo:=true } now) now=false:=Zhu (w:=1000) (t:=0) (by omega) { e with Qo:=true }
          rw [nd,if_neg (by simp)] at q2
          cases q2
       | none=>
        simp only at hs ⊢
        have e2E:∃pr si w t,e2={ e with Qo:=pr,Qq:=si,wait:=w,Qp:=t }/\(zv e2 now=true->zv e now=true):=by
         unfold Z0 at q2
         by_cases c3:¬e.nxt=e.una\/¬e.wnd=0\/zE e=false
         ·rw [if_pos c3] at q2
          cases q2
          exact ⟨false,e.Qq,e.wait,e.Qp,rfl,id⟩
         ·rw [if_neg c3] at q2
          by_cases c4:e.Qo=true
          ·simp only [if_pos c4] at q2
           by_cases c5:zv e now=true
           ·rw [if_pos c5] at q2
            cases q2
           ·rw [if_neg c5] at q2
            cases q2
            exact ⟨e.Qo,e.Qq,e.wait,e.Qp,rfl,id⟩
          ·simp only [if_neg c4] at q2
           have nd:zv (startTimer { e with Qo:=true } now) now=false:=Zhu (w:=1000) (t:=0) (by omega) { e with Qo:=true }
           rw [nd,if_neg (by simp)] at q2
           cases q2
           exact ⟨true,now,1000,0,rfl,fun z=>by rw [nd] at z; cases z⟩
        obtain ⟨pr,si,w,t,hE,hd⟩:=e2E
        unfold Zal at hs ⊢
        by_cases c3:e2.Qa=true
        ·rw [if_pos c3]
         refine ⟨x,by rw [hE]; exact h.nxt,lim.2.1,?_⟩
         have oa:e.Qa=true:=by rw [hE] at c3; exact c3
         have dd:b1 (zv { e2 with Qa:=false } now)<=b1 (zv e now):=by
          have e3:zv { e2 with Qa:=false } now=zv e2 now:=rfl
          rw [e3]
          cases z:zv e2 now with
          | false=>exact YG _
          | true=>rw [hd z]; exact Yb _
         have o1:({ e2 with Qa:=false }:Zm).Qb=e.Qb:=by rw [hE]
         have o2:({ e2 with Qa:=false }:Zm).Qe=e.Qe:=by rw [hE]
         unfold lft
         show b1 ({ e2 with Qa:=false }:Zm).Qb.isSome+b1 (zv { e2 with Qa:=false } now)+(T.length+2-x)+b1 ({ e2 with Qa:=false }:Zm).Qe+b1 false<_
         generalize b1 (zv { e2 with Qa:=false } now)=v1 at dd ⊢
         rw [o1,o2,oa]
         have z0:b1 false=0:=rfl
         have z1:b1 true=1:=rfl
         rw [z0,z1]
         omega
        ·rw [if_neg c3] at hs
         cases hs
end
end
end My
namespace L2.MM
open PySem PySem.Spec PyProof.Rows
noncomputable def ZtX:Stmt->List Stmt
 | .If _ b _ _=>b
 | .For _ _ b _ _=>b
 | .While _ b _ _=>b
 | _=>[]
noncomputable def ZkU:Stmt->List Stmt
 | .If _ _ b _=>b
 | _=>[]
noncomputable section
open Classical in
def Zc0 (S:Src) (all:List D) (tst:D->Sto->R Bool) (elt:D->Sto->R D):List D->List D->Sto->R D
 | [],acc,θ=>if S.items θ=some all/\acc.length<=BIG then .ok (.ref θ.length) (θ++[.lst acc]) else .bad
 | x::r,acc,θ=>if S.items θ=some all then (tst x θ).bind fun b θ=>if b=true then (elt x θ).bind fun y θ=>Zc0 S all tst elt r (acc++[y]) θ else Zc0 S all tst elt r acc θ else .bad
def Zdx (fi:IM) (src:List Nat) (tst:TMr) (elt:EM):EM:=fun ρ θ=>(fi ρ θ).bind fun S θ=>match S.items θ with
 | some xs=>if xs.length<=BIG then Zc0 S xs (fun x θ=>tst (inEnv src ρ x) θ) (fun x θ=>elt (inEnv src ρ x) θ) xs [] θ else .bad
 | none=>.bad
section
variable {X:Cx}
open Classical in
theorem Zmj {fi:IM} {src:List Nat} {tst:TMr} {elt:EM} (σ:St) (H:Hp) (Q:VK) (h:tM X (Zdx fi src tst elt) σ H Q):ZvH (tMI X fi) src (tMT X tst) (tM X elt) σ H Q:=by
 obtain ⟨B,θ,ρ,F,w⟩:=h
 refine ⟨B,θ,ρ,F,(wpR.bind (Rel:=SrcRep X.K) w).mono ?_⟩
 rintro J H1 ⟨B1,θ1,S,E1,G1,rJ,w1⟩
 split at w1
 ·rename_i xs e1
  split at w1
  ·rename_i hz
   refine ⟨xs.length,fun i ys H'=>∃B' θ' acc,ExtE B1 B' H1 H'/\Good X.cl B' θ' H'/\RepL B' H' acc ys/\wpR X σ RepV B' H' (Zc0 S xs (fun x θ=>tst (inEnv src ρ x) θ) (fun x θ=>elt (inEnv src ρ x) θ) (xs.drop i) acc θ') Q,zR hz,?_,?_,?_⟩
   ·exact ⟨B1,θ1,[],ExtE.refl _ _,G1,rfl,w1⟩
   ·rintro i ys H' hi ⟨B2,θ2,acc,E2,G2,racc,w2⟩
    rw [Yz hi] at w2
    unfold Zc0 at w2
    split at w2
    ·rename_i e2
     obtain ⟨g1,g2⟩:=(Zgw G2 (rJ.ext E2.toExtS) e2).1 i xs[i] (List.getElem?_eq_getElem hi)
     refine ⟨g1,fun y H3 hy=>?_⟩
     obtain ⟨rfl,ry⟩:=g2 y H3 hy
     have F2:=(F.ext (E1.trans E2) G2).inner src ry
     refine ⟨B2,θ2,_,F2,(wpR.bind (Rel:=EqB) w2).mono ?_⟩
     rintro b H4 ⟨B4,θ4,d,E4,G4,rd,w4⟩
     cases (show d=b from rd)
     cases b with
     | true=>
      rw [if_pos rfl] at w4 ⊢
      have F4:=F2.ext E4 G4
      refine ⟨B4,θ4,_,F4,(wpR.bind (Rel:=RepV) w4).mono ?_⟩
      rintro z H5 ⟨B5,θ5,d5,E5,G5,rd5,w5⟩
      exact ⟨B5,θ5,acc++[d5],(E2.trans E4).trans E5,G5,(racc.ext (E4.trans E5).toExtS).app ⟨z,[],rfl,rd5,rfl⟩,w5⟩
     | false=>
      rw [if_neg (by decide)] at w4 ⊢
      exact ⟨B4,θ4,acc,E2.trans E4,G4,racc.ext E4.toExtS,w4⟩
    ·exact w2.elim
   ·rintro ys H' ⟨B2,θ2,acc,E2,G2,racc,w2⟩
    rw [YT] at w2
    unfold Zc0 at w2
    split at w2
    ·rename_i e2
     exact ⟨(Zgw G2 (rJ.ext E2.toExtS) e2.1).2,Zll G2 racc w2⟩
    ·exact w2.elim
  ·exact w1.elim
 ·exact w1.elim
theorem Zq9 {x:Str} {px pos:Pos} {iter elt tst:Expr} {scope:Scope} {N':List Str} {src:List Nat} {sc:Scope} {N:List Str} {fi:IM} {ft:TMr} {fe:EM} (S:Zam scope sc x N N' src) (hsc:X.env.scope=sc) (hN:X.N=N) (hi:MI X (.Name x px) iter fi)
  (helt:∀(cl:List (Str×Addr)) (C:Addr) (s₀:Shared) (H₀:Hp) (fp:List Addr),MT (X.comp scope N' cl C s₀ H₀ fp) tst ft/\ME (X.comp scope N' cl C s₀ H₀ fp) elt fe) (hcm:X.calm=true:=by rfl) (hs:∀v,foldedSetIterable iter X.env v=pure v:=by intro _; rfl) :
  ME X (.ListComp elt [⟨.Name x px,iter,[tst],0⟩] scope pos) (Zdx fi src ft fe):=
 PE.imp (Zul (te:=tM X fe) (tc:=tMT X ft) S hsc hN hi (fun cl C s₀ H₀ fp=>(helt cl C s₀ H₀ fp).2) (fun cl C s₀ H₀ fp=>(helt cl C s₀ H₀ fp).1) hcm hs) Zmj
noncomputable def ZlS (fo fe:EM):EM:=fun ρ θ=>(fo ρ θ).bind fun d θ=>match ZfM θ d with
 | none=>.bad
 | some _=>(fe ρ θ).bind fun y θ=>match y,ZfM θ d with
  | .int i,some (l,xs)=>if 0<=i/\i<1000000 then (match xs[i.toNat]? with
   | some z=>.ok z (θ.set l (.lst (xs.eraseIdx i.toNat)))
   | none=>.bad) else .bad
  | _,_=>.bad
theorem RepL.at {B:Bx} {H:Hp}:∀{ds:List D} {vs:List V} {k:Nat} {d:D},RepL B H ds vs->ds[k]?=some d->∃v,vs[k]?=some v/\RepV B H d v
 | [],_,_,_,_,h=>by cases h
 | x::ds,_,0,d,⟨v,vs,rfl,r1,r2⟩,h=>by cases h; exact ⟨v,rfl,r1⟩
 | x::ds,_,k+1,d,⟨v,vs,rfl,r1,r2⟩,h=>by
  obtain ⟨v',a,b⟩:=RepL.at (ds:=ds) (vs:=vs) (k:=k) r2 (by simpa using h)
  exact ⟨v',by simpa using a,b⟩
theorem RepL.erase {B:Bx} {H:Hp}:∀{ds:List D} {vs:List V} (k:Nat),RepL B H ds vs->RepL B H (ds.eraseIdx k) (vs.eraseIdx k)
 | [],_,_,r=>by cases (show _=[] from r); exact rfl
 | x::ds,_,0,⟨v,vs,rfl,r1,r2⟩=>r2
 | x::ds,_,k+1,⟨v,vs,rfl,r1,r2⟩=>⟨v,vs.eraseIdx k,rfl,r1,RepL.erase (ds:=ds) k r2⟩
theorem Zq7 {o e:Expr} {fo fe:EM} {apos pos:Pos} (hpe:PE X (.Call (.Attribute o "pop" apos) [e] [] pos) (tBM X.K "list" Znu (tM X fo) (Zlv (tM X fe) Zni))):ME X (.Call (.Attribute o "pop" apos) [e] [] pos) (ZlS fo fe):=by
 refine PE.imp hpe fun σ H Q h=>?_
 obtain ⟨B,θ,ρ,F,w⟩:=h
 refine ZK (step F w) ?_
 rintro v H1 ⟨B1,θ1,d,E1,F1,rd,w1⟩
 split at w1
 ·exact w1.elim
 ·rename_i q ed
  obtain ⟨l,xs⟩:=q
  obtain ⟨hl,rfl,vs,h1,h2⟩:=Zge F1.good rd ed
  refine ⟨.inl ⟨rfl,vs,SqL.of h1⟩,?_⟩
  refine ZK (step F1 w1) ?_
  rintro y H2 ⟨B2,θ2,dy,E2,F2,ry,w2⟩
  split at w2
  ·rename_i i l2 xs2 ed2
   obtain ⟨hl2,e2,vs2,h3,h4⟩:=Zge F2.good (rd.ext E2.toExtS) ed2
   have e3:B1.m l=B2.m l2:=by injection e2
   cases (show y=.int i from ry)
   split at w2
   ·rename_i hi
    split at w2
    ·rename_i z hz
     obtain ⟨vz,hv,rz⟩:=h4.at hz
     have kl:i.toNat<vs2.length:=(Ye.mp hv).1
     refine ⟨B1.m l,vs2,i,i.toNat,vz,rfl,rfl,by rw [e3]; exact h3,by omega,by omega,?_,hv,?_⟩
     ·unfold seqIndex?
      simp
      omega
     ·rw [e3]
      have E4:=ZcY F2.good hl2 (.lst (vs2.eraseIdx i.toNat))
      have G4:=ZcK F2.good hl2 (o:=.lst (vs2.eraseIdx i.toNat)) (c:=.lst (xs2.eraseIdx i.toNat)) ⟨_,Z9,(h4.erase i.toNat).ext E4.toExtS⟩
      exact w2 _ _ _ E4 G4 (rz.ext E4.toExtS)
    ·exact w2.elim
   ·exact w2.elim
  ·exact w2.elim
noncomputable def ZgY:List EM->AM
 | []=>Zi
 | f::r=>Zc f (ZgY r)
noncomputable def ZhP (kes:List (Str×EM)):EM:=fun ρ θ=>(ZgY (kes.map (·.2)) ρ (θ++[.dK []])).bind fun vs θ'=>match dkOf θ' (.ref θ.length) with
 | some (_,[])=>.ok (.ref θ.length) (θ'.set θ.length (.dK ((kes.map fun p=>(Sum.inr p.1:Key)).zip vs)))
 | _=>.bad
noncomputable def trM (X:Cx) (kes:List (Str×EM)):List (TE×TE):=kes.map fun p=>(tC (.str p.1),tM X p.2)
theorem R.bind_bind {α β γ:Type} (r:R α) (f:α->Sto->R β) (g:β->Sto->R γ):(r.bind f).bind g=r.bind fun a θ=>(f a θ).bind g:=by
 cases r<;>rfl
theorem ZlE {ρ:List Sl} {σ:St} {Q:VK}:∀(kes:List (Str×EM)) (k:List D->Sto->R D) (B:Bx) (θ:Sto) (H:Hp) (Z:List (V×V)->Hp->Prop),Frm X.cl B θ ρ σ H->wpR X σ RepV B H ((ZgY (kes.map (·.2)) ρ θ).bind k) Q->
  (∀B2 θ2 ds vs H2,ExtE B B2 H H2->Frm X.cl B2 θ2 ρ σ H2->RepL B2 H2 ds vs->vs.length=kes.length->wpR X σ RepV B2 H2 (k ds θ2) Q->Z (((kes.map (·.1)).zip vs).map fun p=>(V.str p.1,p.2)) H2)->Zjb (trM X kes) σ H Z
 | [],k,B,θ,H,Z,F,w,hZ=>hZ B θ [] [] H (ExtE.refl _ _) F rfl rfl w
 | (x,f)::kes,k,B,θ,H,Z,F,w,hZ=>by
  have w':wpR X σ RepV B H ((f ρ θ).bind fun d θ=>((ZgY (kes.map (·.2)) ρ θ).bind fun ds θ=>k (d::ds) θ)) Q:=by
   have e:(ZgY (((x,f)::kes).map (·.2)) ρ θ).bind k=(f ρ θ).bind fun d θ=>((ZgY (kes.map (·.2)) ρ θ).bind fun ds θ=>k (d::ds) θ):=by
    show (Zc f (ZgY (kes.map (·.2))) ρ θ).bind k=_
    unfold Zc
    rw [R.bind_bind]
    congr 1
    funext d θ'
    rw [R.bind_bind]
    rfl
   rw [<-e]
   exact w
  show tM X f σ H _
  refine ZK (step F w') ?_
  rintro y H1 ⟨B1,θ1,d,E1,F1,rd,w1⟩
  refine ZlE kes (fun ds θ=>k (d::ds) θ) B1 θ1 H1 _ F1 w1 ?_
  intro B2 θ2 ds vs H2 E2 F2 rl hl w2
  exact hZ B2 θ2 (d::ds) (y::vs) H2 (E1.trans E2) F2 ⟨y,vs,rfl,rd.ext E2.toExtS,rl⟩ (by rw [Yc,Yc,hl]) w2
theorem Zkj:∀(ks:List Str) (vs:List V) (acc:List (Key×V)),(ks.Pairwise (·≠·))->(∀x∈ks,∀p∈acc,p.1≠Sum.inr x)->Zde acc ((ks.map fun x=>(Sum.inr x:Key)).zip vs)=acc++(ks.map fun x=>(Sum.inr x:Key)).zip vs
 | [],vs,acc,_,_=>by simp [Zde]
 | x::ks,[],acc,_,_=>by simp [Zde]
 | x::ks,v::vs,acc,hp,hd=>by
  rw [List.pairwise_cons] at hp
  have hno:(acc.any fun kv=>decide (kv.1=Sum.inr x))=false:=by
   rw [List.any_eq_false]
   intro p hpm
   simpa using hd x (Ys) p hpm
  have e:Zde acc (((x::ks).map fun x=>(Sum.inr x:Key)).zip (v::vs))=Zde (acc++[(Sum.inr x,v)]) ((ks.map fun x=>(Sum.inr x:Key)).zip vs):=by
   show Zde (ZcG acc (Sum.inr x) v) _=_
   unfold ZcG
   rw [hno]
   rfl
  rw [e,Zkj ks vs _ hp.2 ?_]
  ·simp
  ·intro y hy p hpm
   rcases Yw.mp hpm with q | q
   ·exact hd y (Yo _ hy) p q
   ·rw [Jg] at q
    subst q
    intro z
    exact hp.1 y hy (Sum.inr.inj z)
theorem Zlz {B:Bx} {H:Hp}:∀(ks:List Key) {ds:List D} {vs:List V},RepL B H ds vs->RepKV B H (ks.zip ds) (ks.zip vs)
 | [],_,_,_=>by simp only [List.zip_nil_left]; exact .nil
 | k::ks,[],_,r=>by cases (show _=[] from r); simp only [List.zip_nil_right]; exact .nil
 | k::ks,d::ds,_,⟨v,vs,rfl,r1,r2⟩=>.cons ⟨rfl,r1⟩ (Zlz ks r2)
theorem Zm0:∀(ks:List Str) (vs:List V),((ks.zip vs).map fun p=>(V.str p.1,p.2))=(((ks.map fun x=>(Sum.inr x:Key)).zip vs).map fun kv=>(kV kv.1,kv.2))
 | [],_=>by simp
 | k::ks,[]=>by simp
 | k::ks,v::vs=>by
  have:=Zm0 ks vs
  simp only [Yf,List.zip_cons_cons]
  rw [this]
  rfl
theorem Zn6 (kes:List (Str×EM)) {keys:List (Option Expr)} {values:List Expr} {pos:Pos} (hp:PPs X pos keys values (trM X kes)) (hnd:(kes.map (·.1)).Pairwise (·≠·)) (hall:keys.all (·.isSome)=true) (hl:keys.length=values.length) (h0:keys≠[]) (h15:keys.length<=15) (hk:kes.length<=15):ME X (.Dict keys values pos) (ZhP kes):=by
 refine PE.imp (ZqU hp hall hl h0 h15) fun σ H Q h=>?_
 obtain ⟨B,θ,ρ,F,w⟩:=h
 intro p hp0
 have G:=F.good
 have E0:=ZdY G hp0 (.dK [])
 have G0:Good X.cl (B.push p) (θ++[.dK []]) (upd H p (.dK [])):=Zfq G hp0 ⟨[],Z9,.nil⟩
 have F0:=F.ext E0 G0
 have r0:RepV (B.push p) (upd H p (.dK [])) (.ref θ.length) (.ref p):=⟨by rw [G.len]; exact YC _,by rw [G.len]; show V.ref p=V.ref (if B.n=B.n then p else B.m B.n); rw [if_pos rfl]⟩
 have w0:=w.trans E0
 unfold ZhP at w0
 refine ZlE kes _ (B.push p) (θ++[.dK []]) _ _ F0 w0 ?_
 intro B2 θ2 ds vs H2 E2 F2 rl hlen w2
 split at w2
 ·rename_i l ed
  obtain ⟨hl2,e2,vs2,h3,h4⟩:=ZdB F2.good (r0.ext E2.toExtS) ed
  cases h4
  have el:θ.length=l:=by
   have ed':=ed
   simp only [dkOf] at ed'
   split at ed'
   ·injection ed' with q
    injection q
   ·cases ed'
  subst el
  have e3:p=B2.m θ.length:=by injection e2
  refine ⟨by rw [e3]; exact h3,(kes.map fun p=>(Sum.inr p.1:Key)).zip vs,?_,?_,?_⟩
  ·have:(kes.map fun p=>(Sum.inr p.1:Key))=(kes.map (·.1)).map fun x=>(Sum.inr x:Key):=by rw [Je]; rfl
   rw [this]
   exact Zm0 _ _
  ·rw [List.length_zip,List.length_map]
   omega
  ·have e4:(kes.map fun p=>(Sum.inr p.1:Key))=(kes.map (·.1)).map fun x=>(Sum.inr x:Key):=by rw [Je]; rfl
   have hm:=Zkj (kes.map (·.1)) vs [] hnd (fun _ _ _ q=>by cases q)
   rw [<-e4,YW] at hm
   rw [hm,e3]
   have E4:=ZcY F2.good hl2 (.dK ((kes.map fun p=>(Sum.inr p.1:Key)).zip vs))
   have G4:=ZcK F2.good hl2 (o:=.dK ((kes.map fun p=>(Sum.inr p.1:Key)).zip vs)) (c:=.dK ((kes.map fun p=>(Sum.inr p.1:Key)).zip ds)) ⟨_,Z9,Zlz _ (rl.ext E4.toExtS)⟩
   exact w2 _ _ _ E4 G4 (by rw [<-e3]; exact (r0.ext E2.toExtS).ext E4.toExtS)
 ·exact w2.elim
theorem Ziz {pos p:Pos} {j} {ks:List (Option Expr)} {vs:List Expr} {a:Str} {v:Expr} {f:EM} {kes:List (Str×EM)} (hv:ME X v f) (h:PPs X pos ks vs (trM X kes)):PPs X pos (some (.Constant (.str a) j p)::ks) (v::vs) (trM X ((a,f)::kes)):=ZnD ZnG hv h
theorem Zuc {pos:Pos}:PPs X pos [] [] (trM X []):=ZqN
end
end
end L2.MM
namespace My
open PySem L2 L2.MM
noncomputable section
noncomputable def item (p:Seg×Int):D:=.tup [il (putL p.1),.int p.2]
noncomputable def Zbk (rv:D) (now:Int):List (Key×D):=[(.inr "ends",.lst [.ref 0,.ref 4]),(.inr "roads",rv),(.inr "taken",.ref 12),(.inr "got",.ref 13),(.inr "now",.int now),(.inr "closed",.ref 14)]
structure Sta (θ:Sto) (E:Nat->Zm) (rd:Nat->List (Seg×Int)) (T G:Nat->List Int) (now:Int) (K:Nat->Nat):Prop where
 len:15<=θ.length
 e0:upE θ 0 (E 0)=θ
 e1:upE θ 4 (E 1)=θ
 dict:∃rv,θ[8]?=some (.dK (Zbk rv now))/\(rv=.ref 11/\θ[11]?=some (.lst [.ref (K 0),.ref (K 1)])\/rv=.lst [.ref (K 0),.ref (K 1)])
 r0:θ[K 0]?=some (.lst ((rd 0).map item))
 r1:θ[K 1]?=some (.lst ((rd 1).map item))
 k:K 0≠K 1/\(K 0=9\/K 0=10\/15<=K 0)/\(K 1=9\/K 1=10\/15<=K 1)
 tk:θ[12]?=some (.lst [il (T 0),il (T 1)])
 gt:θ[13]?=some (.lst [il (G 0),il (G 1)])
 cl:∃c0 c1,θ[14]?=some (.lst [c0,c1])
section
variable {rv:D} {now:Int}
theorem ZtD:valD (Zbk rv now) (.inr "ends")=some (.lst [.ref 0,.ref 4]):=by simp [valD,Zbk]
theorem nr1:¬("ends":Str) = "roads":=by decide +kernel
theorem nt1:¬("ends":Str) = "taken":=by decide +kernel
theorem nt2:¬("roads":Str) = "taken":=by decide +kernel
theorem ng1:¬("ends":Str) = "got":=by decide +kernel
theorem ng2:¬("roads":Str) = "got":=by decide +kernel
theorem ng3:¬("taken":Str) = "got":=by decide +kernel
theorem nn1:¬("ends":Str) = "now":=by decide +kernel
theorem nn2:¬("roads":Str) = "now":=by decide +kernel
theorem nn3:¬("taken":Str) = "now":=by decide +kernel
theorem nn4:¬("got":Str) = "now":=by decide +kernel
theorem nc1:¬("ends":Str) = "closed":=by decide +kernel
theorem nc2:¬("roads":Str) = "closed":=by decide +kernel
theorem nc3:¬("taken":Str) = "closed":=by decide +kernel
theorem nc4:¬("got":Str) = "closed":=by decide +kernel
theorem nc5:¬("now":Str) = "closed":=by decide +kernel
theorem nr3:¬("taken":Str) = "roads":=by decide +kernel
theorem nr4:¬("got":Str) = "roads":=by decide +kernel
theorem nr5:¬("now":Str) = "roads":=by decide +kernel
theorem nr6:¬("closed":Str) = "roads":=by decide +kernel
theorem nn6:¬("closed":Str) = "now":=by decide +kernel
theorem Zi9:valD (Zbk rv now) (.inr "roads")=some rv:=by simp [valD,Zbk,nr1]
theorem Zqe:valD (Zbk rv now) (.inr "taken")=some (.ref 12):=by simp [valD,Zbk,nt1,nt2]
theorem Zvw:valD (Zbk rv now) (.inr "got")=some (.ref 13):=by simp [valD,Zbk,ng1,ng2,ng3]
theorem Zvv:valD (Zbk rv now) (.inr "now")=some (.int now):=by simp [valD,Zbk,nn1,nn2,nn3,nn4]
theorem Zm5:valD (Zbk rv now) (.inr "closed")=some (.ref 14):=by simp [-ZfU,valD,Zbk,nc1,nc2,nc3,nc4,nc5]
theorem Zv9 (n:Int):putD (Zbk rv now) (.inr "now") (.int n)=Zbk rv n:=by simp [-ZfU,putD,Zbk,nn1,nn2,nn3,nn4,nn6]
theorem ZqY (d:D):putD (Zbk rv now) (.inr "roads") d=Zbk d now:=by simp [-ZfU,putD,Zbk,nr1,nr3,nr4,nr5,nr6]
end
section
variable {θ:Sto} {E:Nat->Zm} {rd:Nat->List (Seg×Int)} {T G:Nat->List Int} {now:Int} {K:Nat->Nat} {ρ:List Sl} {i:Nat}
theorem ZfH {l k:Nat} {e:Zm} (h:k<l\/l+3<k):(upE θ l e)[k]?=θ[k]?:=by
 unfold upE
 rw [Ya (by omega),Ya (by omega),Ya (by omega),Ya (by omega)]
theorem ZtE {l:Nat} {e:Zm}:(upE θ l e).length=θ.length:=by simp [upE]
theorem Zm7 {l k:Nat} {e:Zm} {c:Cell} (h:k<l\/l+3<k):upE (θ.set k c) l e=(upE θ l e).set k c:=by
 unfold upE
 rw [Jh _ _ (show k≠l by omega),Jh _ _ (show k≠l+1 by omega),Jh _ _ (show k≠l+2 by omega),Jh _ _ (show k≠l+3 by omega)]
theorem Sta.dk (h:Sta θ E rd T G now K):∃rv,dkOf θ (.ref 8)=some (8,Zbk rv now)/\(rv=.ref 11/\θ[11]?=some (.lst [.ref (K 0),.ref (K 1)])\/rv=.lst [.ref (K 0),.ref (K 1)]):=by
 obtain ⟨rv,h1,h2⟩:=h.dict
 exact ⟨rv,by simp [dkOf,h1],h2⟩
theorem ZgO (h:Sta θ E rd T G now K) (hi:ρ[i]?=some (.val (.ref 8))):ZZ (Zd i) (mC (.str "ends")) ρ θ=.ok (.lst [.ref 0,.ref 4]) θ:=by
 obtain ⟨rv,h1,h2⟩:=h.dk
 simp [ZZ,hi,h1,ZdX,ZtD]
theorem ZiM (h:Sta θ E rd T G now K) (hi:ρ[i]?=some (.val (.ref 8))):ZZ (Zd i) (mC (.str "now")) ρ θ=.ok (.int now) θ:=by
 obtain ⟨rv,h1,h2⟩:=h.dk
 simp [ZZ,hi,h1,ZdX,Zvv]
theorem Zht (h:Sta θ E rd T G now K) (hi:ρ[i]?=some (.val (.ref 8))):ZZ (Zd i) (mC (.str "taken")) ρ θ=.ok (.ref 12) θ:=by
 obtain ⟨rv,h1,h2⟩:=h.dk
 simp [ZZ,hi,h1,ZdX,Zqe]
theorem Zoo (h:Sta θ E rd T G now K) (hi:ρ[i]?=some (.val (.ref 8))):ZZ (Zd i) (mC (.str "got")) ρ θ=.ok (.ref 13) θ:=by
 obtain ⟨rv,h1,h2⟩:=h.dk
 simp [ZZ,hi,h1,ZdX,Zvw]
theorem Zop (h:Sta θ E rd T G now K) (hi:ρ[i]?=some (.val (.ref 8))):ZZ (Zd i) (mC (.str "closed")) ρ θ=.ok (.ref 14) θ:=by
 obtain ⟨rv,h1,h2⟩:=h.dk
 simp [ZZ,hi,h1,ZdX,Zm5,-ZfU]
theorem ZgM {j:Nat} (hj:j<2):ixM (.lst [.ref 0,.ref 4]) (.int (j:Int)) θ=.ok (.ref (4*j)) θ:=by
 have:j=0\/j=1:=by omega
 rcases this with rfl | rfl<;>rfl
theorem Zjt (h:Sta θ E rd T G now K) (hi:ρ[i]?=some (.val (.ref 8))) {j:Nat} (hj:j<2) {fe:EM} (he:fe ρ θ=.ok (.int (j:Int)) θ):mOp ixM (ZZ (Zd i) (mC (.str "roads"))) fe ρ θ=.ok (.ref (K j)) θ:=by
 obtain ⟨rv,h1,h2⟩:=h.dk
 have g:ZZ (Zd i) (mC (.str "roads")) ρ θ=.ok rv θ:=by simp [ZZ,hi,h1,ZdX,Zi9]
 have ix:ixM rv (.int (j:Int)) θ=.ok (.ref (K j)) θ:=by
  have:j=0\/j=1:=by omega
  rcases h2 with ⟨q,q2⟩ | q
  ·subst q
   have l:zK θ (.ref 11)=some [.ref (K 0),.ref (K 1)]:=by simp [zK,q2]
   rcases this with rfl | rfl<;>simp [ixM,ixD,seqOf,l]<;>rfl
  ·subst q
   rcases this with rfl | rfl<;>rfl
 simp [g,he,ix]
end
noncomputable def Zaf {α:Type} (f:Nat->α) (j:Nat) (v:α):Nat->α:=fun i=>if i=j then v else f i
theorem zi {α:Type} (f:Nat->α) (j:Nat) (v:α):Zaf f j v j=v:=if_pos rfl
theorem ZaA {α:Type} (f:Nat->α) {i j:Nat} (v:α) (h:i≠j):Zaf f j v i=f i:=if_neg h
section
variable {θ:Sto} {E:Nat->Zm} {rd:Nat->List (Seg×Int)} {T G:Nat->List Int} {now:Int} {K:Nat->Nat} {ρ:List Sl} {i j:Nat}
theorem ZrL {l:Nat} {e e':Zm} (h:l+3 < θ.length):upE (upE θ l e) l e'=upE θ l e':=by
 unfold upE
 apply List.ext_getElem?
 intro k
 simp only [YZ,Yx]
 repeat' split
 all_goals first | rfl | omega | simp_all
theorem Sta.end (h:Sta θ E rd T G now K) (hj:j<2) (e:Zm):Sta (upE θ (4*j) e) (Zaf E j e) rd T G now K:=by
 have l:=h.len
 have g:∀k,8<=k->(upE θ (4*j) e)[k]?=θ[k]?:=fun k hk=>ZfH (by omega)
 obtain ⟨k0,k1,k2⟩:=h.k
 obtain ⟨rv,d1,d2⟩:=h.dict
 obtain ⟨c0,c1,hc⟩:=h.cl
 have hE:∀e0 e1:Zm,upE θ 0 e0=θ->upE θ 4 e1=θ->(upE (upE θ (4*j) e) 0 (Zaf (fun i=>if i=0 then e0 else e1) j e 0)=upE θ (4*j) e/\upE (upE θ (4*j) e) 4 (Zaf (fun i=>if i=0 then e0 else e1) j e 1)=upE θ (4*j) e):=by
  intro e0 e1 q0 q1
  have:j=0\/j=1:=by omega
  rcases this with rfl | rfl
  ·refine ⟨ZrL (by omega),?_⟩
   show upE (upE θ 0 e) 4 e1=upE θ 0 e
   rw [Zlm (by omega),q1]
  ·refine ⟨?_,ZrL (by omega)⟩
   show upE (upE θ 4 e) 0 e0=upE θ 4 e
   rw [<-Zlm (by omega),q0]
 have:=hE (E 0) (E 1) h.e0 h.e1
 have f0:∀i,i<2->Zaf (fun i=>if i=0 then E 0 else E 1) j e i=Zaf E j e i:=by
  intro i hi
  have:i=0\/i=1:=by omega
  unfold Zaf
  rcases this with rfl | rfl<;>split<;>rfl
 rw [f0 0 (by omega),f0 1 (by omega)] at this
 refine ⟨by rw [ZtE]; exact l,this.1,this.2,⟨rv,by rw [g 8 (by omega)]; exact d1,?_⟩,by rw [g _ (by omega)]; exact h.r0,by rw [g _ (by omega)]; exact h.r1,h.k,by rw [g 12 (by omega)]; exact h.tk,by rw [g 13 (by omega)]; exact h.gt,c0,c1,by rw [g 14 (by omega)]; exact hc⟩
 rw [g 11 (by omega)]
 exact d2
theorem Sta.ends_set (h:Sta θ E rd T G now K) {k:Nat} (hk:8<=k) (c:Cell):upE (θ.set k c) 0 (E 0)=θ.set k c/\upE (θ.set k c) 4 (E 1)=θ.set k c:=by
 rw [Zm7 (by omega),Zm7 (by omega),h.e0,h.e1]
 exact ⟨rfl,rfl⟩
theorem Sta.road (h:Sta θ E rd T G now K) (hj:j<2) (q:List (Seg×Int)):Sta (θ.set (K j) (.lst (q.map item))) E (Zaf rd j q) T G now K:=by
 obtain ⟨k0,k1,k2⟩:=h.k
 obtain ⟨rv,d1,d2⟩:=h.dict
 obtain ⟨c0,c1,hc⟩:=h.cl
 have l:=h.len
 have kj:9<=K j/\K j≠11/\K j≠12/\K j≠13/\K j≠14:=by
  have:j=0\/j=1:=by omega
  rcases this with rfl | rfl<;>omega
 have lt:∀i,i<2->K i < θ.length:=by
  intro i hi
  have:i=0\/i=1:=by omega
  rcases this with rfl | rfl
  ·exact (Ye.mp h.r0).1
  ·exact (Ye.mp h.r1).1
 have rr:∀i,i<2->(θ.set (K j) (.lst (q.map item)))[K i]?=some (.lst ((Zaf rd j q i).map item)):=by
  intro i hi
  by_cases c:i=j
  ·subst c
   rw [Yg (lt i hi),zi]
  ·have ne:K j≠K i:=by
    have a:i=0\/i=1:=by omega
    have b:j=0\/j=1:=by omega
    rcases a with rfl | rfl<;>rcases b with rfl | rfl<;>first | exact absurd rfl c | omega
   rw [Ya ne,ZaA _ _ c]
   have a:i=0\/i=1:=by omega
   rcases a with rfl | rfl
   ·exact h.r0
   ·exact h.r1
 obtain ⟨e0,e1⟩:=h.ends_set (k:=K j) (by omega) (.lst (q.map item))
 refine ⟨by rw [Yx]; exact l,e0,e1,⟨rv,by rw [Ya (by omega)]; exact d1,?_⟩,rr 0 (by omega),rr 1 (by omega),h.k,by rw [Ya (by omega)]; exact h.tk,by rw [Ya (by omega)]; exact h.gt,c0,c1,by rw [Ya (by omega)]; exact hc⟩
 rw [Ya (by omega)]
 exact d2
theorem Sta.taken (h:Sta θ E rd T G now K) (t0 t1:List Int):Sta (θ.set 12 (.lst [il t0,il t1])) E rd (fun i=>if i=0 then t0 else t1) G now K:=by
 obtain ⟨k0,k1,k2⟩:=h.k
 obtain ⟨rv,d1,d2⟩:=h.dict
 obtain ⟨c0,c1,hc⟩:=h.cl
 have l:=h.len
 obtain ⟨e0,e1⟩:=h.ends_set (k:=12) (by omega) (.lst [il t0,il t1])
 refine ⟨by rw [Yx]; exact l,e0,e1,⟨rv,by rw [Ya (by omega)]; exact d1,?_⟩,by rw [Ya (by omega)]; exact h.r0,by rw [Ya (by omega)]; exact h.r1,h.k,by rw [Yg (by omega)]; rfl,by rw [Ya (by omega)]; exact h.gt,c0,c1,by rw [Ya (by omega)]; exact hc⟩
 rw [Ya (by omega)]
 exact d2
theorem Sta.got (h:Sta θ E rd T G now K) (t0 t1:List Int):Sta (θ.set 13 (.lst [il t0,il t1])) E rd T (fun i=>if i=0 then t0 else t1) now K:=by
 obtain ⟨k0,k1,k2⟩:=h.k
 obtain ⟨rv,d1,d2⟩:=h.dict
 obtain ⟨c0,c1,hc⟩:=h.cl
 have l:=h.len
 obtain ⟨e0,e1⟩:=h.ends_set (k:=13) (by omega) (.lst [il t0,il t1])
 refine ⟨by rw [Yx]; exact l,e0,e1,⟨rv,by rw [Ya (by omega)]; exact d1,?_⟩,by rw [Ya (by omega)]; exact h.r0,by rw [Ya (by omega)]; exact h.r1,h.k,by rw [Ya (by omega)]; exact h.tk,by rw [Yg (by omega)]; rfl,c0,c1,by rw [Ya (by omega)]; exact hc⟩
 rw [Ya (by omega)]
 exact d2
theorem Sta.closed (h:Sta θ E rd T G now K) (c0 c1:D):Sta (θ.set 14 (.lst [c0,c1])) E rd T G now K:=by
 obtain ⟨k0,k1,k2⟩:=h.k
 obtain ⟨rv,d1,d2⟩:=h.dict
 have l:=h.len
 obtain ⟨e0,e1⟩:=h.ends_set (k:=14) (by omega) (.lst [c0,c1])
 refine ⟨by rw [Yx]; exact l,e0,e1,⟨rv,by rw [Ya (by omega)]; exact d1,?_⟩,by rw [Ya (by omega)]; exact h.r0,by rw [Ya (by omega)]; exact h.r1,h.k,by rw [Ya (by omega)]; exact h.tk,by rw [Ya (by omega)]; exact h.gt,c0,c1,by rw [Yg (by omega)]⟩
 rw [Ya (by omega)]
 exact d2
theorem Sta.app (h:Sta θ E rd T G now K) (X:Sto):Sta (θ++X) E rd T G now K:=by
 obtain ⟨rv,d1,d2⟩:=h.dict
 obtain ⟨c0,c1,hc⟩:=h.cl
 have l:=h.len
 have g:∀{k:Nat} {c:Cell},θ[k]?=some c->(θ++X)[k]?=some c:=fun {k c} q=>by rw [Yp (Ye.mp q).1]; exact q
 refine ⟨by rw [Yj]; omega,by rw [<-Zm8 (by omega),h.e0],by rw [<-Zm8 (by omega),h.e1],⟨rv,g d1,d2.imp (fun q=>⟨q.1,g q.2⟩) id⟩,g h.r0,g h.r1,h.k,g h.tk,g h.gt,c0,c1,g hc⟩
theorem Sta.dput (h:Sta θ E rd T G now K) {now':Int} {rd':Nat->List (Seg×Int)} {K':Nat->Nat} {rv':D} (hv:rv'=.ref 11/\θ[11]?=some (.lst [.ref (K' 0),.ref (K' 1)])\/rv'=.lst [.ref (K' 0),.ref (K' 1)]) (hk:K' 0≠K' 1/\(K' 0=9\/K' 0=10\/15<=K' 0)/\(K' 1=9\/K' 1=10\/15<=K' 1)) (h0:θ[K' 0]?=some (.lst ((rd' 0).map item))) (h1:θ[K' 1]?=some (.lst ((rd' 1).map item))):Sta (θ.set 8 (.dK (Zbk rv' now'))) E rd' T G now' K':=by
 obtain ⟨c0,c1,hc⟩:=h.cl
 have l:=h.len
 obtain ⟨e0,e1⟩:=h.ends_set (k:=8) (by omega) (.dK (Zbk rv' now'))
 refine ⟨by rw [Yx]; exact l,e0,e1,⟨rv',by rw [Yg (by omega)],?_⟩,by rw [Ya (by omega)]; exact h0,by rw [Ya (by omega)]; exact h1,hk,by rw [Ya (by omega)]; exact h.tk,by rw [Ya (by omega)]; exact h.gt,c0,c1,by rw [Ya (by omega)]; exact hc⟩
 rw [Ya (by omega)]
 exact hv
end
def Zid:SM:=(Zr (Z5 1 (Zbj (Zc (mOp zG (mCB ZaF (Zc (Zd 0) (Zc (mC (.int 0)) Zi))) (mC (.int 65536))) (Zc (mOp zG (mCB ZaF (Zc (Zd 0) (Zc (mC (.int 1)) Zi))) (mC (.int 65536))) Zi))))
 (Zr (Z5 2 (Zba (Zc (mCB ZbJ (Zc (mOp ixM (Zd 1) (mC (.int 0))) (Zc (mOp ixM (Zd 1) (mC (.int 1))) (Zc (mCB Zdz (Zc (mCB ZaF (Zc (Zd 0) (Zc (mC (.int 2)) Zi))) Zi)) (Zc (mC (.bl true)) Zi))))) (Zc (mCB ZbJ (Zc (mOp ixM (Zd 1) (mC (.int 1))) (Zc (mOp ixM (Zd 1) (mC (.int 0))) (Zc (mCB Zdz (Zc (mCB ZaF (Zc (Zd 0) (Zc (mC (.int 3)) Zi))) Zi)) (Zc (mOp eqM (mOp zG (mCB ZaF (Zc (Zd 0) (Zc (mC (.int 4)) Zi))) (mC (.int 2))) (mC (.int 0))) Zi))))) Zi))))
 (ZP (ZhP [("ends",(Zd 2)),("roads",(ZaE (Zc (ZaE Zi) (Zc (ZaE Zi) Zi)))),("taken",(ZaE (Zc (Zba Zi) (Zc (Zba Zi) Zi)))),("got",(ZaE (Zc (Zba Zi) (Zc (Zba Zi) Zi)))),("now",(mC (.int 0))),("closed",(ZaE (Zc (mC (.bl false)) (Zc (mC (.bl false)) Zi))))]))))
def ZgI:GM:=ZQ 1 3 Zid
def ZmW:SM:=(ZbQ (ZC (mOp neM (Zd 2) (Zba Zi))) (Zr (zj (Zkm (mOp ixM (ZZ (Zd 0) (mC (.str "roads"))) (mOp Zdq (mC (.int 1)) (Zd 1))) (Zbj (Zc (Zd 2) (Zc (ZZ (Zd 0) (mC (.str "now"))) Zi)))))
  (Z5 2 (mCB ZdJ (Zc (mOp ixM (ZZ (Zd 0) (mC (.str "ends"))) (Zd 1)) (Zc (ZZ (Zd 0) (mC (.str "now"))) Zi))))) 100)
def ZjF:SM:=(Zr (Z5 2 (mCB ZdJ (Zc (mOp ixM (ZZ (Zd 0) (mC (.str "ends"))) (Zd 1)) (Zc (ZZ (Zd 0) (mC (.str "now"))) Zi))))
 ZmW)
def ZeC:GM:=ZQ 2 3 ZjF
noncomputable def ZaQ (rd:Nat->List (Seg×Int)):Nat->List Seg:=fun j=>(rd j).map (·.1)
def TwoF (A F:Nat->Int) (T G:Nat->List Int) (now:Int) (E:Nat->Zm) (rd:Nat->List Seg):Prop:=Two (A 0) (A 1) (F 0) (F 1) (T 0) (T 1) (G 0) (G 1) now (E 0) (E 1) (rd 0) (rd 1)
section
variable {A F:Nat->Int} {θ:Sto} {E:Nat->Zm} {rd:Nat->List (Seg×Int)} {sd:Nat->List Seg} {T G:Nat->List Int} {now:Int} {K:Nat->Nat} {ρ:List Sl} {i j:Nat}
theorem TwoF.at (h:TwoF A F T G now E sd) (hj:j<2):Two (A j) (A (1-j)) (F j) (F (1-j)) (T j) (T (1-j)) (G j) (G (1-j)) now (E j) (E (1-j)) (sd j) (sd (1-j)):=by
 have:j=0\/j=1:=by omega
 rcases this with rfl | rfl
 ·exact h
 ·exact Two.swap h
theorem TwoF.of (hj:j<2) (h:Two (A j) (A (1-j)) (F j) (F (1-j)) (T j) (T (1-j)) (G j) (G (1-j)) now (E j) (E (1-j)) (sd j) (sd (1-j))):TwoF A F T G now E sd:=by
 have:j=0\/j=1:=by omega
 rcases this with rfl | rfl
 ·exact h
 ·exact Two.swap h
theorem Sta.at (h:Sta θ E rd T G now K) (hj:j<2):upE θ (4*j) (E j)=θ:=by
 have:j=0\/j=1:=by omega
 rcases this with rfl | rfl
 ·exact h.e0
 ·exact h.e1
theorem Sta.lt (h:Sta θ E rd T G now K) (hj:j<2):4*j+3 < θ.length:=by have:=h.len; omega
theorem Sta.rdj (h:Sta θ E rd T G now K) (hj:j<2):θ[K j]?=some (.lst ((rd j).map item)):=by
 have:j=0\/j=1:=by omega
 rcases this with rfl | rfl
 ·exact h.r0
 ·exact h.r1
theorem Znn (h:Sta θ E rd T G now K) (hj:j<2) (hp:∀s,(z8 (E j) now).1=some s->s.Ok):ZdJ [.ref (4*j),.int now] θ=.ok (il (Zd9 (E j) now)) (upE θ (4*j) (z8 (E j) now).2):=by
 have:=ZtH (θ:=θ) (l:=4*j) (e:=E j) (now:=now) (h.lt hj) (fun s q=>(hp s q).put)
 rw [h.at hj] at this
 exact this
def ZrF:SM:=(Zr (zj (Zkm (mOp ixM (ZZ (Zd 0) (mC (.str "roads"))) (mOp Zdq (mC (.int 1)) (Zd 1))) (Zbj (Zc (Zd 2) (Zc (ZZ (Zd 0) (mC (.str "now"))) Zi)))))
  (Z5 2 (mCB ZdJ (Zc (mOp ixM (ZZ (Zd 0) (mC (.str "ends"))) (Zd 1)) (Zc (ZZ (Zd 0) (mC (.str "now"))) Zi)))))
theorem ZkK (h:Sta θ E rd T G now K) (hT:TwoF A F T G now E (ZaQ rd)) (hj:j<2) (hN:(T j).length<=5000) (hn:0<=now/\now<=30000) (x:Sl):Z5 2 (mCB ZdJ (Zc (mOp ixM (ZZ (Zd 0) (mC (.str "ends"))) (Zd 1)) (Zc (ZZ (Zd 0) (mC (.str "now"))) Zi))) [.val (.ref 8),.val (.int (j:Int)),x] θ=.ok (.nx,[.val (.ref 8),.val (.int (j:Int)),.val (il (Zd9 (E j) now))]) (upE θ (4*j) (z8 (E j) now).2):=by
 have sd:=Znn h hj (two_go (hT.at hj) hN hn).2
 have g1:=ZgO h (ρ:=[.val (.ref 8),.val (.int (j:Int)),x]) (i:=0) rfl
 have g2:=ZiM h (ρ:=[.val (.ref 8),.val (.int (j:Int)),x]) (i:=0) rfl
 have g3:=ZgM (θ:=θ) hj
 simp [g1,g2,g3,sd]
noncomputable def Zmr (o:Option Seg):List Int:=match o with
 | some s=>putL s
 | none=>[]
theorem Znr (e:Zm) (t:Int):Zd9 e t=Zmr (z8 e t).1:=by
 unfold Zd9 Zmr
 cases (z8 e t).1<;>rfl
def Left (F:Nat->Int) (T:Nat->List Int) (now:Int) (j:Nat) (E:Nat->Zm) (L:Nat):Prop:=∃x:Nat,(E j).nxt=Zy (F j) x/\x<=(T j).length+2/\lft (T j).length now x (E j)=L
theorem Zre (hT:TwoF A F T G now E sd) (hj:j<2) (hN:(T j).length<=5000):∃L,Left F T now j E L/\L<=70:=by
 obtain ⟨u,x,r,uo,xo,r',h1,h2⟩:=hT.at hj
 exact ⟨_,⟨x,h1.ei.nxt,h1.ei.lim.2.1,rfl⟩,ZuE h1.ei⟩
theorem ZlV (hT:TwoF A F T G now E sd) (hj:j<2) (hN:(T j).length<=5000) (hn:0<=now/\now<=30000) {L:Nat} (hL:Left F T now j E L) {s:Seg} (hs:(z8 (E j) now).1=some s):∃L',Left F T now j (Zaf E j (z8 (E j) now).2) L'/\L'<L:=by
 obtain ⟨u,x,r,uo,xo,r',h1,h2⟩:=hT.at hj
 obtain ⟨x1,n1,n2,n3⟩:=hL
 have lim:=h1.ei.lim
 have xx:x1=x:=by
  rw [h1.ei.nxt] at n1
  have:=(Zc9 (n:=F j) (j:=(x:Int)) (k:=(x1:Int)) (by omega)).mp n1
  omega
 subst xx
 obtain ⟨x',k1,k2,k3⟩:=Zk9 h1.ei hN hn s hs
 refine ⟨_,⟨x',by rw [zi]; exact k1,k2,rfl⟩,?_⟩
 rw [zi,<-n3]
 exact k3
theorem Zqz (rd:Nat->List (Seg×Int)) (k:Nat) (s:Seg) (t:Int):ZaQ (Zaf rd k (rd k++[(s,t)]))=Zaf (ZaQ rd) k (ZaQ rd k++[s]):=by
 funext i
 unfold ZaQ Zaf
 by_cases c:i=k
 ·rw [if_pos c,if_pos c,List.map_append]
  rfl
 ·rw [if_neg c,if_neg c]
theorem ZkL (hj:j<2) (hN:(T j).length<=5000) (hn:0<=now/\now<=30000):∀(n:Nat) (θ:Sto) (E:Nat->Zm) (rd:Nat->List (Seg×Int)) (o:Option Seg),1<=n->Sta θ E rd T G now K->TwoF A F T G now E (Zaf (ZaQ rd) (1-j) (ZaQ rd (1-j)++o.toList))->(∀s,o=some s->∃L,Left F T now j E L/\L+2<=n)->(rd (1-j)).length+n<=60000->
  ∃ρ' θ' E' rd',ZbQ (ZC (mOp neM (Zd 2) (Zba Zi))) ZrF n [.val (.ref 8),.val (.int (j:Int)),.val (il (Zmr o))] θ=.ok (.nx,ρ') θ'/\Sta θ' E' rd' T G now K/\TwoF A F T G now E' (ZaQ rd')/\(∀i,(rd' i).length<=(rd i).length+n)/\(θ'[8]?=θ[8]?/\θ'[11]?=θ[11]?)
 | 0,_,_,_,_,h,_,_,_,_=>absurd h (by omega)
 | n+1,θ,E,rd,none,_,h,hT,_,_=>by
  have e0:Zaf (ZaQ rd) (1-j) (ZaQ rd (1-j)++(none:Option Seg).toList)=ZaQ rd:=by
   funext i
   unfold Zaf
   split
   ·rename_i q; rw [q]; simp
   ·rfl
  rw [e0] at hT
  refine ⟨[.val (.ref 8),.val (.int (j:Int)),.val (il [])],θ,E,rd,?_,h,hT,fun _=>by omega,rfl,rfl⟩
  unfold ZbQ
  simp [Zmr,Zdg]
 | n+1,θ,E,rd,some s,_,h,hT,hL,hb=>by
  obtain ⟨L,hL1,hL2⟩:=hL s rfl
  have j1:1-j<2:=by omega
  have cj:(1:Int)-(j:Int)=((1-j:Nat):Int):=by omega
  have h1:=h.road j1 (rd (1-j)++[(s,now)])
  have hT1:TwoF A F T G now E (ZaQ (Zaf rd (1-j) (rd (1-j)++[(s,now)]))):=by
   rw [Zqz]
   exact hT
  have g1:=ZiM h (ρ:=[.val (.ref 8),.val (.int (j:Int)),.val (il (putL s))]) (i:=0) rfl
  have g2:=Zjt h (ρ:=[.val (.ref 8),.val (.int (j:Int)),.val (il (putL s))]) (i:=0) rfl j1 (fe:=mOp Zdq (mC (.int 1)) (Zd 1)) (by simp; omega)
  have lc:ZfM θ (.ref (K (1-j)))=some (K (1-j),(rd (1-j)).map item):=by simp [ZfM,h.rdj j1]
  have bl:((rd (1-j)).map item).length<100000:=by rw [List.length_map]; omega
  have ap:zj (Zkm (mOp ixM (ZZ (Zd 0) (mC (.str "roads"))) (mOp Zdq (mC (.int 1)) (Zd 1))) (Zbj (Zc (Zd 2) (Zc (ZZ (Zd 0) (mC (.str "now"))) Zi)))) [.val (.ref 8),.val (.int (j:Int)),.val (il (putL s))] θ=.ok (.nx,[.val (.ref 8),.val (.int (j:Int)),.val (il (putL s))]) (θ.set (K (1-j)) (.lst ((rd (1-j)++[(s,now)]).map item))):=by
   rw [ZtA,ZtB,g2,R.bind_ok]
   simp only [lc]
   have tp:Zbj (Zc (Zd 2) (Zc (ZZ (Zd 0) (mC (.str "now"))) Zi)) [.val (.ref 8),.val (.int (j:Int)),.val (il (putL s))] θ=.ok (item (s,now)) θ:=by
    simp [g1,item]
   rw [tp,R.bind_ok]
   simp only [lc]
   rw [if_pos bl,List.map_append]
   rfl
  have sn:=ZkK h1 hT1 hj hN hn (.val (il (putL s)))
  have body:ZrF [.val (.ref 8),.val (.int (j:Int)),.val (il (putL s))] θ=.ok (.nx,[.val (.ref 8),.val (.int (j:Int)),.val (il (Zd9 (E j) now))]) (upE (θ.set (K (1-j)) (.lst ((rd (1-j)++[(s,now)]).map item))) (4*j) (z8 (E j) now).2):=by
   unfold ZrF
   rw [Za1,ap,ZT,sn]
  rw [Znr] at body
  have h2:=h1.end hj (z8 (E j) now).2
  have tg:=(two_go (hT1.at hj) hN hn).1
  have hT2:TwoF A F T G now (Zaf E j (z8 (E j) now).2) (Zaf (ZaQ (Zaf rd (1-j) (rd (1-j)++[(s,now)]))) (1-j) (ZaQ (Zaf rd (1-j) (rd (1-j)++[(s,now)])) (1-j)++(z8 (E j) now).1.toList)):=by
   refine TwoF.of hj ?_
   rw [zi,zi,ZaA _ _ (show 1-j≠j by omega),ZaA _ _ (show j≠1-j by omega)]
   exact tg
  obtain ⟨ρ',θ',E',rd',w1,w2,w3,w4,w5,w6⟩:=ZkL hj hN hn n _ _ (Zaf rd (1-j) (rd (1-j)++[(s,now)])) (z8 (E j) now).1 (by omega) h2 hT2 (fun s' q=>by
   obtain ⟨L',l1,l2⟩:=ZlV hT1 hj hN hn hL1 q
   exact ⟨L',l1,by omega⟩) (by rw [zi,Yj,YX]; omega)
  obtain ⟨k0,kk1,kk2⟩:=h.k
  have kj:K (1-j)≠8/\K (1-j)≠11:=by
   have:1-j=0\/1-j=1:=by omega
   rcases this with q | q<;>rw [q]<;>omega
  have same:∀k,k=8\/k=11->(upE (θ.set (K (1-j)) (.lst ((rd (1-j)++[(s,now)]).map item))) (4*j) (z8 (E j) now).2)[k]?=θ[k]?:=by
   intro k hk
   rw [ZfH (by omega),Ya (by omega)]
  refine ⟨ρ',θ',E',rd',?_,w2,w3,fun i=>?_,w5.trans (same 8 (.inl rfl)),w6.trans (same 11 (.inr rfl))⟩
  ·have t1:ZC (mOp neM (Zd 2) (Zba Zi)) [.val (.ref 8),.val (.int (j:Int)),.val (il (Zmr (some s)))] θ=.ok true θ:=by
    have:¬putL s=[]:=Zt7 s
    simp [Zmr,Zdg,this]
   unfold ZbQ
   rw [t1,R.bind_ok,if_pos rfl]
   show (ZrF [.val (.ref 8),.val (.int (j:Int)),.val (il (putL s))] θ).bind _=_
   rw [body,R.bind_ok,ZbX]
   exact w1
  ·have:=w4 i
   by_cases c:i=1-j
   ·rw [c,zi,Yj,YX] at this
    rw [c]
    omega
   ·rw [ZaA _ _ c] at this
    omega
theorem ZoL (h:Sta θ E rd T G now K) (hT:TwoF A F T G now E (ZaQ rd)) (hj:j<2) (hN:(T j).length<=5000) (hn:0<=now/\now<=30000) (hb:(rd (1-j)).length<=50000):∃θ' E' rd',ZeC [.ref 8,.int (j:Int)] θ=.ok .non θ'/\Sta θ' E' rd' T G now K/\TwoF A F T G now E' (ZaQ rd')/\(∀i,(rd' i).length<=(rd i).length+100)/\(θ'[8]?=θ[8]?/\θ'[11]?=θ[11]?):=by
 have sn:=ZkK h hT hj hN hn .no
 rw [Znr] at sn
 have h1:=h.end hj (z8 (E j) now).2
 have tg:=(two_go (hT.at hj) hN hn).1
 have hT1:TwoF A F T G now (Zaf E j (z8 (E j) now).2) (Zaf (ZaQ rd) (1-j) (ZaQ rd (1-j)++(z8 (E j) now).1.toList)):=by
  refine TwoF.of hj ?_
  rw [zi,zi,ZaA _ _ (show 1-j≠j by omega),ZaA _ _ (show j≠1-j by omega)]
  exact tg
 obtain ⟨L,l1,l2⟩:=Zre hT hj hN
 obtain ⟨ρ',θ',E',rd',w1,w2,w3,w4,w5,w6⟩:=ZkL (K:=K) hj hN hn 100 _ _ rd (z8 (E j) now).1 (by omega) h1 hT1 (fun s q=>by
  obtain ⟨L',k1,k2⟩:=ZlV hT hj hN hn l1 q
  exact ⟨L',k1,by omega⟩) (by omega)
 refine ⟨θ',E',rd',?_,w2,w3,w4,w5.trans (ZfH (by omega)),w6.trans (ZfH (by omega))⟩
 have b1:ZjF [.val (.ref 8),.val (.int (j:Int)),.no] θ=.ok (.nx,ρ') θ':=by
  unfold ZjF
  rw [Za1,sn,ZT]
  exact w1
 simp [ZeC,b1]
end
def ZdH:SM:=(mIf (ZC (mOp gtM (mOp zG (mOp Zen (Zd 2) (mC (.int 3))) (mC (.int 4))) (mC (.int 0)))) (zj (ZlS (Zd 3) (Zd 4))) ZN)
def ZcO:SM:=(mIf (ZeI (ZC (mOp ltM (mOp zG (mOp Zen (Zd 2) (mC (.int 3))) (mC (.int 4))) (mC (.int 3)))) (ZC (mOp leM (mOp Zdq (ZZ (Zd 0) (mC (.str "now"))) (mOp ixM (Zd 5) (mC (.int 1)))) (mC (.int 2000))))) (zj (mCB zZ (Zc (mOp ixM (ZZ (Zd 0) (mC (.str "ends"))) (Zd 1)) (Zc (mOp ixM (Zd 5) (mC (.int 0))) (Zc (ZZ (Zd 0) (mC (.str "now"))) Zi))))) ZN)
def ZcN:SM:=(mIf (zV (Zd 3)) (Zr (Z5 4 (mOp zG (mOp zG (Zd 2) (mC (.int 3))) (mCB Zdr (Zc (Zd 3) Zi))))
  (Zr (Z5 5 (mOp ixM (Zd 3) (Zd 4)))
  (Zr ZdH
  ZcO))) ZN)
def Zd5:SM:=(Zr (Z5 3 (mOp ixM (ZZ (Zd 0) (mC (.str "roads"))) (Zd 1)))
 ZcN)
def Zfp:GM:=ZQ 3 6 Zd5
def Zey:SM:=(mIf (ZC (mOp neM (mOp ixM (ZZ (Zd 0) (mC (.str "got"))) (Zd 1)) (mSl (mOp ixM (ZZ (Zd 0) (mC (.str "taken"))) (mOp Zdq (mC (.int 1)) (Zd 1))) Zaw (Zb4 (mCB Zdr (Zc (mOp ixM (ZZ (Zd 0) (mC (.str "got"))) (Zd 1)) Zi)))))) (ZP (mC (.bl false))) ZN)
noncomputable def Zex:SM:=(mIf (ZC (mOp inM (mCB Zfo (Zc (mOp ixM (ZZ (Zd 0) (mC (.str "ends"))) (Zd 1)) Zi)) (Zbj (Zc (mC (.str "refused")) (Zc (mC (.str "reset")) Zi))))) (ZP (mC (.bl false))) ZN)
def Zie:SM:=(Zfy (Zb3 (Zc (mC (.int 2)) Zi)) (gNm 1) (Zr Zey
  Zex))
def Zif:SM:=(Zr Zie
 (ZP (mC (.bl true))))
def ZgJ:GM:=ZQ 1 2 Zif
theorem Zos {α β:Type} (f:α->β):∀(k:Nat) (l:List α),(l.map f).eraseIdx k=(l.eraseIdx k).map f
 | _,[]=>rfl
 | 0,x::l=>rfl
 | k+1,x::l=>by
  show f x::(l.map f).eraseIdx k=f x::(l.eraseIdx k).map f
  rw [Zos f k l]
theorem Zjk:∀(n:Nat) (l:List Nat),l.Nodup->(∀x∈l,x<n)->l.length<=n
 | 0,l,_,h=>by
  cases l with
  | nil=>exact Yb _
  | cons x r=>exact absurd (h x (Ys)) (by omega)
 | n+1,l,hn,h=>by
  by_cases c:n∈l
  ·have:=Zjk n (l.erase n) (hn.erase n) (fun x hx=>by
    have hx':=(hn.mem_erase_iff).mp hx
    have:=h x hx'.2
    have:=hx'.1
    omega)
   rw [List.length_erase_of_mem c] at this
   omega
  ·have:=Zjk n l hn (fun x hx=>by
    have:=h x hx
    have:x≠n:=fun z=>c (z ▸ hx)
    omega)
   omega
theorem Zl1 {a b f g:Int} {T R G:List Int} {now:Int} {u x r y:Nat} {e:Zm} (h:EI a b f g T R G now u x r y e) (hR:R.length<=5000):e.Qv.length<=64:=by
 have lim:=h.lim
 have key:∀p∈e.Qv,∃k:Nat,k<64/\p.1=Zy g ((r+k:Nat):Int):=by
  intro p hp
  obtain ⟨i,i1,i2,i3,i4,i5⟩:=h.ear p hp
  refine ⟨1+i-r,by omega,?_⟩
  rw [i1]
  congr 1
  omega
 have hm:(e.Qv.map fun p=>(Z3 p.1 (Zy g r)).toNat).length<=64:=by
  refine Zjk 64 _ ?_ ?_
  ·unfold List.Nodup
   rw [List.pairwise_map]
   refine h.nod.imp_of_mem fun {p q} hp hq hne z=>hne ?_
   obtain ⟨k1,l1,e1⟩:=key p hp
   obtain ⟨k2,l2,e2⟩:=key q hq
   rw [e1,e2,Zbd (by omega),Zbd (by omega)] at z
   rw [e1,e2]
   congr 1
   omega
  ·intro z hz
   obtain ⟨p,hp,rfl⟩:=YJ.mp hz
   obtain ⟨k1,l1,e1⟩:=key p hp
   rw [e1,Zbd (by omega)]
   omega
 rwa [List.length_map] at hm
section
variable {A F:Nat->Int} {θ:Sto} {E:Nat->Zm} {rd:Nat->List (Seg×Int)} {sd:Nat->List Seg} {T G:Nat->List Int} {now:Int} {K:Nat->Nat} {ρ:List Sl} {i j:Nat}
theorem two_comeF (hT:TwoF A F T G now E sd) (hj:j<2) (hN:(T j).length<=5000) (hR:(T (1-j)).length<=5000) (hn:0<=now) {s:Seg} (hs:s∈sd j):TwoF A F T G now (Zaf E j (ZbC (E j) s now)) sd:=by
 refine TwoF.of hj ?_
 rw [zi,ZaA _ _ (show 1-j≠j by omega)]
 exact two_come (hT.at hj) hN hR hn hs
theorem TwoF.sub {sd':Nat->List Seg} (hT:TwoF A F T G now E sd) (h:∀i s,s∈sd' i->s∈sd i):TwoF A F T G now E sd':=Two.sub hT (h 0) (h 1)
theorem ZoI (h:Sta θ E rd T G now K) (hT:TwoF A F T G now E (ZaQ rd)) (hj:j<2) (hN:(T j).length<=5000) (hR:(T (1-j)).length<=5000) (hn:0<=now) (hb:(rd j).length<=50000) {num:Int} (h0:0<=num) (h9:num<=4294967295):∃θ' E' rd',Zfp [.ref 8,.int (j:Int),.int num] θ=.ok .non θ'/\Sta θ' E' rd' T G now K/\TwoF A F T G now E' (ZaQ rd')/\(∀i,(rd' i).length<=(rd i).length):=by
 have ix:=Zjt h (ρ:=[.val (.ref 8),.val (.int (j:Int)),.val (.int num),.no,.no,.no]) (i:=0) rfl hj (fe:=Zd 1) (by simp)
 have s3:Z5 3 (mOp ixM (ZZ (Zd 0) (mC (.str "roads"))) (Zd 1)) [.val (.ref 8),.val (.int (j:Int)),.val (.int num),.no,.no,.no] θ=.ok (.nx,[.val (.ref 8),.val (.int (j:Int)),.val (.int num),.val (.ref (K j)),.no,.no]) θ:=by
  rw [ZjK,ix]
  rfl
 have ls:zK θ (.ref (K j))=some ((rd j).map item):=by simp [zK,h.rdj hj]
 have sq:seqOf θ (.ref (K j))=some ((rd j).map item):=by simp [seqOf,ls]
 have tr:ZfW θ (.ref (K j))=some (!((rd j).map item).isEmpty):=by simp [ZfW,sq]
 by_cases ce:rd j=[]
 ·refine ⟨θ,E,rd,?_,h,hT,fun _=>Yb _⟩
  have b3:ZcN [.val (.ref 8),.val (.int (j:Int)),.val (.int num),.val (.ref (K j)),.no,.no] θ=.ok (.nx,[.val (.ref 8),.val (.int (j:Int)),.val (.int num),.val (.ref (K j)),.no,.no]) θ:=by
   rw [ce] at tr
   simp [ZcN,tr]
  have b:Zd5 [.val (.ref 8),.val (.int (j:Int)),.val (.int num),.no,.no,.no] θ=.ok (.nx,[.val (.ref 8),.val (.int (j:Int)),.val (.int num),.val (.ref (K j)),.no,.no]) θ:=by
   unfold Zd5
   rw [Za1,s3,ZT,b3]
  simp [Zfp,b]
 ·have lp:0<(rd j).length:=List.length_pos_iff.mpr ce
  obtain ⟨k,hk⟩:∃k:Nat,(k:Int)=num % 3 % ((rd j).length:Int):=⟨(num % 3 % ((rd j).length:Int)).toNat,by
   have:=Int.emod_nonneg (num % 3) (show ((rd j).length:Int)≠0 by omega)
   omega⟩
  have kl:k<(rd j).length:=by
   have:=Int.emod_lt_of_pos (num % 3) (show 0<((rd j).length:Int) by omega)
   omega
  obtain ⟨p,hp⟩:∃p,p=(rd j)[k]:=⟨_,rfl⟩
  have hpk:(rd j)[k]?=some p:=by rw [hp]; exact List.getElem?_eq_getElem kl
  have pm:p∈rd j:=List.mem_of_getElem? hpk
  have psd:p.1∈ZaQ rd j:=YJ.mpr ⟨p,pm,rfl⟩
  have it:((rd j).map item)[k]?=some (item p):=by rw [Yr,hpk]; rfl
  have ixr:ixM (.ref (K j)) (.int (k:Int)) θ=.ok (item p) θ:=by
   have:atI ((rd j).map item) (k:Int)=some (item p):=Zgr it
   simp [ixM,ixD,sq,this]
  have ln:Zdr [.ref (K j)] θ=.ok (.int ((rd j).length:Int)) θ:=by
   simp [Zdr,sq]
  have t3:zV (Zd 3) [.val (.ref 8),.val (.int (j:Int)),.val (.int num),.val (.ref (K j)),.no,.no] θ=.ok true θ:=by
   have:((rd j).map item).isEmpty=false:=by cases q:rd j with | nil=>exact absurd q ce | cons _ _=>rfl
   simp [tr,this]
  have lz:¬((rd j).length:Int)=0:=by omega
  have s4:Z5 4 (mOp zG (mOp zG (Zd 2) (mC (.int 3))) (mCB Zdr (Zc (Zd 3) Zi))) [.val (.ref 8),.val (.int (j:Int)),.val (.int num),.val (.ref (K j)),.no,.no] θ=.ok (.nx,[.val (.ref 8),.val (.int (j:Int)),.val (.int num),.val (.ref (K j)),.val (.int (k:Int)),.no]) θ:=by
   simp [ln,<-hk,lp]
  have s5:Z5 5 (mOp ixM (Zd 3) (Zd 4)) [.val (.ref 8),.val (.int (j:Int)),.val (.int num),.val (.ref (K j)),.val (.int (k:Int)),.no] θ=.ok (.nx,[.val (.ref 8),.val (.int (j:Int)),.val (.int num),.val (.ref (K j)),.val (.int (k:Int)),.val (item p)]) θ:=by
   simp [ixr]
  obtain ⟨ρ5,hρ5⟩:∃ρ5:List Sl,ρ5=[.val (.ref 8),.val (.int (j:Int)),.val (.int num),.val (.ref (K j)),.val (.int (k:Int)),.val (item p)]:=⟨_,rfl⟩
  have st1:∃θ1 rd1,ZdH ρ5 θ=.ok (.nx,ρ5) θ1/\Sta θ1 E rd1 T G now K/\(∀i s,s∈ZaQ rd1 i->s∈ZaQ rd i)/\(∀i,(rd1 i).length<=(rd i).length):=by
   by_cases c:0<num/3 % 4
   ·refine ⟨θ.set (K j) (.lst (((rd j).eraseIdx k).map item)),Zaf rd j ((rd j).eraseIdx k),?_,h.road hj _,fun i s hs=>?_,fun i=>?_⟩
    ·have lc:ZfM θ (.ref (K j))=some (K j,(rd j).map item):=by simp [ZfM,h.rdj hj]
     have em:((rd j).map item).eraseIdx k=((rd j).eraseIdx k).map item:=Zos item k (rd j)
     have kb:(k:Int)<1000000:=by omega
     have pp:ZlS (Zd 3) (Zd 4) ρ5 θ=.ok (item p) (θ.set (K j) (.lst (((rd j).eraseIdx k).map item))):=by
      unfold ZlS
      rw [hρ5]
      simp [lc,kb]
      rw [hpk]
      simp [em]
     rw [hρ5] at pp ⊢
     simp [ZdH,c,pp]
    ·unfold ZaQ at hs ⊢
     by_cases q:i=j
     ·rw [q,zi] at hs
      rw [q]
      obtain ⟨z,hz,rfl⟩:=YJ.mp hs
      exact YJ.mpr ⟨z,List.mem_of_mem_eraseIdx hz,rfl⟩
     ·rw [ZaA _ _ q] at hs
      exact hs
    ·by_cases q:i=j
     ·rw [q,zi]
      exact List.length_eraseIdx_le _ _
     ·rw [ZaA _ _ q]
      exact Yb _
   ·refine ⟨θ,rd,?_,h,fun _ _ q=>q,fun _=>Yb _⟩
    rw [hρ5]
    simp [ZdH,c]
  obtain ⟨θ1,rd1,b1,h1,sb,ll⟩:=st1
  have hT1:=hT.sub sb
  have ih:item p=.tup [il (putL p.1),.int p.2]:=rfl
  have st2:∃θ2 E2,ZcO ρ5 θ1=.ok (.nx,ρ5) θ2/\Sta θ2 E2 rd1 T G now K/\TwoF A F T G now E2 (ZaQ rd1):=by
   have gn:=ZiM h1 (ρ:=ρ5) (i:=0) (by rw [hρ5]; rfl)
   have ge:=ZgO h1 (ρ:=ρ5) (i:=0) (by rw [hρ5]; rfl)
   by_cases c:num/3 % 4<3/\now-p.2<=2000
   ·have hTc:TwoF A F T G now (Zaf E j (ZbC (E j) p.1 now)) (ZaQ rd1):=(two_comeF hT hj hN hR hn psd).sub sb
    refine ⟨upE θ1 (4*j) (ZbC (E j) p.1 now),Zaf E j (ZbC (E j) p.1 now),?_,h1.end hj _,hTc⟩
    have ar:zZ [.ref (4*j),il (putL p.1),.int now] θ1=.ok (.bl true) (upE θ1 (4*j) (ZbC (E j) p.1 now)):=by
     obtain ⟨u,x,r,uo,xo,r',w1,w2⟩:=hT.at hj
     have e1:=w1.ei
     have hf:p.1.Ok/\p.1.src=A (1-j)/\p.1.goal=A j:=by
      rcases w1.road p.1 psd with q | q
      ·exact ⟨q.2.2.1,q.1,q.2.1⟩
      ·exact ⟨q.2.1,q.2.2.1,q.2.2.2.1⟩
     have:=ZfY (θ:=θ1) (l:=4*j) (e:=E j) (s:=p.1) (now:=now) (h1.lt hj) e1.cl hf.1 (by simp [Zgh,e1.ours.1,e1.Qt.1,hf.2.1,hf.2.2]) (by have:=Zl1 e1 hR; omega)
     rw [h1.at hj] at this
     exact this
    have ie:=ZgM (θ:=θ1) hj
    rw [hρ5,ih] at gn ge ⊢
    simp [ZcO,gn,ge,c.1,c.2,ie,ar]
   ·refine ⟨θ1,E,?_,h1,hT1⟩
    rw [hρ5,ih] at gn ⊢
    by_cases c1:num/3 % 4<3
    ·have c2:¬now-p.2<=2000:=fun z=>c ⟨c1,z⟩
     simp [ZcO,gn,c1,c2]
    ·simp [ZcO,c1]
  obtain ⟨θ2,E2,b2,h2,hT2⟩:=st2
  refine ⟨θ2,E2,rd1,?_,h2,hT2,ll⟩
  have b3:ZcN [.val (.ref 8),.val (.int (j:Int)),.val (.int num),.val (.ref (K j)),.no,.no] θ=.ok (.nx,ρ5) θ2:=by
   unfold ZcN
   rw [Zi8,t3,R.bind_ok,if_pos rfl,Za1,s4,ZT,Za1,s5,ZT,<-hρ5,Za1,b1,ZT,b2]
  have b:Zd5 [.val (.ref 8),.val (.int (j:Int)),.val (.int num),.no,.no,.no] θ=.ok (.nx,ρ5) θ2:=by
   unfold Zd5
   rw [Za1,s3,ZT,b3]
  simp [Zfp,b]
end
def Zfx:SM:=(mIf (zV (mCB ZcA (Zc (Zd 5) Zi))) (ZeB (ZZ (Zd 0) (mC (.str "closed"))) (Zd 2) (mC (.bl true))) ZN)
def Zi6:SM:=(mIf (ZC (mOp ltM (Zd 3) (mC (.int 6)))) (zj (mCB ZeC (Zc (Zd 0) (Zc (Zd 2) Zi)))) (zj (mCB Zfp (Zc (Zd 0) (Zc (Zd 2) (Zc (Zd 4) Zi))))))
def Zfw:SM:=(mIf (ZC (mOp eqM (Zd 3) (mC (.int 3)))) (Zr (Zgb (Zd 0) (mC (.str "now")) (mOp zn (ZZ (Zd 0) (mC (.str "now"))) (mOp ixM (Zba (Zc (mC (.int 1)) (Zc (mC (.int 300)) (Zc (mC (.int 1000)) Zi)))) (mOp zG (Zd 4) (mC (.int 3))))))
     (Zgb (Zd 0) (mC (.str "roads")) (ZcI (mIn (ZZ (Zd 0) (mC (.str "roads")))) [0] (Zdx (mIn (Zd 0)) [1] (ZC (mOp leM (mOp Zdq (ZZ (Zd 1) (mC (.str "now"))) (mOp ixM (Zd 0) (mC (.int 1)))) (mC (.int 2000)))) (Zd 0))))) Zi6)
def Zi5:SM:=(mIf (ZeI (ZC (mOp eqM (Zd 3) (mC (.int 2)))) (ZeI (ZC (mOp eqM (mOp zG (Zd 4) (mC (.int 3))) (mC (.int 0)))) (ZC (mOp ZcQ (mCB Zeb (Zc (Zd 5) Zi)) (Zbj (Zc (mC (.str "listen")) (Zc (mC (.str "syn sent")) Zi))))))) Zfx Zfw)
def Zi4:SM:=(mIf (ZC (mOp eqM (Zd 3) (mC (.int 1)))) (ZeB (ZZ (Zd 0) (mC (.str "got"))) (Zd 2) (mOp zn (mOp ixM (ZZ (Zd 0) (mC (.str "got"))) (Zd 2)) (mCB ZcP (Zc (Zd 5) (Zc (mOp zG (Zd 4) (mC (.int 70))) Zi))))) Zi5)
def ZgU:SM:=(mIf (ZC (mOp eqM (Zd 3) (mC (.int 0)))) (Zr (Z5 6 (ZcI (Zb3 (Zc (mOp zG (mOp Zen (Zd 4) (mC (.int 256))) (mC (.int 30))) Zi)) [4] (mOp zG (mOp zn (Zd 1) (mOp Zeg (mC (.int 11)) (Zd 0))) (mC (.int 256)))))
  (ZeB (ZZ (Zd 0) (mC (.str "taken"))) (Zd 2) (mOp zn (mOp ixM (ZZ (Zd 0) (mC (.str "taken"))) (Zd 2)) (mSl (Zd 6) Zaw (Zb4 (mCB Za4 (Zc (Zd 5) (Zc (Zd 6) Zi)))))))) Zi4)
def ZjG:SM:=(Zr (Z5 2 (mOp zG (Zd 1) (mC (.int 2))))
 (Zr (Z5 3 (mOp zG (mOp Zen (Zd 1) (mC (.int 2))) (mC (.int 10))))
 (Zr (Z5 4 (mOp Zen (Zd 1) (mC (.int 20))))
 (Zr (Z5 5 (mOp ixM (ZZ (Zd 0) (mC (.str "ends"))) (Zd 2)))
 (Zr ZgU
 (ZP (mCB ZgJ (Zc (Zd 0) Zi))))))))
def Zkn:GM:=ZQ 2 7 ZjG
section
variable {A F:Nat->Int} {θ:Sto} {E:Nat->Zm} {rd:Nat->List (Seg×Int)} {sd:Nat->List Seg} {T G:Nat->List Int} {now:Int} {K:Nat->Nat} {ρ:List Sl} {i j:Nat}
theorem Zm6 (f:Nat->List Int) (hj:j<2) (v:List Int):Zaf f j v 0=(if j=0 then v else f 0)/\Zaf f j v 1=(if j=0 then f 1 else v):=by
 have:j=0\/j=1:=by omega
 rcases this with rfl | rfl<;>exact ⟨rfl,rfl⟩
theorem Sta.congr {E':Nat->Zm} {rd':Nat->List (Seg×Int)} {T' G':Nat->List Int} (h:Sta θ E rd T G now K) (hE:E' 0=E 0/\E' 1=E 1) (hr:rd' 0=rd 0/\rd' 1=rd 1) (hT:T' 0=T 0/\T' 1=T 1) (hG:G' 0=G 0/\G' 1=G 1):Sta θ E' rd' T' G' now K:=
 ⟨h.len,by rw [hE.1]; exact h.e0,by rw [hE.2]; exact h.e1,h.dict,by rw [hr.1]; exact h.r0,by rw [hr.2]; exact h.r1,h.k,by rw [hT.1,hT.2]; exact h.tk,by rw [hG.1,hG.2]; exact h.gt,h.cl⟩
theorem Zko (h:Sta θ E rd T G now K) (hj:j<2):ixM (.ref 12) (.int (j:Int)) θ=.ok (il (T j)) θ:=by
 have l:zK θ (.ref 12)=some [il (T 0),il (T 1)]:=by simp [zK,h.tk]
 have:j=0\/j=1:=by omega
 rcases this with rfl | rfl<;>simp [ixM,ixD,seqOf,l]<;>rfl
theorem Zoe (h:Sta θ E rd T G now K) (hj:j<2):ixM (.ref 13) (.int (j:Int)) θ=.ok (il (G j)) θ:=by
 have l:zK θ (.ref 13)=some [il (G 0),il (G 1)]:=by simp [zK,h.gt]
 have:j=0\/j=1:=by omega
 rcases this with rfl | rfl<;>simp [ixM,ixD,seqOf,l]<;>rfl
theorem ZjX {fo fi fv:EM} {θ0 θ1:Sto} {v x y:D} {l:Nat} (hv:fv ρ θ0=.ok v θ1) (ho:fo ρ θ1=.ok (.ref l) θ1) (hi:fi ρ θ1=.ok (.int (j:Int)) θ1) (hl:θ1[l]?=some (.lst [x,y])) (hj:j<2):ZeB fo fi fv ρ θ0=.ok (.nx,ρ) (θ1.set l (.lst [if j=0 then v else x,if j=0 then y else v])):=by
 have lc:ZfM θ1 (.ref l)=some (l,[x,y]):=by simp [ZfM,hl]
 unfold ZeB
 rw [hv,R.bind_ok,ho,R.bind_ok,hi,R.bind_ok]
 simp only [lc]
 have:j=0\/j=1:=by omega
 rcases this with rfl | rfl<;>rfl
noncomputable def tkn (e:Zm) (d:List Int):List Int:=if Zdi e=true then ZeK e d else []
theorem Ziu (h:Sta θ E rd T G now K) (hT:TwoF A F T G now E sd) (hj:j<2) (d:List Int):Za4 [.ref (4*j),il d] θ=.ok (.int ((tkn (E j) d).length:Int)) (upE θ (4*j) (Zcn (E j) d)):=by
 obtain ⟨u,x,r,uo,xo,r',h1,h2⟩:=hT.at hj
 have:=Zqg (θ:=θ) (l:=4*j) (e:=E j) (h.lt hj) h1.ei.wl d
 rw [h.at hj] at this
 rw [this]
 unfold tkn
 split<;>rfl
theorem Zl2 (hT:TwoF A F T G now E sd) (hj:j<2) (d:List Int):ZbA d none (some ((tkn (E j) d).length:Int))=tkn (E j) d:=by
 obtain ⟨u,x,r,uo,xo,r',h1,h2⟩:=hT.at hj
 have wl:=h1.ei.wl
 rw [Zcw _ (by omega)]
 unfold tkn
 split
 ·unfold ZeK
  rw [Zcw _ (by omega),Int.toNat_natCast,ZdI]
 ·simp
theorem Zlo (hT:TwoF A F T G now E sd) (hj:j<2) (d:List Int):(tkn (E j) d).length<=64:=by
 obtain ⟨u,x,r,uo,xo,r',h1,h2⟩:=hT.at hj
 have wl:=h1.ei.wl
 unfold tkn
 split
 ·unfold ZeK
  have:=Zhv (r:=d) (k:=64-((E j).Qr.length:Int)) (by omega)
  omega
 ·simp
theorem two_writeF (hT:TwoF A F T G now E sd) (hj:j<2) (hN:(T j).length<=4000) {d:List Int} (hd:ZkN d):TwoF A F (Zaf T j (T j++tkn (E j) d)) G now (Zaf E j (Zcn (E j) d)) sd:=by
 refine TwoF.of hj ?_
 rw [zi,ZaA _ _ (show 1-j≠j by omega),zi,ZaA _ _ (show 1-j≠j by omega)]
 exact two_write (hT.at hj) hN hd
theorem Sta.takenF (h:Sta θ E rd T G now K) (hj:j<2) (v:List Int):Sta (θ.set 12 (.lst [if j=0 then il v else il (T 0),if j=0 then il (T 1) else il v])) E rd (Zaf T j v) G now K:=by
 obtain ⟨a1,a2⟩:=Zm6 T hj v
 have:=h.taken (Zaf T j v 0) (Zaf T j v 1)
 rw [a1,a2] at this
 have e:([if j=0 then il v else il (T 0),if j=0 then il (T 1) else il v]:List D)=[il (if j=0 then v else T 0),il (if j=0 then T 1 else v)]:=by
  split<;>rfl
 rw [e]
 exact this.congr ⟨rfl,rfl⟩ ⟨rfl,rfl⟩ ⟨a1,a2⟩ ⟨rfl,rfl⟩
theorem Sta.gotF (h:Sta θ E rd T G now K) (hj:j<2) (v:List Int):Sta (θ.set 13 (.lst [if j=0 then il v else il (G 0),if j=0 then il (G 1) else il v])) E rd T (Zaf G j v) now K:=by
 obtain ⟨a1,a2⟩:=Zm6 G hj v
 have:=h.got (Zaf G j v 0) (Zaf G j v 1)
 rw [a1,a2] at this
 have e:([if j=0 then il v else il (G 0),if j=0 then il (G 1) else il v]:List D)=[il (if j=0 then v else G 0),il (if j=0 then G 1 else v)]:=by
  split<;>rfl
 rw [e]
 exact this.congr ⟨rfl,rfl⟩ ⟨rfl,rfl⟩ ⟨rfl,rfl⟩ ⟨a1,a2⟩
noncomputable def asl (num:Int) (j:Nat) (way rest:Int) (x:Sl):List Sl:=[.val (.ref 8),.val (.int num),.val (.int (j:Int)),.val (.int way),.val (.int rest),.val (.ref (4*j)),x]
def Pl (A F:Nat->Int) (n:Nat) (θ:Sto):Prop:=∃E rd T G now K,Sta θ E rd T G now K/\TwoF A F T G now E (ZaQ rd)/\(∀i,i<2->(T i).length<=64*n+64)/\(0<=now/\now<=1000*(n:Int))/\∀i,i<2->(rd i).length<=1000*(n+1)
theorem Zzd {num way rest:Int} {n:Nat} (hn:n<=29) (h:Sta θ E rd T G now K) (hT:TwoF A F T G now E (ZaQ rd)) (hl:∀i,i<2->(T i).length<=64*n+64) (hw:0<=now/\now<=1000*(n:Int)) (hr:∀i,i<2->(rd i).length<=1000*(n+1)) (hj:j<2) {d:List Int} (hd:ZkN d) (hdl:d.length<=100) :
  ∃θ',ZeB (ZZ (Zd 0) (mC (.str "taken"))) (Zd 2) (mOp zn (mOp ixM (ZZ (Zd 0) (mC (.str "taken"))) (Zd 2)) (mSl (Zd 6) Zaw (Zb4 (mCB Za4 (Zc (Zd 5) (Zc (Zd 6) Zi)))))) (asl num j way rest (.val (il d))) θ=.ok (.nx,asl num j way rest (.val (il d))) θ'/\Pl A F (n+1) θ':=by
 obtain ⟨ρ,hρ⟩:∃ρ,ρ=asl num j way rest (.val (il d)):=⟨_,rfl⟩
 have gt:=Zht h (ρ:=ρ) (i:=0) (by rw [hρ]; rfl)
 have h1:=h.end hj (Zcn (E j) d)
 have gt1:=Zht h1 (ρ:=ρ) (i:=0) (by rw [hρ]; rfl)
 have ix:=Zko h hj
 have wr:=Ziu h hT hj d
 have ct:=Zl2 hT hj d
 have tl:=Zlo hT hj d
 have tj:=hl j hj
 have v2:∀θ,Zd 2 ρ θ=.ok (.int (j:Int)) θ:=fun θ=>by rw [hρ]; rfl
 have sl:mSl (Zd 6) Zaw (Zb4 (mCB Za4 (Zc (Zd 5) (Zc (Zd 6) Zi)))) ρ θ=.ok (il (tkn (E j) d)) (upE θ (4*j) (Zcn (E j) d)):=by
  rw [hρ]
  simp [asl,wr,ct]
 have val:mOp zn (mOp ixM (ZZ (Zd 0) (mC (.str "taken"))) (Zd 2)) (mSl (Zd 6) Zaw (Zb4 (mCB Za4 (Zc (Zd 5) (Zc (Zd 6) Zi))))) ρ θ=.ok (il (T j++tkn (E j) d)) (upE θ (4*j) (Zcn (E j) d)):=by
  have b:(T j).length+(tkn (E j) d).length<=100000:=by omega
  have o1:mOp ixM (ZZ (Zd 0) (mC (.str "taken"))) (Zd 2) ρ θ=.ok (il (T j)) θ:=by
   rw [Zmd,gt,R.bind_ok,v2,R.bind_ok,ix]
  rw [Zmd,o1,R.bind_ok,sl,R.bind_ok]
  simp [b]
 rw [<-hρ]
 refine ⟨_,ZjX (j:=j) (l:=12) val gt1 (v2 _) h1.tk hj,?_⟩
 refine ⟨_,rd,_,G,now,K,h1.takenF hj (T j++tkn (E j) d),two_writeF hT hj (by omega) hd,fun i hi=>?_,by omega,fun i hi=>by have:=hr i hi; omega⟩
 by_cases q:i=j
 ·rw [q,zi,Yj]
  omega
 ·rw [ZaA _ _ q]
  have:=hl i hi
  omega
end
section
variable {A F:Nat->Int} {θ:Sto} {E:Nat->Zm} {rd:Nat->List (Seg×Int)} {sd:Nat->List Seg} {T G:Nat->List Int} {now:Int} {K:Nat->Nat} {ρ:List Sl} {i j:Nat}
theorem Zno (h:Sta θ E rd T G now K) (hj:j<2) (m:Int):ZcP [.ref (4*j),.int m] θ=.ok (il ((E j).come.take m.toNat)) (upE θ (4*j) (readE (E j) m)):=by
 have:=ZtI (θ:=θ) (l:=4*j) (e:=E j) (n:=m) (h.lt hj)
 rw [h.at hj] at this
 exact this
theorem two_readF (hT:TwoF A F T G now E sd) (hj:j<2) (m:Int):TwoF A F T (Zaf G j (G j++(E j).come.take m.toNat)) now (Zaf E j (readE (E j) m)) sd:=by
 refine TwoF.of hj ?_
 rw [zi,ZaA _ _ (show 1-j≠j by omega),zi,ZaA _ _ (show 1-j≠j by omega)]
 exact two_read (hT.at hj) m
theorem Zrl (hT:TwoF A F T G now E sd) (hj:j<2):(G j).length+(E j).come.length<=(T (1-j)).length:=by
 obtain ⟨u,x,r,uo,xo,r',h1,h2⟩:=hT.at hj
 have:=congrArg List.length h1.ei.come
 rw [Yj,Yy] at this
 omega
theorem Zzc {num way rest:Int} {n:Nat} (hn:n<=29) (h:Sta θ E rd T G now K) (hT:TwoF A F T G now E (ZaQ rd)) (hl:∀i,i<2->(T i).length<=64*n+64) (hw:0<=now/\now<=1000*(n:Int)) (hr:∀i,i<2->(rd i).length<=1000*(n+1)) (hj:j<2) (x:Sl) :
  ∃θ',ZeB (ZZ (Zd 0) (mC (.str "got"))) (Zd 2) (mOp zn (mOp ixM (ZZ (Zd 0) (mC (.str "got"))) (Zd 2)) (mCB ZcP (Zc (Zd 5) (Zc (mOp zG (Zd 4) (mC (.int 70))) Zi)))) (asl num j way rest x) θ=.ok (.nx,asl num j way rest x) θ'/\Pl A F (n+1) θ':=by
 obtain ⟨ρ,hρ⟩:∃ρ,ρ=asl num j way rest x:=⟨_,rfl⟩
 have gt:=Zoo h (ρ:=ρ) (i:=0) (by rw [hρ]; rfl)
 have h1:=h.end hj (readE (E j) (rest % 70))
 have gt1:=Zoo h1 (ρ:=ρ) (i:=0) (by rw [hρ]; rfl)
 have ix:=Zoe h hj
 have rdj:=Zno h hj (rest % 70)
 have gl:=Zrl hT hj
 have tj:=hl (1-j) (by omega)
 have v2:∀θ,Zd 2 ρ θ=.ok (.int (j:Int)) θ:=fun θ=>by rw [hρ]; rfl
 have tl:((E j).come.take (rest % 70).toNat).length<=(E j).come.length:=by rw [Yy]; omega
 have val:mOp zn (mOp ixM (ZZ (Zd 0) (mC (.str "got"))) (Zd 2)) (mCB ZcP (Zc (Zd 5) (Zc (mOp zG (Zd 4) (mC (.int 70))) Zi))) ρ θ=.ok (il (G j++(E j).come.take (rest % 70).toNat)) (upE θ (4*j) (readE (E j) (rest % 70))):=by
  have b:(G j).length+((E j).come.take (rest % 70).toNat).length<=100000:=by omega
  have o1:mOp ixM (ZZ (Zd 0) (mC (.str "got"))) (Zd 2) ρ θ=.ok (il (G j)) θ:=by
   rw [Zmd,gt,R.bind_ok,v2,R.bind_ok,ix]
  have o2:mCB ZcP (Zc (Zd 5) (Zc (mOp zG (Zd 4) (mC (.int 70))) Zi)) ρ θ=.ok (il ((E j).come.take (rest % 70).toNat)) (upE θ (4*j) (readE (E j) (rest % 70))):=by
   rw [<-rdj,hρ]
   simp [asl]
  rw [Zmd,o1,R.bind_ok,o2,R.bind_ok]
  generalize (E j).come.take (rest % 70).toNat=w at b ⊢
  simp [b]
 rw [<-hρ]
 refine ⟨_,ZjX (j:=j) (l:=13) val gt1 (v2 _) h1.gt hj,?_⟩
 exact ⟨_,rd,T,_,now,K,h1.gotF hj (G j++(E j).come.take (rest % 70).toNat),two_readF hT hj _,fun i hi=>by have:=hl i hi; omega,by omega,fun i hi=>by have:=hr i hi; omega⟩
theorem Zmn (h:Sta θ E rd T G now K) (hj:j<2):Zeb [.ref (4*j)] θ=.ok (.str (E j).Qw.s) θ:=by
 have:=Zqj (θ:=θ) (l:=4*j) (e:=E j) (h.lt hj)
 rw [h.at hj] at this
 exact this
theorem Zmo (h:Sta θ E rd T G now K) (hj:j<2):Zfo [.ref (4*j)] θ=.ok (.str (E j).error.s) θ:=by
 have:=Zqq (θ:=θ) (l:=4*j) (e:=E j) (h.lt hj)
 rw [h.at hj] at this
 exact this
theorem Zmp (h:Sta θ E rd T G now K) (hj:j<2):ZcA [.ref (4*j)] θ=.ok (.bl (Zcc (E j)).1) (upE θ (4*j) (Zcc (E j)).2):=by
 have:=Zqt (θ:=θ) (l:=4*j) (e:=E j) (h.lt hj)
 rw [h.at hj] at this
 exact this
theorem two_closeF (hT:TwoF A F T G now E sd) (hj:j<2) (h1:(E j).Qw≠.Qu) (h2:(E j).Qw≠.Qg):TwoF A F T G now (Zaf E j (Zcc (E j)).2) sd:=by
 refine TwoF.of hj ?_
 rw [zi,ZaA _ _ (show 1-j≠j by omega)]
 exact two_close (hT.at hj) h1 h2
theorem Zzb {num way rest:Int} {n:Nat} (h:Sta θ E rd T G now K) (hT:TwoF A F T G now E (ZaQ rd)) (hl:∀i,i<2->(T i).length<=64*n+64) (hw:0<=now/\now<=1000*(n:Int)) (hr:∀i,i<2->(rd i).length<=1000*(n+1)) (hj:j<2) (s1:(E j).Qw≠.Qu) (s2:(E j).Qw≠.Qg) (x:Sl) :
  ∃θ',Zfx (asl num j way rest x) θ=.ok (.nx,asl num j way rest x) θ'/\Pl A F (n+1) θ':=by
 have h1:=h.end hj (Zcc (E j)).2
 have hT1:=two_closeF hT hj s1 s2
 have cl:=Zmp h hj
 have pl:∀θ',Sta θ' (Zaf E j (Zcc (E j)).2) rd T G now K->Pl A F (n+1) θ':=fun θ' q=>⟨_,rd,T,G,now,K,q,hT1,fun i hi=>by have:=hl i hi; omega,by omega,fun i hi=>by have:=hr i hi; omega⟩
 obtain ⟨ρ,hρ⟩:∃ρ,ρ=asl num j way rest x:=⟨_,rfl⟩
 rw [<-hρ]
 have t1:zV (mCB ZcA (Zc (Zd 5) Zi)) ρ θ=.ok (Zcc (E j)).1 (upE θ (4*j) (Zcc (E j)).2):=by
  have:mCB ZcA (Zc (Zd 5) Zi) ρ θ=ZcA [.ref (4*j)] θ:=by rw [hρ]; simp [asl]
  rw [Zvl,this,cl,R.bind_ok]
  rfl
 unfold Zfx
 rw [Zi8,t1,R.bind_ok]
 cases q:(Zcc (E j)).1 with
 | true=>
  rw [if_pos rfl]
  obtain ⟨c0,c1,hc⟩:=h1.cl
  have gc:=Zop h1 (ρ:=ρ) (i:=0) (by rw [hρ]; rfl)
  refine ⟨_,ZjX (j:=j) (l:=14) (v:=.bl true) (by rfl) gc (by rw [hρ]; rfl) hc hj,pl _ ?_⟩
  exact h1.closed _ _
 | false=>
  rw [if_neg (by simp)]
  exact ⟨_,rfl,pl _ h1⟩
end
open Classical in
theorem ZgP {S:Src} {all:List D} {tst:D->Sto->R Bool} {elt:D->Sto->R D} {θ:Sto} (p:D->Bool) (hS:S.items θ=some all):∀(xs acc:List D),(∀x∈xs,tst x θ=.ok (p x) θ/\elt x θ=.ok x θ)->acc.length+xs.length<=BIG->Zc0 S all tst elt xs acc θ=.ok (.ref θ.length) (θ++[.lst (acc++xs.filter p)])
 | [],acc,_,hl=>by
  unfold Zc0
  rw [if_pos ⟨hS,by simpa using hl⟩,List.filter_nil,YV]
 | x::xs,acc,h,hl=>by
  obtain ⟨h1,h2⟩:=h x (Ys)
  have h':∀y∈xs,tst y θ=.ok (p y) θ/\elt y θ=.ok y θ:=fun y hy=>h y (Yo _ hy)
  unfold Zc0
  rw [if_pos hS,h1,R.bind_ok]
  rw [Yc] at hl
  cases hp:p x with
  | true=>
   rw [if_pos rfl,h2,R.bind_ok,ZgP p hS xs (acc++[x]) h' (by rw [Yj,YX]; omega),Y4 hp,YF]
   rfl
  | false=>
   rw [if_neg (by simp),ZgP p hS xs acc h' (by omega),Y3 (by simp [hp])]
section
variable {A F:Nat->Int} {θ:Sto} {E:Nat->Zm} {rd:Nat->List (Seg×Int)} {sd:Nat->List Seg} {T G:Nat->List Int} {now:Int} {K:Nat->Nat} {ρ:List Sl} {i j:Nat}
noncomputable def fresh (now:Int) (q:List (Seg×Int)):List (Seg×Int):=q.filter fun p=>decide (now-p.2<=2000)
theorem ZnT (h:Sta θ E rd T G now K) (hi:i<2) (hb:(rd i).length<=50000):Zdx (mIn (Zd 0)) [1] (ZC (mOp leM (mOp Zdq (ZZ (Zd 1) (mC (.str "now"))) (mOp ixM (Zd 0) (mC (.int 1)))) (mC (.int 2000)))) (Zd 0) [.val (.ref (K i)),.val (.ref 8)] θ=.ok (.ref θ.length) (θ++[.lst ((fresh now (rd i)).map item)]):=by
 have ls:zK θ (.ref (K i))=some ((rd i).map item):=by simp [zK,h.rdj hi]
 have sq:seqOf θ (.ref (K i))=some ((rd i).map item):=by simp [seqOf,ls]
 have src:mIn (Zd 0) [.val (.ref (K i)),.val (.ref 8)] θ=.ok (.seq (.ref (K i))) θ:=by simp [mIn,sq]
 have hS:Src.items θ (.seq (.ref (K i)))=some ((rd i).map item):=sq
 have hbb:((rd i).map item).length<=BIG:=by rw [List.length_map]; simp [BIG]; omega
 unfold Zdx
 rw [src,R.bind_ok]
 simp only [hS]
 rw [if_pos hbb,ZgP (fun d=>match d with | .tup [_,.int t]=>decide (now-t<=2000) | _=>false) hS ((rd i).map item) []]
 ·rw [YW,List.filter_map]
  rfl
 ·intro x hx
  obtain ⟨p,hp,rfl⟩:=YJ.mp hx
  have gn:=ZiM h (ρ:=[.val (item p),.val (.ref 8)]) (i:=1) rfl
  have ie:inEnv [1] [.val (.ref (K i)),.val (.ref 8)] (item p)=[.val (item p),.val (.ref 8)]:=rfl
  rw [ie]
  constructor
  ·have ih:item p=.tup [il (putL p.1),.int p.2]:=rfl
   rw [ih] at gn ⊢
   simp [gn]
  ·simp
 ·simpa using hbb
theorem Zza {num way rest:Int} {n:Nat} (hn:n<=29) (h:Sta θ E rd T G now K) (hT:TwoF A F T G now E (ZaQ rd)) (hl:∀i,i<2->(T i).length<=64*n+64) (hw:0<=now/\now<=1000*(n:Int)) (hr:∀i,i<2->(rd i).length<=1000*(n+1)) (hj:j<2) (x:Sl) :
  ∃θ',Zr (Zgb (Zd 0) (mC (.str "now")) (mOp zn (ZZ (Zd 0) (mC (.str "now"))) (mOp ixM (Zba (Zc (mC (.int 1)) (Zc (mC (.int 300)) (Zc (mC (.int 1000)) Zi)))) (mOp zG (Zd 4) (mC (.int 3))))))
     (Zgb (Zd 0) (mC (.str "roads")) (ZcI (mIn (ZZ (Zd 0) (mC (.str "roads")))) [0] (Zdx (mIn (Zd 0)) [1] (ZC (mOp leM (mOp Zdq (ZZ (Zd 1) (mC (.str "now"))) (mOp ixM (Zd 0) (mC (.int 1)))) (mC (.int 2000)))) (Zd 0)))) (asl num j way rest x) θ=.ok (.nx,asl num j way rest x) θ'/\Pl A F (n+1) θ':=by
 obtain ⟨ρ,hρ⟩:∃ρ,ρ=asl num j way rest x:=⟨_,rfl⟩
 have r8:ρ[0]?=some (.val (.ref 8)):=by rw [hρ]; rfl
 obtain ⟨t,ht,ht2⟩:∃t:Int,mOp ixM (Zba (Zc (mC (.int 1)) (Zc (mC (.int 300)) (Zc (mC (.int 1000)) Zi)))) (mOp zG (Zd 4) (mC (.int 3))) ρ θ=.ok (.int t) θ/\(0<=t/\t<=1000):=by
  have c:rest % 3=0\/rest % 3=1\/rest % 3=2:=by omega
  have l3:D.lst [.int 1,.int 300,.int 1000]=il [1,300,1000]:=rfl
  rw [hρ]
  rcases c with c | c | c
  ·exact ⟨1,by simp [asl,c],by omega⟩
  ·exact ⟨300,by simp [asl,c],by omega⟩
  ·exact ⟨1000,by simp [asl,c,l3,Zr7]; rfl,by omega⟩
 obtain ⟨rv,d1,d2⟩:=h.dk
 have gn:=ZiM h r8
 have o8:∀θ,Zd 0 ρ θ=.ok (.ref 8) θ:=fun θ=>by rw [hρ]; rfl
 have p1:Zgb (Zd 0) (mC (.str "now")) (mOp zn (ZZ (Zd 0) (mC (.str "now"))) (mOp ixM (Zba (Zc (mC (.int 1)) (Zc (mC (.int 300)) (Zc (mC (.int 1000)) Zi)))) (mOp zG (Zd 4) (mC (.int 3))))) ρ θ=.ok (.nx,ρ) (θ.set 8 (.dK (Zbk rv (now+t)))):=by
  have v:mOp zn (ZZ (Zd 0) (mC (.str "now"))) (mOp ixM (Zba (Zc (mC (.int 1)) (Zc (mC (.int 300)) (Zc (mC (.int 1000)) Zi)))) (mOp zG (Zd 4) (mC (.int 3)))) ρ θ=.ok (.int (now+t)) θ:=by
   rw [Zmd,gn,R.bind_ok,ht,R.bind_ok]
   simp
  unfold Zgb
  rw [v,R.bind_ok,o8,R.bind_ok]
  show (match ZdX (.str "now"),dkOf θ (.ref 8) with | some k,some (l,kvs)=>if kvs.length<BIG then R.ok (Fl.nx,ρ) (List.set θ l (.dK (putD kvs k (.int (now+t))))) else R.bad | _,_=>R.bad)=_
  rw [d1]
  show (if (Zbk rv now).length<BIG then R.ok (Fl.nx,ρ) (List.set θ 8 (.dK (putD (Zbk rv now) (.inr "now") (.int (now+t))))) else R.bad)=_
  rw [Zv9,if_pos (by show 6<BIG; simp [BIG])]
 have h1:Sta (θ.set 8 (.dK (Zbk rv (now+t)))) E rd T G (now+t) K:=h.dput d2 h.k h.r0 h.r1
 obtain ⟨θ1,hθ1⟩:∃θ1,θ1=θ.set 8 (.dK (Zbk rv (now+t))):=⟨_,rfl⟩
 rw [<-hθ1] at p1 h1
 obtain ⟨rv1,e1,e2⟩:=h1.dk
 have g0:=ZnT h1 (i:=0) (by omega) (by have:=hr 0 (by omega); omega)
 have h2:=h1.app [.lst ((fresh (now+t) (rd 0)).map item)]
 have g1:=ZnT h2 (i:=1) (by omega) (by have:=hr 1 (by omega); omega)
 have h3:=h2.app [.lst ((fresh (now+t) (rd 1)).map item)]
 have sv:∀θ',(∃X,θ'=θ1++X)->seqOf θ' rv1=some [.ref (K 0),.ref (K 1)]:=by
  rintro θ' ⟨X,rfl⟩
  rcases e2 with ⟨q,q2⟩ | q
  ·subst q
   have:(θ1++X)[11]?=some (.lst [.ref (K 0),.ref (K 1)]):=by rw [Yp (Ye.mp q2).1]; exact q2
   simp [seqOf,zK,this]
  ·subst q
   rfl
 have gr:ZZ (Zd 0) (mC (.str "roads")) ρ θ1=.ok rv1 θ1:=by simp [ZZ,r8,e1,ZdX,Zi9]
 obtain ⟨θ3,hθ3⟩:∃θ3,θ3=θ1++[.lst ((fresh (now+t) (rd 0)).map item)]++[.lst ((fresh (now+t) (rd 1)).map item)]:=⟨_,rfl⟩
 have cp:ZcI (mIn (ZZ (Zd 0) (mC (.str "roads")))) [0] (Zdx (mIn (Zd 0)) [1] (ZC (mOp leM (mOp Zdq (ZZ (Zd 1) (mC (.str "now"))) (mOp ixM (Zd 0) (mC (.int 1)))) (mC (.int 2000)))) (Zd 0)) ρ θ1=.ok (.lst [.ref θ1.length,.ref (θ1.length+1)]) θ3:=by
  have src:mIn (ZZ (Zd 0) (mC (.str "roads"))) ρ θ1=.ok (.seq rv1) θ1:=by
   unfold mIn
   rw [gr,R.bind_ok,sv θ1 ⟨[],by simp⟩]
  have i1:Src.items θ1 (.seq rv1)=some [.ref (K 0),.ref (K 1)]:=sv θ1 ⟨[],by simp⟩
  have i2:Src.items (θ1++[.lst ((fresh (now+t) (rd 0)).map item)]) (.seq rv1)=some [.ref (K 0),.ref (K 1)]:=sv _ ⟨_,rfl⟩
  have i3:Src.items θ3 (.seq rv1)=some [.ref (K 0),.ref (K 1)]:=sv _ ⟨_,by rw [hθ3,YF]⟩
  have n1:∀k,inEnv [0] ρ (.ref k)=[.val (.ref k),.val (.ref 8)]:=fun k=>by rw [hρ]; rfl
  have l1:(θ1++[Cell.lst ((fresh (now+t) (rd 0)).map item)]).length=θ1.length+1:=by simp
  rw [l1] at g1
  unfold ZcI
  rw [src,R.bind_ok]
  simp only [i1]
  simp [Zgl,i1,r8,g0,i2,g1,<-hθ3,i3]
 rw [<-hθ3] at h3
 obtain ⟨rv3,f1,f2⟩:=h3.dk
 have p2:Zgb (Zd 0) (mC (.str "roads")) (ZcI (mIn (ZZ (Zd 0) (mC (.str "roads")))) [0] (Zdx (mIn (Zd 0)) [1] (ZC (mOp leM (mOp Zdq (ZZ (Zd 1) (mC (.str "now"))) (mOp ixM (Zd 0) (mC (.int 1)))) (mC (.int 2000)))) (Zd 0))) ρ θ1=.ok (.nx,ρ) (θ3.set 8 (.dK (Zbk (.lst [.ref θ1.length,.ref (θ1.length+1)]) (now+t)))):=by
  unfold Zgb
  rw [cp,R.bind_ok,o8,R.bind_ok]
  show (match ZdX (.str "roads"),dkOf θ3 (.ref 8) with | some k,some (l,kvs)=>if kvs.length<BIG then R.ok (Fl.nx,ρ) (List.set θ3 l (.dK (putD kvs k (.lst [.ref θ1.length,.ref (θ1.length+1)])))) else R.bad | _,_=>R.bad)=_
  rw [f1]
  show (if (Zbk rv3 (now+t)).length<BIG then R.ok (Fl.nx,ρ) (List.set θ3 8 (.dK (putD (Zbk rv3 (now+t)) (.inr "roads") (.lst [.ref θ1.length,.ref (θ1.length+1)])))) else R.bad)=_
  rw [ZqY,if_pos (by show 6<BIG; simp [BIG])]
 rw [<-hρ]
 refine ⟨_,by rw [Za1,p1,ZT,p2],?_⟩
 have len1:=h1.len
 have h4:=h3.dput (now':=now+t) (rd':=fun i=>if i=0 then fresh (now+t) (rd 0) else fresh (now+t) (rd 1)) (K':=fun i=>if i=0 then θ1.length else θ1.length+1) (rv':=.lst [.ref θ1.length,.ref (θ1.length+1)]) (.inr rfl) ⟨by simp,by simp; omega,by simp; omega⟩ (by
  rw [hθ3]
  show (θ1++[.lst ((fresh (now+t) (rd 0)).map item)]++[.lst ((fresh (now+t) (rd 1)).map item)])[θ1.length]?=_
  rw [YF,YA (Yb _),Y6]
  rfl) (by
  rw [hθ3]
  show (θ1++[.lst ((fresh (now+t) (rd 0)).map item)]++[.lst ((fresh (now+t) (rd 1)).map item)])[θ1.length+1]?=_
  rw [YF,YA (by omega),show θ1.length+1 - θ1.length=1 by omega]
  rfl)
 have sub:∀i s,s∈ZaQ (fun i=>if i=0 then fresh (now+t) (rd 0) else fresh (now+t) (rd 1)) i->i<2->s∈ZaQ rd i:=by
  intro i s hs hi
  obtain ⟨p,hp,rfl⟩:=YJ.mp hs
  refine YJ.mpr ⟨p,?_,rfl⟩
  have:i=0\/i=1:=by omega
  rcases this with rfl | rfl
  ·exact (YN.mp hp).1
  ·exact (YN.mp hp).1
 have hT1:TwoF A F T G (now+t) E (ZaQ (fun i=>if i=0 then fresh (now+t) (rd 0) else fresh (now+t) (rd 1))):=Two.sub (two_later hT (by omega)) (fun s hs=>sub 0 s hs (by omega)) (fun s hs=>sub 1 s hs (by omega))
 refine ⟨E,_,T,G,now+t,_,h4,hT1,fun i hi=>by have:=hl i hi; omega,by omega,fun i hi=>?_⟩
 have:i=0\/i=1:=by omega
 rcases this with rfl | rfl
 ·have a:=YY (fun p:Seg×Int=>decide (now+t-p.2<=2000)) (rd 0)
  have b:=hr 0 hi
  show (fresh (now+t) (rd 0)).length<=_
  unfold fresh
  omega
 ·have a:=YY (fun p:Seg×Int=>decide (now+t-p.2<=2000)) (rd 1)
  have b:=hr 1 hi
  show (fresh (now+t) (rd 1)).length<=_
  unfold fresh
  omega
end
def Zfi:SM:=(Zfy (Zb3 (Zc (mC (.int 2)) Zi)) (gNm 3) (zj (mCB ZeC (Zc (Zd 1) (Zc (Zd 3) Zi)))))
def Zfh:SM:=(Zfy (mIn (Zd 4)) (gNm 5) (zj (mCB zZ (Zc (mOp ixM (ZZ (Zd 1) (mC (.str "ends"))) (Zd 3)) (Zc (mOp ixM (Zd 5) (mC (.int 0))) (Zc (ZZ (Zd 1) (mC (.str "now"))) Zi))))))
def Zfg:SM:=(Zfy (Zb3 (Zc (mC (.int 2)) Zi)) (gNm 3) (Zr (Z5 4 (mOp ixM (ZZ (Zd 1) (mC (.str "roads"))) (Zd 3)))
    (Zr (ZeB (ZZ (Zd 1) (mC (.str "roads"))) (Zd 3) (ZaE Zi))
    Zfh)))
def Zff:SM:=(Zfy (Zb3 (Zc (mC (.int 3)) Zi)) (gNm 2) (Zr Zfi
   Zfg))
def Zhf:SM:=(Zfy (Zb3 (Zc (mC (.int 2)) Zi)) (gNm 3) (Zr (Z5 6 (ZcI (Zb3 (Zc (mOp zG (mCB ZaF (Zc (Zd 0) (Zc (mOp zn (mC (.int 10)) (Zd 3)) Zi))) (mC (.int 40))) Zi)) [0,3] (mOp zG (mOp zn (mCB ZaF (Zc (Zd 1) (Zc (mOp zn (mC (.int 8)) (Zd 2)) Zi))) (mOp Zeg (mC (.int 11)) (Zd 0))) (mC (.int 256)))))
   (ZeB (ZZ (Zd 1) (mC (.str "taken"))) (Zd 3) (mSl (Zd 6) Zaw (Zb4 (mCB Za4 (Zc (mOp ixM (ZZ (Zd 1) (mC (.str "ends"))) (Zd 3)) (Zc (Zd 6) Zi))))))))
def Zfe:SM:=(mIf (ZC (mOp gtM (mOp zG (mCB ZaF (Zc (Zd 0) (Zc (mC (.int 7)) Zi))) (mC (.int 4))) (mC (.int 0)))) (Zr Zff
  Zhf) ZN)
def Zfv:SM:=Zfe
def Zej:GM:=ZQ 2 7 Zfv
def ZgT:SM:=(mIf (ZeV (zV (mCB Zkn (Zc (Zd 1) (Zc (mCB ZaF (Zc (Zd 0) (Zc (mOp zn (mC (.int 12)) (Zd 2)) Zi))) Zi))))) (ZP (mC (.bl false))) ZN)
def Zi2:SM:=(Zfy (Zb3 (Zc (mOp zG (mCB ZaF (Zc (Zd 0) (Zc (mC (.int 5)) Zi))) (mC (.int 23))) Zi)) (gNm 2) ZgT)
def ZjE:SM:=(Zr (Z5 1 (mCB ZgI (Zc (Zd 0) Zi)))
 (Zr (zj (mCB Zej (Zc (Zd 0) (Zc (Zd 1) Zi))))
 (Zr Zi2
 (ZP (mC (.bl true))))))
def ZlW:GM:=ZQ 1 3 ZjE
section
variable {θ:Sto}
theorem Zkk (a:Err):∀bs:List Err,ZgV (bs.map fun b=>D.str b.s)=true/\memS a.s (bs.map fun b=>D.str b.s)=decide (a∈bs)
 | []=>⟨rfl,by simp [memS]⟩
 | b::bs=>by
  obtain ⟨h1,h2⟩:=Zkk a bs
  refine ⟨h1,?_⟩
  rw [Yf]
  show (decide (b.s=a.s) || memS a.s (bs.map fun b=>D.str b.s))=_
  rw [h2,Jb]
  simp only [YO,decide_eq_true_eq,Yq,Err.inj]
  constructor
  ·rintro (h | h)
   ·exact .inl h.symm
   ·exact .inr h
  ·rintro (h | h)
   ·exact .inl h.symm
   ·exact .inr h
theorem Zrh (a:Err) (bs:List Err):inM (.str a.s) (.tup (bs.map fun b=>.str b.s)) θ=.ok (.bl (decide (a∈bs))) θ:=by
 obtain ⟨h1,h2⟩:=Zkk a bs
 have e:inD θ (.str a.s) (.tup (bs.map fun b=>D.str b.s))=some (decide (a∈bs)):=by
  unfold inD
  simp only [ZeJ]
  rw [if_pos h1,h2]
 unfold inM
 rw [e]
end
theorem Zjx {k:Nat} {ρ ρ1 ρ2:List Sl} {θ θ1 θ2:Sto} {B:SM} (h0:B (ρ.set k (.val (.int 0))) θ=.ok (.nx,ρ1) θ1) (h1:B (ρ1.set k (.val (.int 1))) θ1=.ok (.nx,ρ2) θ2):Zfy (Zb3 (Zc (mC (.int 2)) Zi)) (gNm k) B ρ θ=.ok (.nx,ρ2) θ2:=by
 have rg:Zb3 (Zc (mC (.int 2)) Zi) ρ θ=.ok (.rng 0 2) θ:=by simp
 have it:∀θ,(Src.rng 0 2).items θ=some [.int 0,.int 1]:=fun _=>rfl
 have g0:gNm k (D.int 0) ρ=some (ρ.set k (.val (.int 0))):=rfl
 have g1:gNm k (D.int 1) ρ1=some (ρ1.set k (.val (.int 1))):=rfl
 unfold Zfy
 rw [rg,R.bind_ok]
 simp only [it,Zel,if_true,g0,g1,h0,h1,R.bind_ok,ZbX]
section
variable {A F:Nat->Int} {θ:Sto} {E:Nat->Zm} {rd:Nat->List (Seg×Int)} {sd:Nat->List Seg} {T G:Nat->List Int} {now:Int} {K:Nat->Nat} {ρ:List Sl} {i j:Nat}
theorem Zkt (h:Sta θ E rd T G now K) (hT:TwoF A F T G now E sd) (hj:j<2):Zr Zey Zex [.val (.ref 8),.val (.int (j:Int))] θ=.ok (.nx,[.val (.ref 8),.val (.int (j:Int))]) θ:=by
 obtain ⟨g1,g2⟩:=(hT.at hj).good
 have gg:=Zoo h (ρ:=[.val (.ref 8),.val (.int (j:Int))]) (i:=0) rfl
 have gt:=Zht h (ρ:=[.val (.ref 8),.val (.int (j:Int))]) (i:=0) rfl
 have ge:=ZgO h (ρ:=[.val (.ref 8),.val (.int (j:Int))]) (i:=0) rfl
 have ix:=Zoe h hj
 have it:=Zko h (j:=1-j) (by omega)
 have ie:=ZgM (θ:=θ) hj
 have er:=Zmo h hj
 have cj:(1:Int)-(j:Int)=((1-j:Nat):Int):=by omega
 have ct:ZbA (T (1-j)) none (some ((G j).length:Int))=G j:=by
  rw [Zcw _ (by omega),Int.toNat_natCast]
  exact g1.symm
 have b1:Zey [.val (.ref 8),.val (.int (j:Int))] θ=.ok (.nx,[.val (.ref 8),.val (.int (j:Int))]) θ:=by
  simp [Zey,gg,gt,ix,cj,it,ct]
 have b2:Zex [.val (.ref 8),.val (.int (j:Int))] θ=.ok (.nx,[.val (.ref 8),.val (.int (j:Int))]) θ:=by
  have ii:inM (.str Err.none.s) (.tup [.str Err.refused.s,.str Err.reset.s]) θ=.ok (.bl false) θ:=by
   have:=Zrh (θ:=θ) Err.none [.refused,.reset]
   exact this.trans (by simp)
  rw [g2] at er
  simp [Zex,ge,ie,er,ii]
 rw [Za1,b1,ZT,b2]
theorem Zrm (h:Sta θ E rd T G now K) (hT:TwoF A F T G now E sd):ZgJ [.ref 8] θ=.ok (.bl true) θ:=by
 have b3:Zie [.val (.ref 8),.no] θ=.ok (.nx,[.val (.ref 8),.val (.int 1)]) θ:=Zjx (k:=1) (ρ1:=[.val (.ref 8),.val (.int 0)]) (Zkt h hT (j:=0) (by omega)) (Zkt h hT (j:=1) (by omega))
 have b:Zif [.val (.ref 8),.no] θ=.ok (.rt (.bl true),[.val (.ref 8),.val (.int 1)]) θ:=by
  unfold Zif
  rw [Za1,b3,ZT]
  simp
 simp [ZgJ,b]
noncomputable def Zj3 (r:Int) (m:Nat):List Int:=(List.range m).map fun (k:Nat)=>(r+11*(k:Int)) % 256
theorem Zj2 (r:Int) (m:Nat):ZkN (Zj3 r m):=by
 intro z hz
 obtain ⟨k,_,rfl⟩:=YJ.mp hz
 omega
theorem Zz8 {num:Int} {n:Nat} (hn:n<=27) (h0:0<=num/\num<=4294967295) (hj:(j:Int)=num % 2) (h:Sta θ E rd T G now K) (hT:TwoF A F T G now E (ZaQ rd)) (hl:∀i,i<2->(T i).length<=64*n+64) (hw:0<=now/\now<=1000*(n:Int)) (hr:∀i,i<2->(rd i).length<=1000*(n+1)) :
  ∃θ' x,ZgU (asl num j (num/2 % 10) (num/20) .no) θ=.ok (.nx,asl num j (num/2 % 10) (num/20) x) θ'/\Pl A F (n+1) θ':=by
 have j2:j<2:=by omega
 obtain ⟨way,hway⟩:∃w,w=num/2 % 10:=⟨_,rfl⟩
 obtain ⟨rest,hrest⟩:∃w,w=num/20:=⟨_,rfl⟩
 rw [<-hway,<-hrest]
 have r0:0<=rest/\rest<=4294967295:=by omega
 have w9:0<=way/\way<=9:=by omega
 have pl:∀θ',(∃E' rd',Sta θ' E' rd' T G now K/\TwoF A F T G now E' (ZaQ rd')/\∀i,(rd' i).length<=(rd i).length+100)->Pl A F (n+1) θ':=by
  rintro θ' ⟨E',rd',q1,q2,q3⟩
  exact ⟨E',rd',T,G,now,K,q1,q2,fun i hi=>by have:=hl i hi; omega,by omega,fun i hi=>by have:=hr i hi; have:=q3 i; omega⟩
 unfold ZgU
 by_cases c0:way=0
 ·
  obtain ⟨m,hm⟩:∃m:Nat,(m:Int)=rest/256 % 30:=⟨(rest/256 % 30).toNat,by omega⟩
  have cp:ZcI (Zb3 (Zc (mOp zG (mOp Zen (Zd 4) (mC (.int 256))) (mC (.int 30))) Zi)) [4] (mOp zG (mOp zn (Zd 1) (mOp Zeg (mC (.int 11)) (Zd 0))) (mC (.int 256))) (asl num j way rest .no) θ=.ok (il (Zj3 rest m)) θ:=by
   rw [ZiH (lo:=0) (n:=m) (θ':=θ) (fun k=>.int ((rest+11*k) % 256)) (by simp [asl,<-hm]; omega) (by simp [BIG]; omega) (by
    intro k hk
    have mb:ZfT 11 (k:Int):=.inl (by omega)
    have ie:inEnv [4] (asl num j way rest .no) (.int (0+(k:Int)))=[.val (.int (k:Int)),.val (.int rest)]:=by simp [inEnv,asl]
    rw [ie]
    simp [mb])]
   unfold il Zj3
   rw [Je]
   simp [Function.comp_def]
  have s6:Z5 6 (ZcI (Zb3 (Zc (mOp zG (mOp Zen (Zd 4) (mC (.int 256))) (mC (.int 30))) Zi)) [4] (mOp zG (mOp zn (Zd 1) (mOp Zeg (mC (.int 11)) (Zd 0))) (mC (.int 256)))) (asl num j way rest .no) θ=.ok (.nx,asl num j way rest (.val (il (Zj3 rest m)))) θ:=by
   rw [ZjK,cp]
   rfl
  obtain ⟨θ',w1,w2⟩:=Zzd (num:=num) (way:=way) (rest:=rest) (by omega) h hT hl hw hr j2 (Zj2 rest m) (by simp [Zj3]; omega)
  have t:ZC (mOp eqM (Zd 3) (mC (.int 0))) (asl num j way rest .no) θ=.ok true θ:=by simp [asl,c0]
  refine ⟨θ',.val (il (Zj3 rest m)),?_,w2⟩
  rw [Zi8,t,R.bind_ok,if_pos rfl,Za1,s6,ZT]
  exact w1
 ·have t:ZC (mOp eqM (Zd 3) (mC (.int 0))) (asl num j way rest .no) θ=.ok false θ:=by simp [asl,c0]
  rw [Zi8,t,R.bind_ok,if_neg (by simp)]
  unfold Zi4
  by_cases c1:way=1
  ·obtain ⟨θ',w1,w2⟩:=Zzc (num:=num) (way:=way) (rest:=rest) (by omega) h hT hl hw hr j2 .no
   have t:ZC (mOp eqM (Zd 3) (mC (.int 1))) (asl num j way rest .no) θ=.ok true θ:=by simp [asl,c1]
   refine ⟨θ',.no,?_,w2⟩
   rw [Zi8,t,R.bind_ok,if_pos rfl]
   exact w1
  ·have t:ZC (mOp eqM (Zd 3) (mC (.int 1))) (asl num j way rest .no) θ=.ok false θ:=by simp [asl,c1]
   rw [Zi8,t,R.bind_ok,if_neg (by simp)]
   unfold Zi5
   have ss:=Zmn h j2
   by_cases c2:way=2/\rest % 3=0/\(E j).Qw≠.Qu/\(E j).Qw≠.Qg
   ·obtain ⟨θ',w1,w2⟩:=Zzb (num:=num) (way:=way) (rest:=rest) h hT hl hw hr j2 c2.2.2.1 c2.2.2.2 .no
    refine ⟨θ',.no,?_,w2⟩
    rw [<-w1]
    simp [asl,c2.1,c2.2.1,ss,c2.2.2.1,c2.2.2.2]
   ·
    have e3:mIf (ZeI (ZC (mOp eqM (Zd 3) (mC (.int 2)))) (ZeI (ZC (mOp eqM (mOp zG (Zd 4) (mC (.int 3))) (mC (.int 0)))) (ZC (mOp ZcQ (mCB Zeb (Zc (Zd 5) Zi)) (Zbj (Zc (mC (.str "listen")) (Zc (mC (.str "syn sent")) Zi))))))) Zfx Zfw (asl num j way rest .no) θ=Zfw (asl num j way rest .no) θ:=by
     by_cases d1:way=2
     ·by_cases d2:rest % 3=0
      ·have d3:(E j).Qw=.Qu\/(E j).Qw=.Qg:=by
        by_cases d4:(E j).Qw=.Qu
        ·exact .inl d4
        ·by_cases d5:(E j).Qw=.Qg
         ·exact .inr d5
         ·exact absurd ⟨d1,d2,d4,d5⟩ c2
       rcases d3 with d3 | d3<;>simp [asl,d1,d2,ss,d3]
      ·simp [asl,d1,d2]
     ·simp [asl,d1]
    rw [e3]
    unfold Zfw
    by_cases c3:way=3
    ·obtain ⟨θ',w1,w2⟩:=Zza (num:=num) (way:=way) (rest:=rest) (by omega) h hT hl hw hr j2 .no
     have t:ZC (mOp eqM (Zd 3) (mC (.int 3))) (asl num j way rest .no) θ=.ok true θ:=by simp [asl,c3]
     refine ⟨θ',.no,?_,w2⟩
     rw [Zi8,t,R.bind_ok,if_pos rfl]
     exact w1
    ·have t:ZC (mOp eqM (Zd 3) (mC (.int 3))) (asl num j way rest .no) θ=.ok false θ:=by simp [asl,c3]
     rw [Zi8,t,R.bind_ok,if_neg (by simp)]
     unfold Zi6
     have lj:=hl j j2
     have lo:=hl (1-j) (by omega)
     have rj:=hr j j2
     have ro:=hr (1-j) (by omega)
     by_cases c6:way<6
     ·obtain ⟨θ',E',rd',k1,k2,k3,k4⟩:=ZoL h hT j2 (by omega) (by omega) (by omega)
      refine ⟨θ',.no,?_,pl θ' ⟨E',rd',k2,k3,k4.1⟩⟩
      simp [asl,c6,k1]
     ·obtain ⟨θ',E',rd',k1,k2,k3,k4⟩:=ZoI (num:=rest) h hT j2 (by omega) (by omega) hw.1 (by omega) r0.1 r0.2
      refine ⟨θ',.no,?_,pl θ' ⟨E',rd',k2,k3,fun i=>by have:=k4 i; omega⟩⟩
      simp [asl,c6,k1]
theorem ZuT {num:Int} {n:Nat} (hn:n<=27) (h0:0<=num/\num<=4294967295) (hp:Pl A F n θ):∃θ',Zkn [.ref 8,.int num] θ=.ok (.bl true) θ'/\Pl A F (n+1) θ':=by
 obtain ⟨E,rd,T,G,now,K,h,hT,hl,hw,hr⟩:=hp
 obtain ⟨j,hj⟩:∃j:Nat,(j:Int)=num % 2:=⟨(num % 2).toNat,by omega⟩
 have j2:j<2:=by omega
 obtain ⟨θ',x,a6,hp'⟩:=Zz8 hn h0 hj h hT hl hw hr
 obtain ⟨E',rd',T',G',now',K',h',hT',hrest⟩:=id hp'
 have gd:=Zrm h' hT'
 refine ⟨θ',?_,hp'⟩
 have ge:=ZgO h (ρ:=[.val (.ref 8),.val (.int num),.val (.int (j:Int)),.val (.int (num/2 % 10)),.val (.int (num/20)),.no,.no]) (i:=0) rfl
 have ie:=ZgM (θ:=θ) j2
 have s5:Z5 5 (mOp ixM (ZZ (Zd 0) (mC (.str "ends"))) (Zd 2)) [.val (.ref 8),.val (.int num),.val (.int (j:Int)),.val (.int (num/2 % 10)),.val (.int (num/20)),.no,.no] θ=.ok (.nx,asl num j (num/2 % 10) (num/20) .no) θ:=by
  rw [ZjK,Zmd,ge,R.bind_ok]
  simp [ie,asl]
 have b:ZjG [.val (.ref 8),.val (.int num),.no,.no,.no,.no,.no] θ=.ok (.rt (.bl true),asl num j (num/2 % 10) (num/20) x) θ':=by
  have s2:Z5 2 (mOp zG (Zd 1) (mC (.int 2))) [.val (.ref 8),.val (.int num),.no,.no,.no,.no,.no] θ=.ok (.nx,[.val (.ref 8),.val (.int num),.val (.int (j:Int)),.no,.no,.no,.no]) θ:=by simp [hj]
  have s3:Z5 3 (mOp zG (mOp Zen (Zd 1) (mC (.int 2))) (mC (.int 10))) [.val (.ref 8),.val (.int num),.val (.int (j:Int)),.no,.no,.no,.no] θ=.ok (.nx,[.val (.ref 8),.val (.int num),.val (.int (j:Int)),.val (.int (num/2 % 10)),.no,.no,.no]) θ:=by simp
  have s4:Z5 4 (mOp Zen (Zd 1) (mC (.int 20))) [.val (.ref 8),.val (.int num),.val (.int (j:Int)),.val (.int (num/2 % 10)),.no,.no,.no] θ=.ok (.nx,[.val (.ref 8),.val (.int num),.val (.int (j:Int)),.val (.int (num/2 % 10)),.val (.int (num/20)),.no,.no]) θ:=by simp
  have rt:ZP (mCB ZgJ (Zc (Zd 0) Zi)) (asl num j (num/2 % 10) (num/20) x) θ'=.ok (.rt (.bl true),asl num j (num/2 % 10) (num/20) x) θ':=by
   simp [asl,gd]
  unfold ZjG
  rw [Za1,s2,ZT,Za1,s3,ZT,Za1,s4,ZT,Za1,s5,ZT,Za1,a6,ZT,rt]
 simp [Zkn,b]
end
section
variable {A F:Nat->Int} {θ:Sto} {E:Nat->Zm} {rd:Nat->List (Seg×Int)} {sd:Nat->List Seg} {T G:Nat->List Int} {now:Int} {K:Nat->Nat} {ρ:List Sl} {i j:Nat}
theorem ZjW (h:Sta θ E rd T G now K) (hT:TwoF A F T G now E sd) (hj:j<2) (hR:(T (1-j)).length<=5000) {s:Seg} (hs:s∈sd j):zZ [.ref (4*j),il (putL s),.int now] θ=.ok (.bl true) (upE θ (4*j) (ZbC (E j) s now)):=by
 obtain ⟨u,x,r,uo,xo,r',h1,h2⟩:=hT.at hj
 have e1:=h1.ei
 have hf:s.Ok/\s.src=A (1-j)/\s.goal=A j:=by
  rcases h1.road s hs with q | q
  ·exact ⟨q.2.2.1,q.1,q.2.1⟩
  ·exact ⟨q.2.1,q.2.2.1,q.2.2.2.1⟩
 have:=ZfY (θ:=θ) (l:=4*j) (e:=E j) (s:=s) (now:=now) (h.lt hj) e1.cl hf.1 (by simp [Zgh,e1.ours.1,e1.Qt.1,hf.2.1,hf.2.2]) (by have:=Zl1 e1 hR; omega)
 rw [h.at hj] at this
 exact this
def ZrG:SM:=zj (mCB zZ (Zc (mOp ixM (ZZ (Zd 1) (mC (.str "ends"))) (Zd 3)) (Zc (mOp ixM (Zd 5) (mC (.int 0))) (Zc (ZZ (Zd 1) (mC (.str "now"))) Zi))))
noncomputable def bsl (ns:List Int) (x2:Sl) (j:Nat) (x4 x5 x6:Sl):List Sl:=[.val (.scr ns),.val (.ref 8),x2,.val (.int (j:Int)),x4,x5,x6]
theorem ZhV {ns:List Int} {x2 x4 x6:Sl} {k0:Nat} {all:List D} (hj:j<2) (hN:(T j).length<=5000) (hR:(T (1-j)).length<=5000) (hn:0<=now) (hk:9<=k0):∀(xs:List (Seg×Int)) (θ:Sto) (E:Nat->Zm) (x5:Sl),(∀p∈xs,p.1∈sd j)->Sta θ E rd T G now K->TwoF A F T G now E sd->θ[k0]?=some (.lst all)->
  ∃θ' E' y5,Zel (.seq (.ref k0)) all (gNm 5) ZrG (xs.map item) (bsl ns x2 j x4 x5 x6) θ=.ok (.nx,bsl ns x2 j x4 y5 x6) θ'/\Sta θ' E' rd T G now K/\TwoF A F T G now E' sd/\(θ'[8]?=θ[8]?/\θ'[11]?=θ[11]?)
 | [],θ,E,x5,_,h,hT,ha=>by
  have it:Src.items θ (.seq (.ref k0))=some all:=by simp [Src.items,seqOf,zK,ha]
  refine ⟨θ,E,x5,?_,h,hT,rfl,rfl⟩
  simp only [Ym,Zel,it,if_true]
 | p::xs,θ,E,x5,hm,h,hT,ha=>by
  have it:Src.items θ (.seq (.ref k0))=some all:=by simp [Src.items,seqOf,zK,ha]
  have ps:p.1∈sd j:=hm p (Ys)
  have gg:gNm 5 (item p) (bsl ns x2 j x4 x5 x6)=some (bsl ns x2 j x4 (.val (item p)) x6):=rfl
  have ar:=ZjW h hT hj hR ps
  have ge:=ZgO h (ρ:=bsl ns x2 j x4 (.val (item p)) x6) (i:=1) rfl
  have gn:=ZiM h (ρ:=bsl ns x2 j x4 (.val (item p)) x6) (i:=1) rfl
  have ie:=ZgM (θ:=θ) hj
  have ih:item p=.tup [il (putL p.1),.int p.2]:=rfl
  have bd:ZrG (bsl ns x2 j x4 (.val (item p)) x6) θ=.ok (.nx,bsl ns x2 j x4 (.val (item p)) x6) (upE θ (4*j) (ZbC (E j) p.1 now)):=by
   unfold ZrG bsl at *
   rw [ih] at ge gn ⊢
   simp [ge,gn,ie,ar]
  have h1:=h.end hj (ZbC (E j) p.1 now)
  have hT1:=two_comeF hT hj hN hR hn ps
  have ha1:(upE θ (4*j) (ZbC (E j) p.1 now))[k0]?=some (.lst all):=by rw [ZfH (by omega)]; exact ha
  obtain ⟨θ',E',y5,w1,w2,w3,w4,w5⟩:=ZhV (x2:=x2) (x4:=x4) (x6:=x6) (ns:=ns) hj hN hR hn hk xs _ _ (.val (item p)) (fun q hq=>hm q (Yo _ hq)) h1 hT1 ha1
  refine ⟨θ',E',y5,?_,w2,w3,w4.trans (ZfH (by omega)),w5.trans (ZfH (by omega))⟩
  rw [Yf]
  simp only [Zel,it,if_true,gg]
  rw [bd,R.bind_ok,ZbX]
  exact w1
theorem Sta.clear (h:Sta θ E rd T G now K) (h8:θ[8]?=some (.dK (Zbk (.ref 11) now))) (hj:j<2):Sta ((θ++[Cell.lst []]).set 11 (.lst [if j=0 then .ref θ.length else .ref (K 0),if j=0 then .ref (K 1) else .ref θ.length])) E (Zaf rd j []) T G now (Zaf K j θ.length):=by
 have ha:=h.app [.lst []]
 have l:=h.len
 obtain ⟨k0,k1,k2⟩:=h.k
 obtain ⟨c0,c1,hc⟩:=ha.cl
 obtain ⟨e0,e1⟩:=ha.ends_set (k:=11) (by omega) (.lst [if j=0 then .ref θ.length else .ref (K 0),if j=0 then .ref (K 1) else .ref θ.length])
 have lt:∀i,i<2->K i < θ.length:=fun i hi=>(Ye.mp (h.rdj hi)).1
 have l0:=lt 0 (by omega)
 have l1:=lt 1 (by omega)
 have la:(θ++[Cell.lst []]).length=θ.length+1:=by simp
 have new:(θ++[Cell.lst []])[θ.length]?=some (.lst []):=by simp
 have a8:(θ++[Cell.lst []])[8]?=some (.dK (Zbk (.ref 11) now)):=by rw [Yp (by omega)]; exact h8
 have:j=0\/j=1:=by omega
 rcases this with rfl | rfl
 ·refine ⟨by rw [Yx,la]; omega,e0,e1,⟨.ref 11,by rw [Ya (by omega)]; exact a8,.inl ⟨rfl,by rw [Yg (by omega)]; rfl⟩⟩,?_,?_,⟨by show θ.length≠K 1; omega,.inr (.inr l),k2⟩,by rw [Ya (by omega)]; exact ha.tk,by rw [Ya (by omega)]; exact ha.gt,c0,c1,by rw [Ya (by omega)]; exact hc⟩
  ·show (List.set _ 11 _)[θ.length]?=_
   rw [Ya (by omega)]
   exact new
  ·show (List.set _ 11 _)[K 1]?=_
   rw [Ya (by omega)]
   exact ha.r1
 ·refine ⟨by rw [Yx,la]; omega,e0,e1,⟨.ref 11,by rw [Ya (by omega)]; exact a8,.inl ⟨rfl,by rw [Yg (by omega)]; rfl⟩⟩,?_,?_,⟨by show K 0≠θ.length; omega,k1,.inr (.inr l)⟩,by rw [Ya (by omega)]; exact ha.tk,by rw [Ya (by omega)]; exact ha.gt,c0,c1,by rw [Ya (by omega)]; exact hc⟩
  ·show (List.set _ 11 _)[K 0]?=_
   rw [Ya (by omega)]
   exact ha.r0
  ·show (List.set _ 11 _)[θ.length]?=_
   rw [Ya (by omega)]
   exact new
structure Beg (A F:Nat->Int) (T G:Nat->List Int) (b:Nat) (θ:Sto) (E:Nat->Zm) (rd:Nat->List (Seg×Int)) (K:Nat->Nat):Prop where
 st:Sta θ E rd T G 0 K
 two:TwoF A F T G 0 E (ZaQ rd)
 d8:θ[8]?=some (.dK (Zbk (.ref 11) 0))
 r11:θ[11]?=some (.lst [.ref (K 0),.ref (K 1)])
 len:∀i,i<2->(rd i).length<=b
 tl:∀i,i<2->(T i).length<=100
theorem Zl8 {b:Nat} (h:Beg A F T G b θ E rd K) (hb:b<=5000) (hj:j<2):∃θ' E' rd',ZeC [.ref 8,.int (j:Int)] θ=.ok .non θ'/\Beg A F T G (b+100) θ' E' rd' K:=by
 have t0:=h.tl j hj
 have l1:=h.len (1-j) (by omega)
 obtain ⟨θ',E',rd',k1,k2,k3,k4,k5,k6⟩:=ZoL h.st h.two hj (by omega) (by omega) (by omega)
 exact ⟨θ',E',rd',k1,k2,k3,k5.trans h.d8,k6.trans h.r11,fun i hi=>by have:=k4 i; have:=h.len i hi; omega,h.tl⟩
def drB:SM:=(Zr (Z5 4 (mOp ixM (ZZ (Zd 1) (mC (.str "roads"))) (Zd 3)))
    (Zr (ZeB (ZZ (Zd 1) (mC (.str "roads"))) (Zd 3) (ZaE Zi))
    Zfh))
theorem ZiY {ns:List Int} {b:Nat} {x2 x4 x5 x6:Sl} (h:Beg A F T G b θ E rd K) (hj:j<2):∃θ' E' rd' K' y4 y5,drB (bsl ns x2 j x4 x5 x6) θ=.ok (.nx,bsl ns x2 j y4 y5 x6) θ'/\Beg A F T G b θ' E' rd' K':=by
 have ix:=Zjt h.st (ρ:=bsl ns x2 j x4 x5 x6) (i:=1) rfl hj (fe:=Zd 3) rfl
 have s4:Z5 4 (mOp ixM (ZZ (Zd 1) (mC (.str "roads"))) (Zd 3)) (bsl ns x2 j x4 x5 x6) θ=.ok (.nx,bsl ns x2 j (.val (.ref (K j))) x5 x6) θ:=by
  rw [ZjK,ix]
  rfl
 have l:=h.st.len
 obtain ⟨q0,q1,q2⟩:=h.st.k
 have kj:9<=K j/\K j≠11:=by
  have:j=0\/j=1:=by omega
  rcases this with rfl | rfl<;>omega
 have klt:K j < θ.length:=(Ye.mp (h.st.rdj hj)).1
 have a8:(θ++[Cell.lst []])[8]?=some (.dK (Zbk (.ref 11) 0)):=by rw [Yp (by omega)]; exact h.d8
 have a11:(θ++[Cell.lst []])[11]?=some (.lst [.ref (K 0),.ref (K 1)]):=by rw [Yp (by omega)]; exact h.r11
 have gr:ZZ (Zd 1) (mC (.str "roads")) (bsl ns x2 j (.val (.ref (K j))) x5 x6) (θ++[Cell.lst []])=.ok (.ref 11) (θ++[Cell.lst []]):=by
  have dk:dkOf (θ++[Cell.lst []]) (.ref 8)=some (8,Zbk (.ref 11) 0):=by simp only [dkOf,a8]
  simp [ZZ,bsl,dk,ZdX,Zi9]
 have sc:=ZjX (ρ:=bsl ns x2 j (.val (.ref (K j))) x5 x6) (j:=j) (fo:=ZZ (Zd 1) (mC (.str "roads"))) (fi:=Zd 3) (fv:=ZaE Zi) (θ0:=θ) (θ1:=θ++[Cell.lst []]) (v:=.ref θ.length) (l:=11) (by simp [ZaE,Zi,BIG]) gr rfl a11 hj
 have h1:=h.st.clear h.d8 hj
 obtain ⟨θ1,hθ1⟩:∃θ1,θ1=(θ++[Cell.lst []]).set 11 (.lst [if j=0 then .ref θ.length else .ref (K 0),if j=0 then .ref (K 1) else .ref θ.length]):=⟨_,rfl⟩
 rw [<-hθ1] at sc h1
 have a1:θ1[K j]?=some (.lst ((rd j).map item)):=by
  rw [hθ1,Ya (by omega),Yp klt]
  exact h.st.rdj hj
 have t0:=h.tl j hj
 have t1:=h.tl (1-j) (by omega)
 obtain ⟨θ',E',y5,w1,w2,w3,w4,w5⟩:=ZhV (ns:=ns) (x2:=x2) (x4:=.val (.ref (K j))) (x6:=x6) (k0:=K j) (all:=(rd j).map item) (sd:=ZaQ rd) hj (by omega) (by omega) (by omega) kj.1 (rd j) θ1 E x5 (fun p hp=>YJ.mpr ⟨p,hp,rfl⟩) h1 h.two a1
 have sub:∀i s,s∈ZaQ (Zaf rd j []) i->s∈ZaQ rd i:=by
  intro i s hs
  unfold ZaQ at hs ⊢
  by_cases q:i=j
  ·rw [q,zi] at hs; simp at hs
  ·rw [ZaA _ _ q] at hs; exact hs
 refine ⟨θ',E',Zaf rd j [],Zaf K j θ.length,.val (.ref (K j)),y5,?_,⟨w2,w3.sub sub,?_,?_,fun i hi=>?_,h.tl⟩⟩
 ·have src:mIn (Zd 4) (bsl ns x2 j (.val (.ref (K j))) x5 x6) θ1=.ok (.seq (.ref (K j))) θ1:=by
   have:seqOf θ1 (.ref (K j))=some ((rd j).map item):=by simp [seqOf,zK,a1]
   simp [mIn,bsl,this]
  have it:Src.items θ1 (.seq (.ref (K j)))=some ((rd j).map item):=by simp [Src.items,seqOf,zK,a1]
  have b2:Zfh (bsl ns x2 j (.val (.ref (K j))) x5 x6) θ1=.ok (.nx,bsl ns x2 j (.val (.ref (K j))) y5 x6) θ':=by
   show Zfy (mIn (Zd 4)) (gNm 5) ZrG _ _=_
   unfold Zfy
   rw [src,R.bind_ok]
   simp only [it]
   exact w1
  unfold drB
  rw [Za1,s4,ZT,Za1,sc,ZT,b2]
 ·rw [w4,hθ1,Ya (by omega)]
  exact a8
 ·rw [w5,hθ1,Yg (by rw [Yj]; simp; omega)]
  have:j=0\/j=1:=by omega
  rcases this with rfl | rfl<;>rfl
 ·by_cases q:i=j
  ·rw [q,zi]; simp
  ·rw [ZaA _ _ q]; exact h.len i hi
end
end
end My
namespace PySem.W.Fast
noncomputable def tw937746846951146560:=0
noncomputable def tw7626050689871565056:=0
noncomputable def tw1578997078235714912:=0
noncomputable def tw14557582382748544704:=0
noncomputable def tw10004515959366636224:=0
noncomputable def tw1565616125363810881:=0
noncomputable def tw14849612547567594146:=0
noncomputable def tw10130753191728627811:=0
noncomputable def tw3130167384498245859:=0
noncomputable def tw13688220445130192195:=0
noncomputable def tw15882694770791380739:=0
noncomputable def tw13046450371421080419:=0
noncomputable def tw17839062244377291844:=0
noncomputable def tw1216731121269607012:=0
noncomputable def tw12668077611608780388:=0
noncomputable def tw10324366653078303396:=0
noncomputable def tw6722209320752117444:=0
noncomputable def tw18200485399181796100:=0
noncomputable def tw10194611980593126148:=0
noncomputable def tw18186621665568655300:=0
noncomputable def tw15382539701025894437:=0
noncomputable def tw10021616104058852677:=0
noncomputable def tw7865073596655924549:=0
noncomputable def tw18362151098185604837:=0
noncomputable def tw14552660249021699845:=0
noncomputable def tw5896290005853551589:=0
noncomputable def tw12979464286160722982:=0
noncomputable def tw3299899737210178886:=0
noncomputable def tw7706616877913506534:=0
noncomputable def tw13800199398622512966:=0
noncomputable def tw11109791899312940998:=0
noncomputable def tw4083644166489608551:=0
noncomputable def tw16486730621801416039:=0
noncomputable def tw7100019706383987079:=0
noncomputable def tw10594782919179435527:=0
noncomputable def tw16177804289685028391:=0
noncomputable def tw5424173476963352359:=0
noncomputable def tw12640697080579494952:=0
noncomputable def tw2689630240672123528:=0
noncomputable def tw12606778044937482441:=0
noncomputable def tw5837045432117286793:=0
noncomputable def tw15515139030976369898:=0
noncomputable def tw3836502445167104266:=0
noncomputable def tw9167288888465701258:=0
noncomputable def tw16940534697076629162:=0
noncomputable def tw14847746867491063498:=0
noncomputable def tw2685829820830992106:=0
noncomputable def tw15715483237841925994:=0
noncomputable def tw5444207593323328458:=0
noncomputable def tw1864076440914187211:=0
noncomputable def tw4229209669441943660:=0
noncomputable def tw15680586698470080684:=0
noncomputable def tw13298729003457058220:=0
noncomputable def tw1543749989018282444:=0
noncomputable def tw16358470780700107372:=0
noncomputable def tw12176199067923196237:=0
noncomputable def tw2574876799900164557:=0
noncomputable def tw10772237744434328141:=0
noncomputable def tw7399684756605399821:=0
noncomputable def tw2522524848952505358:=0
noncomputable def tw6811476552418835886:=0
noncomputable def tw8003359589669571695:=0
noncomputable def tw1532623027068544111:=0
noncomputable def tw12568439645856409903:=0
noncomputable def tw9193370671739152911:=0
noncomputable def tw13690285407421675728:=0
noncomputable def tw17032974645215998384:=0
noncomputable def tw11548469826312544720:=0
noncomputable def tw13511141482096418993:=0
noncomputable def tw1950144973375450673:=0
noncomputable def tw12274297001243623090:=0
noncomputable def tw6524691040416099026:=0
noncomputable def tw15183838091869017042:=0
noncomputable def tw12820905333473015859:=0
noncomputable def tw6310635530873654803:=0
noncomputable def tw8546657251866604051:=0
noncomputable def tw6735144514836513459:=0
noncomputable def tw9606039584181769043:=0
noncomputable def tw13940055623991100403:=0
noncomputable def tw17301983440379917492:=0
noncomputable def tw6913451204774148660:=0
noncomputable def tw10944161838979511860:=0
noncomputable def tw14484391498486777492:=0
noncomputable def tw3058838364954617684:=0
noncomputable def tw13614813237420838229:=0
noncomputable def tw8513676681814486645:=0
noncomputable def tw15187648814312191605:=0
noncomputable def tw17222754480942792405:=0
noncomputable def tw14345936835458929397:=0
noncomputable def tw3885280950109194101:=0
noncomputable def tw6133902814734137301:=0
noncomputable def tw6560313929264731446:=0
noncomputable def tw10849058505114781558:=0
noncomputable def tw12530004279046718390:=0
noncomputable def tw4403702226266942679:=0
noncomputable def tw2110040069757881623:=0
noncomputable def tw5325868700099916151:=0
noncomputable def tw13874849953597236215:=0
noncomputable def tw7001792026080640120:=0
noncomputable def tw12069578269545327832:=0
noncomputable def tw15168010333327590776:=0
noncomputable def tw17757252782961553784:=0
noncomputable def tw14564366621366101464:=0
noncomputable def tw17479118812689632920:=0
noncomputable def tw15166448021897239065:=0
noncomputable def tw17069838060400188217:=0
noncomputable def tw8111977598557535193:=0
noncomputable def tw7273865404403899353:=0
noncomputable def tw16137744255187847161:=0
noncomputable def tw14507777592839057498:=0
noncomputable def tw16400816096725553274:=0
noncomputable def tw8821000985627058330:=0
noncomputable def tw5065249308049600794:=0
noncomputable def tw13441899748028987130:=0
noncomputable def tw15712599056443815898:=0
noncomputable def tw17736005656775096699:=0
noncomputable def tw12806735165308876283:=0
noncomputable def tw3770370889510517275:=0
noncomputable def tw1583251893654612539:=0
noncomputable def tw11521098708842875547:=0
noncomputable def tw2327869099204607675:=0
noncomputable def tw431211224873143259:=0
noncomputable def tw9972928381067841660:=0
noncomputable def tw5927795114559408380:=0
noncomputable def tw5204465142800228060:=0
noncomputable def tw4640824131359285980:=0
noncomputable def tw4468561681112919964:=0
noncomputable def tw11834560195609904124:=0
noncomputable def tw763282136960985213:=0
noncomputable def tw12761220198264978621:=0
noncomputable def tw4618207824805054813:=0
noncomputable def tw4554171839096963166:=0
noncomputable def tw16708183600993387454:=0
noncomputable def tw2241354308039065631:=0
noncomputable def tw6880988948138844383:=0
noncomputable def tw15873280262373716383:=0
noncomputable def tw1425917979171808031:=0
noncomputable def tw15597895144879651615:=0
noncomputable def tw15261286121549470687:=0
noncomputable def tw1972464570823835667:=0
end PySem.W.Fast
namespace My
open PySem L2 L2.MM
noncomputable section
section
variable {A F:Nat->Int} {θ:Sto} {E:Nat->Zm} {rd:Nat->List (Seg×Int)} {sd:Nat->List Seg} {T G:Nat->List Int} {now:Int} {K:Nat->Nat} {ρ:List Sl} {i j:Nat}
noncomputable def gsl (ns:List Int) (x2 x3 x4 x5 x6:Sl):List Sl:=[.val (.scr ns),.val (.ref 8),x2,x3,x4,x5,x6]
theorem ZgQ {ns:List Int} {b:Nat} {x2 x3 x4 x5 x6:Sl} (h:Beg A F T G b θ E rd K) (hb:b<=4000):∃θ' E' rd' K' y3 y4 y5,Zr Zfi Zfg (gsl ns x2 x3 x4 x5 x6) θ=.ok (.nx,gsl ns x2 y3 y4 y5 x6) θ'/\Beg A F T G (b+200) θ' E' rd' K':=by
 obtain ⟨θ1,E1,rd1,k1,h1⟩:=Zl8 h (by omega) (j:=0) (by omega)
 obtain ⟨θ2,E2,rd2,k2,h2⟩:=Zl8 h1 (by omega) (j:=1) (by omega)
 have b1:Zfi (gsl ns x2 x3 x4 x5 x6) θ=.ok (.nx,bsl ns x2 1 x4 x5 x6) θ2:=by
  refine Zjx (k:=3) (ρ1:=bsl ns x2 0 x4 x5 x6) (θ1:=θ1) ?_ ?_
  ·show zj (mCB ZeC (Zc (Zd 1) (Zc (Zd 3) Zi))) (bsl ns x2 0 x4 x5 x6) θ=_
   have k1':ZeC [.ref 8,.int 0] θ=.ok .non θ1:=k1
   simp [bsl,k1']
  ·show zj (mCB ZeC (Zc (Zd 1) (Zc (Zd 3) Zi))) (bsl ns x2 1 x4 x5 x6) θ1=_
   have k2':ZeC [.ref 8,.int 1] θ1=.ok .non θ2:=k2
   simp [bsl,k2']
 obtain ⟨θ3,E3,rd3,K3,y4,y5,d1,h3⟩:=ZiY (ns:=ns) (x2:=x2) (x4:=x4) (x5:=x5) (x6:=x6) h2 (j:=0) (by omega)
 obtain ⟨θ4,E4,rd4,K4,z4,z5,d2,h4⟩:=ZiY (ns:=ns) (x2:=x2) (x4:=y4) (x5:=y5) (x6:=x6) h3 (j:=1) (by omega)
 have b3:Zfg (bsl ns x2 1 x4 x5 x6) θ2=.ok (.nx,bsl ns x2 1 z4 z5 x6) θ4:=Zjx (k:=3) (B:=drB) d1 d2
 exact ⟨θ4,E4,rd4,K4,_,z4,z5,by rw [Za1,b1,ZT,b3]; rfl,h4⟩
def wrB:SM:=(Zr (Z5 6 (ZcI (Zb3 (Zc (mOp zG (mCB ZaF (Zc (Zd 0) (Zc (mOp zn (mC (.int 10)) (Zd 3)) Zi))) (mC (.int 40))) Zi)) [0,3] (mOp zG (mOp zn (mCB ZaF (Zc (Zd 1) (Zc (mOp zn (mC (.int 8)) (Zd 2)) Zi))) (mOp Zeg (mC (.int 11)) (Zd 0))) (mC (.int 256)))))
   (ZeB (ZZ (Zd 1) (mC (.str "taken"))) (Zd 3) (mSl (Zd 6) Zaw (Zb4 (mCB Za4 (Zc (mOp ixM (ZZ (Zd 1) (mC (.str "ends"))) (Zd 3)) (Zc (Zd 6) Zi)))))))
theorem ZiX {ns:List Int} {x2 x4 x5 x6:Sl} (h:Sta θ E rd T G 0 K) (hT:TwoF A F T G 0 E (ZaQ rd)) (hj:j<2) (ht:T j=[]):∃θ' E' x',wrB (bsl ns x2 j x4 x5 x6) θ=.ok (.nx,bsl ns x2 j x4 x5 x') θ'/\∃v:List Int,v.length<=64/\Sta θ' E' rd (Zaf T j v) G 0 K/\TwoF A F (Zaf T j v) G 0 E' (ZaQ rd):=by
 obtain ⟨m,hm⟩:∃m:Nat,(m:Int)=mix ns (10+(j:Int)) % 40:=⟨(mix ns (10+(j:Int)) % 40).toNat,by omega⟩
 obtain ⟨d,hd⟩:∃d,d=Zj3 (mix ns (8+(j:Int))) m:=⟨_,rfl⟩
 have cp:ZcI (Zb3 (Zc (mOp zG (mCB ZaF (Zc (Zd 0) (Zc (mOp zn (mC (.int 10)) (Zd 3)) Zi))) (mC (.int 40))) Zi)) [0,3] (mOp zG (mOp zn (mCB ZaF (Zc (Zd 1) (Zc (mOp zn (mC (.int 8)) (Zd 2)) Zi))) (mOp Zeg (mC (.int 11)) (Zd 0))) (mC (.int 256))) (bsl ns x2 j x4 x5 x6) θ=.ok (il d) θ:=by
  rw [ZiH (lo:=0) (n:=m) (θ':=θ) (fun k=>.int ((mix ns (8+(j:Int))+11*k) % 256)) (by simp [bsl,<-hm]; omega) (by simp [BIG]; omega) (by
   intro k hk
   have mb:ZfT 11 (k:Int):=.inl (by omega)
   have ie:inEnv [0,3] (bsl ns x2 j x4 x5 x6) (.int (0+(k:Int)))=[.val (.int (k:Int)),.val (.scr ns),.val (.int (j:Int))]:=by simp [inEnv,bsl]
   rw [ie]
   simp [mb])]
  rw [hd]
  unfold il Zj3
  rw [Je]
  simp [Function.comp_def]
 have s6:Z5 6 (ZcI (Zb3 (Zc (mOp zG (mCB ZaF (Zc (Zd 0) (Zc (mOp zn (mC (.int 10)) (Zd 3)) Zi))) (mC (.int 40))) Zi)) [0,3] (mOp zG (mOp zn (mCB ZaF (Zc (Zd 1) (Zc (mOp zn (mC (.int 8)) (Zd 2)) Zi))) (mOp Zeg (mC (.int 11)) (Zd 0))) (mC (.int 256)))) (bsl ns x2 j x4 x5 x6) θ=.ok (.nx,bsl ns x2 j x4 x5 (.val (il d))) θ:=by
  rw [ZjK,cp]
  rfl
 obtain ⟨ρ,hρ⟩:∃ρ,ρ=bsl ns x2 j x4 x5 (.val (il d)):=⟨_,rfl⟩
 have h1:=h.end hj (Zcn (E j) d)
 have gt1:=Zht h1 (ρ:=ρ) (i:=1) (by rw [hρ]; rfl)
 have ge:=ZgO h (ρ:=ρ) (i:=1) (by rw [hρ]; rfl)
 have ie:=ZgM (θ:=θ) hj
 have wr:=Ziu h hT hj d
 have ct:=Zl2 hT hj d
 have sl:mSl (Zd 6) Zaw (Zb4 (mCB Za4 (Zc (mOp ixM (ZZ (Zd 1) (mC (.str "ends"))) (Zd 3)) (Zc (Zd 6) Zi)))) ρ θ=.ok (il (tkn (E j) d)) (upE θ (4*j) (Zcn (E j) d)):=by
  rw [hρ] at ge ⊢
  unfold bsl at ge ⊢
  simp [ge,ie,wr,ct]
 have hw:=two_writeF hT hj (by rw [ht]; simp) (hd ▸ Zj2 _ _:ZkN d)
 rw [ht,YW] at hw
 have sc:=ZjX (ρ:=ρ) (j:=j) (l:=12) (fi:=Zd 3) sl gt1 (by rw [hρ]; rfl) h1.tk hj
 refine ⟨_,_,.val (il d),by unfold wrB; rw [Za1,s6,ZT,<-hρ]; exact sc,tkn (E j) d,Zlo hT hj d,h1.takenF hj (tkn (E j) d),hw⟩
theorem ZoJ {ns:List Int} (h:Beg A F (fun _=>[]) (fun _=>[]) 0 θ E rd K):∃θ',Zej [.scr ns,.ref 8] θ=.ok .non θ'/\Pl A F 3 θ':=by
 by_cases c:0<mix ns 7 % 4
 ·obtain ⟨θ1,E1,rd1,K1,a3,a4,a5,r1,h1⟩:=ZgQ (ns:=ns) (x2:=.val (.int 0)) (x3:=.no) (x4:=.no) (x5:=.no) (x6:=.no) h (by omega)
  obtain ⟨θ2,E2,rd2,K2,c3,c4,c5,r2,h2⟩:=ZgQ (ns:=ns) (x2:=.val (.int 1)) (x3:=a3) (x4:=a4) (x5:=a5) (x6:=.no) h1 (by omega)
  obtain ⟨θ3,E3,rd3,K3,e3,e4,e5,r3,h3⟩:=ZgQ (ns:=ns) (x2:=.val (.int 2)) (x3:=c3) (x4:=c4) (x5:=c5) (x6:=.no) h2 (by omega)
  have b4:Zff (gsl ns .no .no .no .no .no) θ=.ok (.nx,gsl ns (.val (.int 2)) e3 e4 e5 .no) θ3:=by
   have rg:Zb3 (Zc (mC (.int 3)) Zi) (gsl ns .no .no .no .no .no) θ=.ok (.rng 0 3) θ:=by simp
   have it:∀θ,(Src.rng 0 3).items θ=some [.int 0,.int 1,.int 2]:=fun _=>rfl
   have g0:∀(k:Int) (x2 x3 x4 x5 x6:Sl),gNm 2 (D.int k) (gsl ns x2 x3 x4 x5 x6)=some (gsl ns (.val (.int k)) x3 x4 x5 x6):=fun _ _ _ _ _ _=>rfl
   unfold Zff Zfy
   rw [rg,R.bind_ok]
   simp only [it,Zel,if_true,g0,r1,r2,r3,R.bind_ok,ZbX]
  obtain ⟨θ4,E4,x4',w1,v1,vl1,s4,t4⟩:=ZiX (ns:=ns) (x2:=.val (.int 2)) (x4:=e4) (x5:=e5) (x6:=.no) h3.st h3.two (j:=0) (by omega) rfl
  obtain ⟨θ5,E5,x5',w2,v2,vl2,s5,t5⟩:=ZiX (ns:=ns) (x2:=.val (.int 2)) (x4:=e4) (x5:=e5) (x6:=x4') s4 t4 (j:=1) (by omega) rfl
  have b5:Zhf (gsl ns (.val (.int 2)) e3 e4 e5 .no) θ3=.ok (.nx,bsl ns (.val (.int 2)) 1 e4 e5 x5') θ5:=Zjx (k:=3) (B:=wrB) w1 w2
  refine ⟨θ5,?_,E5,rd3,_,_,0,K3,s5,t5,fun i hi=>?_,by omega,fun i hi=>by have:=h3.len i hi; omega⟩
  ·have t:ZC (mOp gtM (mOp zG (mCB ZaF (Zc (Zd 0) (Zc (mC (.int 7)) Zi))) (mC (.int 4))) (mC (.int 0))) (gsl ns .no .no .no .no .no) θ=.ok true θ:=by simp [gsl,c]
   have b:Zfv (gsl ns .no .no .no .no .no) θ=.ok (.nx,bsl ns (.val (.int 2)) 1 e4 e5 x5') θ5:=by
    unfold Zfv Zfe
    rw [Zi8,t,R.bind_ok,if_pos rfl,Za1,b4,ZT,b5]
   unfold gsl at b
   simp [Zej,b]
  ·have:i=0\/i=1:=by omega
   rcases this with rfl | rfl
   ·show v1.length<=_; omega
   ·show v2.length<=_; omega
 ·refine ⟨θ,?_,E,rd,_,_,0,K,h.st,h.two,fun i hi=>by simp,by omega,fun i hi=>by have:=h.len i hi; omega⟩
  have c':¬0<mix ns 7 % 4:=c
  simp [Zej,Zfv,Zfe,c']
end
noncomputable def Zn1 (e0 e1:Zm):Sto:=cells 0 e0++cells 4 e1++[.dK (Zbk (.ref 11) 0),.lst [],.lst [],.lst [.ref 9,.ref 10],.lst [.lst [],.lst []],.lst [.lst [],.lst []],.lst [.bl false,.bl false]]
theorem Zrv (e0 e1:Zm) (ρ:List Sl) (h:ρ[2]?=some (.val (.lst [.ref 0,.ref 4]))):ZhP [("ends",(Zd 2)),("roads",(ZaE (Zc (ZaE Zi) (Zc (ZaE Zi) Zi)))),("taken",(ZaE (Zc (Zba Zi) (Zc (Zba Zi) Zi)))),("got",(ZaE (Zc (Zba Zi) (Zc (Zba Zi) Zi)))),("now",(mC (.int 0))),("closed",(ZaE (Zc (mC (.bl false)) (Zc (mC (.bl false)) Zi))))] ρ (cells 0 e0++cells 4 e1)=.ok (.ref 8) (Zn1 e0 e1):=by
 have v2:∀θ,Zd 2 ρ θ=.ok (.lst [.ref 0,.ref 4]) θ:=fun θ=>by simp [h]
 unfold ZhP
 simp only [Yf,Ym,ZgY]
 have e:Zc (Zd 2) (Zc (ZaE (Zc (ZaE Zi) (Zc (ZaE Zi) Zi))) (Zc (ZaE (Zc (Zba Zi) (Zc (Zba Zi) Zi))) (Zc (ZaE (Zc (Zba Zi) (Zc (Zba Zi) Zi))) (Zc (mC (.int 0)) (Zc (ZaE (Zc (mC (.bl false)) (Zc (mC (.bl false)) Zi))) Zi))))) ρ (cells 0 e0++cells 4 e1++[.dK []])=.ok [.lst [.ref 0,.ref 4],.ref 11,.ref 12,.ref 13,.int 0,.ref 14] (cells 0 e0++cells 4 e1++[.dK []]++[.lst []]++[.lst []]++[.lst [.ref 9,.ref 10]]++[.lst [.lst [],.lst []]]++[.lst [.lst [],.lst []]]++[.lst [.bl false,.bl false]]):=by
  unfold Zc
  rw [v2,R.bind_ok]
  rfl
 rw [e,R.bind_ok]
 rfl
theorem ZqQ (ns:List Int):∃(A F:Nat->Int) (E:Nat->Zm) (θ:Sto),ZgI [.scr ns] []=.ok (.ref 8) θ/\Beg A F (fun _=>[]) (fun _=>[]) 0 θ E (fun _=>[]) (fun i=>9+i):=by
 have r:=Zn4 ns
 obtain ⟨a,ha⟩:∃a,a=mix ns 0 % 65536:=⟨_,rfl⟩
 obtain ⟨b,hb⟩:∃b,b=mix ns 1 % 65536:=⟨_,rfl⟩
 obtain ⟨f,hf⟩:∃f,f=Zem (mix ns 2):=⟨_,rfl⟩
 obtain ⟨g,hg⟩:∃g,g=Zem (mix ns 3):=⟨_,rfl⟩
 obtain ⟨ac,hac⟩:∃ac,ac=decide (mix ns 4 % 2=0):=⟨_,rfl⟩
 have rf:0<=f/\f<=4294967295:=by rw [hf]; exact Zkv (by have:=r 2; omega)
 have rg:0<=g/\g<=4294967295:=by rw [hg]; exact Zkv (by have:=r 3; omega)
 have o1:=ZjO (a:=a) (b:=b) (c:=f) (act:=true) []
 have o2:=ZjO (a:=b) (b:=a) (c:=g) (act:=ac) ([]++cells 0 (Zae a b f true))
 obtain ⟨e0,he0⟩:∃e0,e0=Zae a b f true:=⟨_,rfl⟩
 obtain ⟨e1,he1⟩:∃e1,e1=Zae b a g ac:=⟨_,rfl⟩
 have o1':ZbJ [.int a,.int b,.int f,.bl true] []=.ok (.ref 0) (cells 0 e0):=by rw [he0]; exact o1
 have o2':ZbJ [.int b,.int a,.int g,.bl ac] (cells 0 e0)=.ok (.ref 4) (cells 0 e0++cells 4 e1):=by rw [he0,he1]; exact o2
 refine ⟨fun i=>if i=0 then a else b,fun i=>if i=0 then f else g,fun i=>if i=0 then e0 else e1,Zn1 e0 e1,?_,?_⟩
 ·have s1:Z5 1 (Zbj (Zc (mOp zG (mCB ZaF (Zc (Zd 0) (Zc (mC (.int 0)) Zi))) (mC (.int 65536))) (Zc (mOp zG (mCB ZaF (Zc (Zd 0) (Zc (mC (.int 1)) Zi))) (mC (.int 65536))) Zi))) [.val (.scr ns),.no,.no] []=.ok (.nx,[.val (.scr ns),.val (.tup [.int a,.int b]),.no]) []:=by
   rw [ha,hb]
   simp
  have s2:Z5 2 (Zba (Zc (mCB ZbJ (Zc (mOp ixM (Zd 1) (mC (.int 0))) (Zc (mOp ixM (Zd 1) (mC (.int 1))) (Zc (mCB Zdz (Zc (mCB ZaF (Zc (Zd 0) (Zc (mC (.int 2)) Zi))) Zi)) (Zc (mC (.bl true)) Zi))))) (Zc (mCB ZbJ (Zc (mOp ixM (Zd 1) (mC (.int 1))) (Zc (mOp ixM (Zd 1) (mC (.int 0))) (Zc (mCB Zdz (Zc (mCB ZaF (Zc (Zd 0) (Zc (mC (.int 3)) Zi))) Zi)) (Zc (mOp eqM (mOp zG (mCB ZaF (Zc (Zd 0) (Zc (mC (.int 4)) Zi))) (mC (.int 2))) (mC (.int 0))) Zi))))) Zi))) [.val (.scr ns),.val (.tup [.int a,.int b]),.no] []=.ok (.nx,[.val (.scr ns),.val (.tup [.int a,.int b]),.val (.lst [.ref 0,.ref 4])]) (cells 0 e0++cells 4 e1):=by
   simp [<-hf,<-hg,<-hac,o1',o2']
  have dk:=Zrv e0 e1 [.val (.scr ns),.val (.tup [.int a,.int b]),.val (.lst [.ref 0,.ref 4])] rfl
  have b:Zid [.val (.scr ns),.no,.no] []=.ok (.rt (.ref 8),[.val (.scr ns),.val (.tup [.int a,.int b]),.val (.lst [.ref 0,.ref 4])]) (Zn1 e0 e1):=by
   unfold Zid
   rw [Za1,s1,ZT,Za1,s2,ZT,Zvo,dk,R.bind_ok]
  simp [ZgI,b]
 ·have tw:=two_new (a:=a) (b:=b) (f:=f) (g:=g) (act:=ac) (by omega) (by omega) rf rg
  rw [<-he0,<-he1] at tw
  refine ⟨⟨by show 15<=15; omega,rfl,rfl,⟨.ref 11,rfl,.inl ⟨rfl,rfl⟩⟩,rfl,rfl,⟨by simp,.inl rfl,.inr (.inl rfl)⟩,rfl,rfl,_,_,rfl⟩,tw,rfl,rfl,fun i hi=>by simp,fun i hi=>by simp⟩
theorem law_true:∀ns:List Int,ns.length<=63->∃θ,ZlW [.scr ns] []=.ok (.bl true) θ:=by
 intro ns _
 obtain ⟨A,F,E,θ0,p1,hB⟩:=ZqQ ns
 obtain ⟨θ1,p2,hP⟩:=ZoJ (ns:=ns) hB
 obtain ⟨m,hm⟩:∃m:Nat,(m:Int)=mix ns 5 % 23:=⟨(mix ns 5 % 23).toNat,by omega⟩
 obtain ⟨ρ',θ',w1,x2,hρ,n,hn,hP'⟩:=for_rng (fi:=Zb3 (Zc (mOp zG (mCB ZaF (Zc (Zd 0) (Zc (mC (.int 5)) Zi))) (mC (.int 23))) Zi)) (body:=ZgT) (k:=2) (ρ:=[.val (.scr ns),.val (.ref 8),.no]) (θ:=θ1) (lo:=0) (n:=m)
  (fun k ρ θ=>∃x2,ρ=[.val (.scr ns),.val (.ref 8),x2]/\∃n,n=3+k/\Pl A F n θ) (by simp [<-hm]; omega) ⟨.no,rfl,3,rfl,hP⟩ (by
   rintro k ρ θ hk ⟨x2,rfl,n,hn,hP⟩
   have mi:=Zn4 ns (12+(k:Int))
   obtain ⟨θ',a1,a2⟩:=ZuT (num:=mix ns (12+(k:Int))) (n:=n) (by omega) (by omega) hP
   refine ⟨[.val (.scr ns),.val (.ref 8),.val (.int (k:Int))],θ',?_,_,rfl,n+1,by omega,a2⟩
   have e1:[Sl.val (.scr ns),.val (.ref 8),x2].set 2 (.val (.int (0+(k:Int))))=[.val (.scr ns),.val (.ref 8),.val (.int (k:Int))]:=by simp
   rw [e1]
   simp [ZgT,a1]) (by rintro k ρ θ ⟨x2,rfl,_⟩; simp)
 refine ⟨θ',?_⟩
 have b2:Zi2 [.val (.scr ns),.val (.ref 8),.no] θ1=.ok (.nx,ρ') θ':=w1
 have b:ZjE [.val (.scr ns),.no,.no] []=.ok (.rt (.bl true),ρ') θ':=by
  have s1:Z5 1 (mCB ZgI (Zc (Zd 0) Zi)) [.val (.scr ns),.no,.no] []=.ok (.nx,[.val (.scr ns),.val (.ref 8),.no]) θ0:=by simp [p1]
  have s2:zj (mCB Zej (Zc (Zd 0) (Zc (Zd 1) Zi))) [.val (.scr ns),.val (.ref 8),.no] θ0=.ok (.nx,[.val (.scr ns),.val (.ref 8),.no]) θ1:=by simp [p2]
  unfold ZjE
  rw [Za1,s1,ZT,Za1,s2,ZT,Za1,b2,ZT]
  simp
 simp [ZlW,b]
end
noncomputable def top (i:Nat):Stmt:=PySem.Challenge.pw_wirestream_k30_whole_streams.main.body.getD i (.Pass ⟨0,0,0,0⟩)
noncomputable abbrev zs0:Stmt:=Zl0 (top 2) 0
noncomputable abbrev zs1:Stmt:=top 3
noncomputable abbrev zs2:Stmt:=top 4
noncomputable abbrev zs3:Stmt:=top 5
noncomputable abbrev zs4:Stmt:=top 9
noncomputable abbrev zs5:Stmt:=top 10
noncomputable abbrev zs6:Stmt:=top 11
noncomputable abbrev zs7:Stmt:=Zl0 (top 30) 0
noncomputable abbrev zs8:Stmt:=top 31
noncomputable abbrev zs9:Stmt:=top 32
noncomputable abbrev Zqc:Stmt:=top 33
noncomputable abbrev Zqb:Stmt:=top 34
noncomputable abbrev Zqa:Stmt:=top 35
noncomputable abbrev Zp9:Stmt:=top 42
noncomputable abbrev Zp8:Stmt:=top 43
noncomputable abbrev Zp7:Stmt:=top 64
noncomputable abbrev Zp6:Stmt:=top 65
noncomputable abbrev Zp5:Stmt:=top 66
noncomputable abbrev Zp4:Stmt:=top 67
noncomputable abbrev Zp3:Stmt:=top 68
noncomputable abbrev Zp2:Stmt:=top 69
noncomputable abbrev Zp1:Stmt:=top 70
noncomputable abbrev Zp0:Stmt:=top 71
noncomputable abbrev ZpZ:Stmt:=top 72
noncomputable abbrev ZpY:Stmt:=top 73
noncomputable abbrev ZpX:Stmt:=top 74
noncomputable abbrev ZpW:Stmt:=top 75
noncomputable abbrev ZpV:Stmt:=top 76
noncomputable abbrev ZpU:Stmt:=top 77
noncomputable abbrev ZpT:Stmt:=top 78
noncomputable abbrev ZpS:Stmt:=top 83
noncomputable abbrev ZpR:Stmt:=top 84
noncomputable abbrev ZpQ:Stmt:=top 85
noncomputable abbrev ZpP:Stmt:=top 86
noncomputable abbrev ZpO:Stmt:=top 87
noncomputable abbrev ZpN:Stmt:=top 88
noncomputable abbrev ZpM:Stmt:=top 89
noncomputable abbrev ZpL:Stmt:=top 90
noncomputable abbrev ZpK:Stmt:=top 91
noncomputable abbrev ZpJ:Stmt:=top 92
noncomputable abbrev ZpI:Stmt:=top 93
noncomputable abbrev ZpH:Stmt:=top 94
noncomputable abbrev ZpG:Stmt:=top 95
noncomputable abbrev ZpF:Stmt:=top 96
noncomputable abbrev ZpE:Stmt:=top 97
noncomputable abbrev ZpD:Stmt:=top 98
noncomputable abbrev ZpC:Stmt:=top 99
noncomputable abbrev ZpB:Stmt:=top 100
noncomputable abbrev ZpA:Stmt:=top 101
noncomputable abbrev Zpz:Stmt:=top 103
noncomputable abbrev Zpy:Stmt:=top 104
noncomputable abbrev Zpx:Stmt:=top 105
noncomputable abbrev Zpw:Stmt:=top 106
noncomputable abbrev Zpv:Stmt:=top 107
noncomputable abbrev Zpu:Stmt:=top 108
noncomputable abbrev Zpt:Stmt:=top 109
noncomputable abbrev Zps:Stmt:=top 110
noncomputable abbrev Zpr:Stmt:=top 111
noncomputable abbrev Zpq:Stmt:=top 113
noncomputable abbrev Zpp:Stmt:=top 114
noncomputable abbrev Zpo:Stmt:=top 115
noncomputable abbrev Zpn:Stmt:=top 116
noncomputable abbrev Zpm:Stmt:=top 117
noncomputable abbrev Zpl:Stmt:=top 118
noncomputable abbrev Zpk:Stmt:=top 119
noncomputable abbrev Zpj:Stmt:=top 120
noncomputable abbrev Zpi:Stmt:=top 121
noncomputable abbrev Zph:Stmt:=top 122
noncomputable abbrev Zpg:Stmt:=top 123
noncomputable abbrev Zpf:Stmt:=top 124
noncomputable abbrev Zpe:Stmt:=top 125
noncomputable abbrev Zpd:Stmt:=top 126
noncomputable abbrev Zpc:Stmt:=top 127
noncomputable abbrev Zpb:Stmt:=top 128
noncomputable abbrev Zpa:Stmt:=top 129
noncomputable abbrev Zo9:Stmt:=top 130
noncomputable abbrev Zo8:Stmt:=top 132
noncomputable abbrev Zo7:Stmt:=top 133
noncomputable abbrev Zo6:Stmt:=top 134
noncomputable abbrev Zo5:Stmt:=top 135
noncomputable abbrev Zo4:Stmt:=top 137
noncomputable abbrev Zo3:Stmt:=top 138
noncomputable abbrev Zo2:Stmt:=top 142
noncomputable abbrev Zo1:Stmt:=top 143
noncomputable abbrev ZmZ:Stmt:=top 144
noncomputable abbrev Zo0:Stmt:=top 145
noncomputable abbrev ZoZ:Stmt:=top 146
noncomputable abbrev ZoY:Stmt:=top 147
noncomputable abbrev ZjJ:Stmt:=top 148
noncomputable abbrev Zi7:Stmt:=top 149
noncomputable abbrev zP0:List Str:=["self"]
theorem zc0:Zp ["self"] zP0 (Zk zs0):=⟨rfl,rfl,rfl,by decide +kernel,rfl,by decide +kernel,by decide +kernel⟩
noncomputable abbrev zP1:List Str:=["pile"]
theorem zc1:Zp ["pile"] zP1 (Zk zs1):=⟨rfl,rfl,rfl,by decide +kernel,rfl,by decide +kernel,by decide +kernel⟩
noncomputable abbrev zP2:List Str:=["pile","row"]
theorem zc2:Zp ["pile","row","laid"] zP2 (Zk zs2):=⟨rfl,rfl,rfl,by decide +kernel,rfl,by decide +kernel,by decide +kernel⟩
noncomputable abbrev zP3:List Str:=["pile","many"]
theorem zc3:Zp ["pile","many","size","taken"] zP3 (Zk zs3):=⟨rfl,rfl,rfl,by decide +kernel,rfl,by decide +kernel,by decide +kernel⟩
noncomputable abbrev zP4:List Str:=["number","step"]
theorem zc4:Zp ["number","step"] zP4 (Zk zs4):=⟨rfl,rfl,rfl,by decide +kernel,rfl,by decide +kernel,by decide +kernel⟩
noncomputable abbrev zP5:List Str:=["number","base"]
theorem zc5:Zp ["number","base"] zP5 (Zk zs5):=⟨rfl,rfl,rfl,by decide +kernel,rfl,by decide +kernel,by decide +kernel⟩
noncomputable abbrev zP6:List Str:=["number","base"]
theorem zc6:Zp ["number","base"] zP6 (Zk zs6):=⟨rfl,rfl,rfl,by decide +kernel,rfl,by decide +kernel,by decide +kernel⟩
noncomputable abbrev zP7:List Str:=["self","ours","theirs","first","active"]
theorem zc7:Zp ["self","ours","theirs","first","active"] zP7 (Zk zs7):=⟨rfl,rfl,rfl,by decide +kernel,rfl,by decide +kernel,by decide +kernel⟩
noncomputable abbrev zP8:List Str:=["end","now"]
theorem zc8:Zp ["end","now"] zP8 (Zk zs8):=⟨rfl,rfl,rfl,by decide +kernel,rfl,by decide +kernel,by decide +kernel⟩
noncomputable abbrev zP9:List Str:=["end"]
theorem zc9:Zp ["end"] zP9 (Zk zs9):=⟨rfl,rfl,rfl,by decide +kernel,rfl,by decide +kernel,by decide +kernel⟩
noncomputable abbrev Ztv:List Str:=["end"]
theorem zc10:Zp ["end"] Ztv (Zk Zqc):=⟨rfl,rfl,rfl,by decide +kernel,rfl,by decide +kernel,by decide +kernel⟩
noncomputable abbrev Ztu:List Str:=["end"]
theorem zc11:Zp ["end"] Ztu (Zk Zqb):=⟨rfl,rfl,rfl,by decide +kernel,rfl,by decide +kernel,by decide +kernel⟩
noncomputable abbrev Ztt:List Str:=["end"]
theorem zc12:Zp ["end"] Ztt (Zk Zqa):=⟨rfl,rfl,rfl,by decide +kernel,rfl,by decide +kernel,by decide +kernel⟩
noncomputable abbrev Zts:List Str:=["row"]
theorem zc13:Zp ["row","total"] Zts (Zk Zp9):=⟨rfl,rfl,rfl,by decide +kernel,rfl,by decide +kernel,by decide +kernel⟩
noncomputable abbrev Ztr:List Str:=["row"]
theorem zc14:Zp ["row"] Ztr (Zk Zp8):=⟨rfl,rfl,rfl,by decide +kernel,rfl,by decide +kernel,by decide +kernel⟩
noncomputable abbrev Ztq:List Str:=["segment"]
theorem zc15:Zp ["segment","flags"] Ztq (Zk Zp7):=⟨rfl,rfl,rfl,by decide +kernel,rfl,by decide +kernel,by decide +kernel⟩
noncomputable abbrev Ztp:List Str:=["flags","flag"]
theorem zc16:Zp ["flags","flag"] Ztp (Zk Zp6):=⟨rfl,rfl,rfl,by decide +kernel,rfl,by decide +kernel,by decide +kernel⟩
noncomputable abbrev Zto:List Str:=["segment","flag"]
theorem zc17:Zp ["segment","flag"] Zto (Zk Zp5):=⟨rfl,rfl,rfl,by decide +kernel,rfl,by decide +kernel,by decide +kernel⟩
noncomputable abbrev Ztn:List Str:=["segment"]
theorem zc18:Zp ["segment","ahead","behind"] Ztn (Zk Zp4):=⟨rfl,rfl,rfl,by decide +kernel,rfl,by decide +kernel,by decide +kernel⟩
noncomputable abbrev Ztm:List Str:=["segment"]
theorem zc19:Zp ["segment","ports","numbers","head"] Ztm (Zk Zp3):=⟨rfl,rfl,rfl,by decide +kernel,rfl,by decide +kernel,by decide +kernel⟩
noncomputable abbrev Ztl:List Str:=["head"]
theorem zc20:Zp ["head"] Ztl (Zk Zp2):=⟨rfl,rfl,rfl,by decide +kernel,rfl,by decide +kernel,by decide +kernel⟩
noncomputable abbrev Ztk:List Str:=["most"]
theorem zc21:Zp ["most"] Ztk (Zk Zp1):=⟨rfl,rfl,rfl,by decide +kernel,rfl,by decide +kernel,by decide +kernel⟩
noncomputable abbrev Ztj:List Str:=["number"]
theorem zc22:Zp ["number"] Ztj (Zk Zp0):=⟨rfl,rfl,rfl,by decide +kernel,rfl,by decide +kernel,by decide +kernel⟩
noncomputable abbrev Zti:List Str:=["number"]
theorem zc23:Zp ["number"] Zti (Zk ZpZ):=⟨rfl,rfl,rfl,by decide +kernel,rfl,by decide +kernel,by decide +kernel⟩
noncomputable abbrev Zth:List Str:=["row"]
theorem zc24:Zp ["row"] Zth (Zk ZpY):=⟨rfl,rfl,rfl,by decide +kernel,rfl,by decide +kernel,by decide +kernel⟩
noncomputable abbrev Ztg:List Str:=["row"]
theorem zc25:Zp ["row"] Ztg (Zk ZpX):=⟨rfl,rfl,rfl,by decide +kernel,rfl,by decide +kernel,by decide +kernel⟩
noncomputable abbrev Ztf:List Str:=["row"]
theorem zc26:Zp ["row"] Ztf (Zk ZpW):=⟨rfl,rfl,rfl,by decide +kernel,rfl,by decide +kernel,by decide +kernel⟩
noncomputable abbrev Zte:List Str:=["row"]
theorem zc27:Zp ["row","head","most","ports","numbers"] Zte (Zk ZpV):=⟨rfl,rfl,rfl,by decide +kernel,rfl,by decide +kernel,by decide +kernel⟩
noncomputable abbrev Ztd:List Str:=["row","place"]
theorem zc28:Zp ["row","place"] Ztd (Zk ZpU):=⟨rfl,rfl,rfl,by decide +kernel,rfl,by decide +kernel,by decide +kernel⟩
noncomputable abbrev Ztc:List Str:=["row","place"]
theorem zc29:Zp ["row","place"] Ztc (Zk ZpT):=⟨rfl,rfl,rfl,by decide +kernel,rfl,by decide +kernel,by decide +kernel⟩
noncomputable abbrev Ztb:List Str:=["end","now"]
theorem zc30:Zp ["end","now","segment"] Ztb (Zk ZpS):=⟨rfl,rfl,rfl,by decide +kernel,rfl,by decide +kernel,by decide +kernel⟩
noncomputable abbrev Zta:List Str:=["end","now"]
theorem zc31:Zp ["end","now","segment"] Zta (Zk ZpR):=⟨rfl,rfl,rfl,by decide +kernel,rfl,by decide +kernel,by decide +kernel⟩
noncomputable abbrev Zs9:List Str:=["end"]
theorem zc32:Zp ["end","segment"] Zs9 (Zk ZpQ):=⟨rfl,rfl,rfl,by decide +kernel,rfl,by decide +kernel,by decide +kernel⟩
noncomputable abbrev Zs8:List Str:=["end","now"]
theorem zc33:Zp ["end","now"] Zs8 (Zk ZpP):=⟨rfl,rfl,rfl,by decide +kernel,rfl,by decide +kernel,by decide +kernel⟩
noncomputable abbrev Zs7:List Str:=["end","now"]
theorem zc34:Zp ["end","now","data"] Zs7 (Zk ZpO):=⟨rfl,rfl,rfl,by decide +kernel,rfl,by decide +kernel,by decide +kernel⟩
noncomputable abbrev Zs6:List Str:=["end"]
theorem zc35:Zp ["end"] Zs6 (Zk ZpN):=⟨rfl,rfl,rfl,by decide +kernel,rfl,by decide +kernel,by decide +kernel⟩
noncomputable abbrev Zs5:List Str:=["end"]
theorem zc36:Zp ["end"] Zs5 (Zk ZpM):=⟨rfl,rfl,rfl,by decide +kernel,rfl,by decide +kernel,by decide +kernel⟩
noncomputable abbrev Zs4:List Str:=["end","number","flags","data"]
theorem zc37:Zp ["end","number","flags","data"] Zs4 (Zk ZpL):=⟨rfl,rfl,rfl,by decide +kernel,rfl,by decide +kernel,by decide +kernel⟩
noncomputable abbrev Zs3:List Str:=["end","now"]
theorem zc38:Zp ["end","now","room"] Zs3 (Zk ZpK):=⟨rfl,rfl,rfl,by decide +kernel,rfl,by decide +kernel,by decide +kernel⟩
noncomputable abbrev Zs2:List Str:=["end","now"]
theorem zc39:Zp ["end","now"] Zs2 (Zk ZpJ):=⟨rfl,rfl,rfl,by decide +kernel,rfl,by decide +kernel,by decide +kernel⟩
noncomputable abbrev Zs1:List Str:=["end"]
theorem zc40:Zp ["end"] Zs1 (Zk ZpI):=⟨rfl,rfl,rfl,by decide +kernel,rfl,by decide +kernel,by decide +kernel⟩
noncomputable abbrev Zs0:List Str:=["end"]
theorem zc41:Zp ["end"] Zs0 (Zk ZpH):=⟨rfl,rfl,rfl,by decide +kernel,rfl,by decide +kernel,by decide +kernel⟩
noncomputable abbrev ZsZ:List Str:=["end"]
theorem zc42:Zp ["end"] ZsZ (Zk ZpG):=⟨rfl,rfl,rfl,by decide +kernel,rfl,by decide +kernel,by decide +kernel⟩
noncomputable abbrev ZsY:List Str:=["end"]
theorem zc43:Zp ["end"] ZsY (Zk ZpF):=⟨rfl,rfl,rfl,by decide +kernel,rfl,by decide +kernel,by decide +kernel⟩
noncomputable abbrev ZsX:List Str:=["end","room"]
theorem ZyX:Zp ["end","room"] ZsX (Zk ZpE):=⟨rfl,rfl,rfl,by decide +kernel,rfl,by decide +kernel,by decide +kernel⟩
noncomputable abbrev ZsW:List Str:=["end","room"]
theorem zc45:Zp ["end","room","number","many","place"] ZsW (Zk ZpD):=⟨rfl,rfl,rfl,by decide +kernel,rfl,by decide +kernel,by decide +kernel⟩
noncomputable abbrev ZsV:List Str:=["end"]
theorem zc46:Zp ["end","number"] ZsV (Zk ZpC):=⟨rfl,rfl,rfl,by decide +kernel,rfl,by decide +kernel,by decide +kernel⟩
noncomputable abbrev ZsU:List Str:=["end","now"]
theorem ZyW:Zp ["end","now"] ZsU (Zk ZpB):=⟨rfl,rfl,rfl,by decide +kernel,rfl,by decide +kernel,by decide +kernel⟩
noncomputable abbrev ZsT:List Str:=["end"]
theorem ZyV:Zp ["end"] ZsT (Zk ZpA):=⟨rfl,rfl,rfl,by decide +kernel,rfl,by decide +kernel,by decide +kernel⟩
noncomputable abbrev ZsS:List Str:=["segment"]
theorem zc49:Zp ["segment","ports"] ZsS (Zk Zpz):=⟨rfl,rfl,rfl,by decide +kernel,rfl,by decide +kernel,by decide +kernel⟩
noncomputable abbrev ZsR:List Str:=["end","segment"]
theorem ZyU:Zp ["end","segment"] ZsR (Zk Zpy):=⟨rfl,rfl,rfl,by decide +kernel,rfl,by decide +kernel,by decide +kernel⟩
noncomputable abbrev ZsQ:List Str:=["end","segment"]
theorem ZyT:Zp ["end","segment"] ZsQ (Zk Zpx):=⟨rfl,rfl,rfl,by decide +kernel,rfl,by decide +kernel,by decide +kernel⟩
noncomputable abbrev ZsP:List Str:=["end","segment"]
theorem ZyS:Zp ["end","segment"] ZsP (Zk Zpw):=⟨rfl,rfl,rfl,by decide +kernel,rfl,by decide +kernel,by decide +kernel⟩
noncomputable abbrev ZsO:List Str:=["end","segment"]
theorem ZyR:Zp ["end","segment"] ZsO (Zk Zpv):=⟨rfl,rfl,rfl,by decide +kernel,rfl,by decide +kernel,by decide +kernel⟩
noncomputable abbrev ZsN:List Str:=["end","segment","now"]
theorem ZyQ:Zp ["end","segment","now"] ZsN (Zk Zpu):=⟨rfl,rfl,rfl,by decide +kernel,rfl,by decide +kernel,by decide +kernel⟩
noncomputable abbrev ZsM:List Str:=["end","segment"]
theorem ZyP:Zp ["end","segment"] ZsM (Zk Zpt):=⟨rfl,rfl,rfl,by decide +kernel,rfl,by decide +kernel,by decide +kernel⟩
noncomputable abbrev ZsL:List Str:=["end","segment"]
theorem ZyO:Zp ["end","segment"] ZsL (Zk Zps):=⟨rfl,rfl,rfl,by decide +kernel,rfl,by decide +kernel,by decide +kernel⟩
noncomputable abbrev ZsK:List Str:=["end","segment","now"]
theorem ZyN:Zp ["end","segment","now"] ZsK (Zk Zpr):=⟨rfl,rfl,rfl,by decide +kernel,rfl,by decide +kernel,by decide +kernel⟩
noncomputable abbrev ZsJ:List Str:=["end","row","now"]
theorem zc58:Zp ["end","row","now","segment"] ZsJ (Zk Zpq):=⟨rfl,rfl,rfl,by decide +kernel,rfl,by decide +kernel,by decide +kernel⟩
noncomputable abbrev ZsI:List Str:=["end","segment"]
theorem ZyM:Zp ["end","segment"] ZsI (Zk Zpp):=⟨rfl,rfl,rfl,by decide +kernel,rfl,by decide +kernel,by decide +kernel⟩
noncomputable abbrev ZsH:List Str:=["end","segment","now"]
theorem ZyL:Zp ["end","segment","now"] ZsH (Zk Zpo):=⟨rfl,rfl,rfl,by decide +kernel,rfl,by decide +kernel,by decide +kernel⟩
noncomputable abbrev ZsG:List Str:=["end","segment"]
theorem zc61:Zp ["end","segment","size","last"] ZsG (Zk Zpn):=⟨rfl,rfl,rfl,by decide +kernel,rfl,by decide +kernel,by decide +kernel⟩
noncomputable abbrev ZsF:List Str:=["end","number"]
theorem ZyK:Zp ["end","number"] ZsF (Zk Zpm):=⟨rfl,rfl,rfl,by decide +kernel,rfl,by decide +kernel,by decide +kernel⟩
noncomputable abbrev ZsE:List Str:=["end","segment","now"]
theorem ZyJ:Zp ["end","segment","now"] ZsE (Zk Zpl):=⟨rfl,rfl,rfl,by decide +kernel,rfl,by decide +kernel,by decide +kernel⟩
noncomputable abbrev ZsD:List Str:=["end","segment"]
theorem ZyI:Zp ["end","segment"] ZsD (Zk Zpk):=⟨rfl,rfl,rfl,by decide +kernel,rfl,by decide +kernel,by decide +kernel⟩
noncomputable abbrev ZsC:List Str:=["end","segment","now"]
theorem ZyH:Zp ["end","segment","now"] ZsC (Zk Zpj):=⟨rfl,rfl,rfl,by decide +kernel,rfl,by decide +kernel,by decide +kernel⟩
noncomputable abbrev ZsB:List Str:=["end","segment"]
theorem ZyG:Zp ["end","segment"] ZsB (Zk Zpi):=⟨rfl,rfl,rfl,by decide +kernel,rfl,by decide +kernel,by decide +kernel⟩
noncomputable abbrev ZsA:List Str:=["end","segment"]
theorem ZyF:Zp ["end","segment"] ZsA (Zk Zph):=⟨rfl,rfl,rfl,by decide +kernel,rfl,by decide +kernel,by decide +kernel⟩
noncomputable abbrev Zsz:List Str:=["end","segment","now"]
theorem zc68:Zp ["end","segment","now","answer","has_gone_on","was_shut"] Zsz (Zk Zpg):=⟨rfl,rfl,rfl,by decide +kernel,rfl,by decide +kernel,by decide +kernel⟩
noncomputable abbrev Zsy:List Str:=["end","segment"]
theorem ZyE:Zp ["end","segment"] Zsy (Zk Zpf):=⟨rfl,rfl,rfl,by decide +kernel,rfl,by decide +kernel,by decide +kernel⟩
noncomputable abbrev Zsx:List Str:=["end","now"]
theorem ZyD:Zp ["end","now"] Zsx (Zk Zpe):=⟨rfl,rfl,rfl,by decide +kernel,rfl,by decide +kernel,by decide +kernel⟩
noncomputable abbrev Zsw:List Str:=["end","segment","now"]
theorem ZyC:Zp ["end","segment","now"] Zsw (Zk Zpd):=⟨rfl,rfl,rfl,by decide +kernel,rfl,by decide +kernel,by decide +kernel⟩
noncomputable abbrev Zsv:List Str:=["end","segment"]
theorem zc72:Zp ["end","segment","place","byte","number"] Zsv (Zk Zpc):=⟨rfl,rfl,rfl,by decide +kernel,rfl,by decide +kernel,by decide +kernel⟩
noncomputable abbrev Zsu:List Str:=["end","segment"]
theorem zc73:Zp ["end","segment","number"] Zsu (Zk Zpb):=⟨rfl,rfl,rfl,by decide +kernel,rfl,by decide +kernel,by decide +kernel⟩
noncomputable abbrev Zst:List Str:=["end"]
theorem zc74:Zp ["end","row"] Zst (Zk Zpa):=⟨rfl,rfl,rfl,by decide +kernel,rfl,by decide +kernel,by decide +kernel⟩
noncomputable abbrev Zss:List Str:=["end","now"]
theorem ZyB:Zp ["end","now"] Zss (Zk Zo9):=⟨rfl,rfl,rfl,by decide +kernel,rfl,by decide +kernel,by decide +kernel⟩
noncomputable abbrev Zsr:List Str:=["ours","theirs","first","active"]
theorem ZyA:Zp ["ours","theirs","first","active"] Zsr (Zk Zo8):=⟨rfl,rfl,rfl,by decide +kernel,rfl,by decide +kernel,by decide +kernel⟩
noncomputable abbrev Zsq:List Str:=["end","row"]
theorem zc77:Zp ["end","row","taken"] Zsq (Zk Zo7):=⟨rfl,rfl,rfl,by decide +kernel,rfl,by decide +kernel,by decide +kernel⟩
noncomputable abbrev Zsp:List Str:=["end","many"]
theorem zc78:Zp ["end","many","was_shut","row"] Zsp (Zk Zo6):=⟨rfl,rfl,rfl,by decide +kernel,rfl,by decide +kernel,by decide +kernel⟩
noncomputable abbrev Zso:List Str:=["end"]
theorem Zyz:Zp ["end"] Zso (Zk Zo5):=⟨rfl,rfl,rfl,by decide +kernel,rfl,by decide +kernel,by decide +kernel⟩
noncomputable abbrev Zsn:List Str:=["_law_script","_law_k"]
theorem Zyy:Zp ["_law_script","_law_k"] Zsn (Zk Zo4):=⟨rfl,rfl,rfl,by decide +kernel,rfl,by decide +kernel,by decide +kernel⟩
noncomputable abbrev Zsm:List Str:=["_law_script","_law_k"]
theorem zc81:Zp ["_law_script","_law_k","_law_number"] Zsm (Zk Zo3):=⟨rfl,rfl,rfl,by decide +kernel,rfl,by decide +kernel,by decide +kernel⟩
noncomputable abbrev Zsl:List Str:=["_law_number"]
theorem Zyx:Zp ["_law_number"] Zsl (Zk Zo2):=⟨rfl,rfl,rfl,by decide +kernel,rfl,by decide +kernel,by decide +kernel⟩
noncomputable abbrev Zsk:List Str:=["_law_script"]
theorem zc83:Zp ["_law_script","_law_ports","_law_ends"] Zsk (Zk Zo1):=⟨rfl,rfl,rfl,by decide +kernel,rfl,by decide +kernel,by decide +kernel⟩
noncomputable abbrev Zsj:List Str:=["_law_script","_law_play_here"]
theorem zc84:Zp ["_law_script","_law_play_here","_law_k","_law_j","_law_rows","_law_one","_law_row"] Zsj (Zk ZmZ):=⟨rfl,rfl,rfl,by decide +kernel,rfl,by decide +kernel,by decide +kernel⟩
noncomputable abbrev Zsi:List Str:=["_law_play_here","_law_j"]
theorem zc85:Zp ["_law_play_here","_law_j","_law_row"] Zsi (Zk Zo0):=⟨rfl,rfl,rfl,by decide +kernel,rfl,by decide +kernel,by decide +kernel⟩
noncomputable abbrev Zsh:List Str:=["_law_play_here","_law_j","_law_number"]
theorem zc86:Zp ["_law_play_here","_law_j","_law_number","_law_road","_law_at","_law_one"] Zsh (Zk ZoZ):=⟨rfl,rfl,rfl,by decide +kernel,rfl,by decide +kernel,by decide +kernel⟩
noncomputable abbrev Zsg:List Str:=["_law_play_here"]
theorem zc87:Zp ["_law_play_here","_law_j"] Zsg (Zk ZoY):=⟨rfl,rfl,rfl,by decide +kernel,rfl,by decide +kernel,by decide +kernel⟩
noncomputable abbrev Zsf:List Str:=["_law_play_here","_law_number"]
theorem zc88:Zp ["_law_play_here","_law_number","_law_j","_law_way","_law_rest","_law_end","_law_row"] Zsf (Zk ZjJ):=⟨rfl,rfl,rfl,by decide +kernel,rfl,by decide +kernel,by decide +kernel⟩
noncomputable abbrev Zm1:List Str:=["_law_script"]
theorem zc89:Zp ["_law_script","_law_play_here","_law_k"] Zm1 (Zk Zi7):=⟨rfl,rfl,rfl,by decide +kernel,rfl,by decide +kernel,by decide +kernel⟩
structure Glb (K:PySem.W.Frag) (mg:Str->Option Value):Prop where
 zc0:∃t,mg "ACK"=some (.int 16 t)
 zc1:∃t,mg "ANSWER"=some (.int 3 t)
 zc2:∃t,mg "CLOSED"=some (.str "closed" t)
 zc3:∃t,mg "CLOSE_WAIT"=some (.str "close wait" t)
 zc4:∃t,mg "CLOSING"=some (.str "closing" t)
 zc5:∃t,mg "DATA"=some (.int 7 t)
 zc6:∃t,mg "FIN"=some (.int 1 t)
 zc7:∃t,mg "FIRST_WAIT"=some (.int 1000 t)
 zc8:∃t,mg "FLAGS"=some (.int 4 t)
 zc9:∃t,mg "GOAL"=some (.int 1 t)
 zc10:∃t,mg "GREATEST_DATA"=some (.int 16 t)
 zc11:∃t,mg "GREATEST_FLAGS"=some (.int 31 t)
 zc12:∃t,mg "GREATEST_WORD"=some (.int 65535 t)
 zc13:∃t,mg "HALF_ROUND"=some (.int 2147483648 t)
 zc14:∃t,mg "LAST_ACK"=some (.str "last ack" t)
 zc15:∃t,mg "LAST_WAIT"=some (.int 120000 t)
 zc16:∃t,mg "LEAST_MOST"=some (.int 4 t)
 zc17:∃t,mg "LISTEN"=some (.str "listen" t)
 zc18:∃t,mg "LONGEST_WAIT"=some (.int 16000 t)
 zc19:∃t,mg "LONG_HEAD"=some (.int 24 t)
 zc20:∃t,mg "MOST"=some (.int 6 t)
 zc21:∃t,mg "MOST_TRIES"=some (.int 6 t)
 zc22:∃t,mg "MOST_UNTOLD"=some (.int 12 t)
 zc23:∃t,mg "NO_ERROR"=some (.str "" t)
 zc24:∃t,mg "NUMBER"=some (.int 2 t)
 zc25:∃t,mg "OPEN"=some (.str "open" t)
 zc26:∃t,mg "PSH"=some (.int 8 t)
 zc27:∃t,mg "REFUSED"=some (.str "refused" t)
 zc28:∃t,mg "RESET"=some (.str "reset" t)
 zc29:∃t,mg "RIGHT_SUM"=some (.int 65535 t)
 zc30:∃t,mg "ROOM"=some (.int 64 t)
 zc31:∃t,mg "ROUND"=some (.int 4294967296 t)
 zc32:∃t,mg "RST"=some (.int 4 t)
 zc33:∃t,mg "SHORT_HEAD"=some (.int 20 t)
 zc34:∃t,mg "SOURCE"=some (.int 0 t)
 zc35:∃t,mg "SYN"=some (.int 2 t)
 zc36:∃t,mg "SYN_COME"=some (.str "syn come" t)
 zc37:∃t,mg "SYN_SENT"=some (.str "syn sent" t)
 zc38:∃t,mg "TIME"=some (.str "time" t)
 zc39:∃t,mg "TIME_WAIT"=some (.str "time wait" t)
 zc40:∃t,mg "WAIT_ONE"=some (.str "wait one" t)
 zc41:∃t,mg "WAIT_TWO"=some (.str "wait two" t)
 zc42:∃t,mg "WINDOW"=some (.int 5 t)
 zc43:∃t,mg "WORDS"=some (.int 65536 t)
 b_enumerate:mg "enumerate"=none
 b_len:mg "len"=none
 b_list:mg "list"=none
 b_max:mg "max"=none
 b_min:mg "min"=none
 b_range:mg "range"=none
 b_sum:mg "sum"=none
 b_tuple:mg "tuple"=none
 k_End:Cls K (Zai mg "End")
 k_Pile:Cls K (Zai mg "Pile")
 zn0:NoAttr K (Zai mg "End") "behind"
 zn1:NoAttr K (Zai mg "End") "come"
 zn2:NoAttr K (Zai mg "End") "early"
 zn3:NoAttr K (Zai mg "End") "early_fin"
 zn4:NoAttr K (Zai mg "End") "error"
 zn5:NoAttr K (Zai mg "End") "first"
 zn6:NoAttr K (Zai mg "End") "has_closed"
 zn7:NoAttr K (Zai mg "End") "most"
 zn8:NoAttr K (Zai mg "End") "nxt"
 zn9:NoAttr K (Zai mg "End") "ours"
 zn10:NoAttr K (Zai mg "End") "owed_reset"
 zn11:NoAttr K (Zai mg "End") "owes_answer"
 zn12:NoAttr K (Zai mg "End") "owes_syn"
 zn13:NoAttr K (Zai mg "End") "probes"
 zn14:NoAttr K (Zai mg "End") "rcv"
 zn15:NoAttr K (Zai mg "End") "since"
 zn16:NoAttr K (Zai mg "End") "state"
 zn17:NoAttr K (Zai mg "End") "theirs"
 zn18:NoAttr K (Zai mg "End") "told"
 zn19:NoAttr K (Zai mg "End") "told_by"
 zn20:NoAttr K (Zai mg "End") "tries"
 zn21:NoAttr K (Zai mg "End") "una"
 zn22:NoAttr K (Zai mg "End") "wait"
 zn23:NoAttr K (Zai mg "End") "wnd"
 zn24:NoAttr K (Zai mg "End") "written"
 zn25:NoAttr K (Zai mg "Pile") "row"
section
variable {P:Program} {w:World} {K:PySem.W.Frag} {mg:Str->Option Value} {base:Heap}
theorem zo0 (D:Mk0 K mg "Pile" "Pile.__init__" zs0 zP0) (g:Glb K mg) :MMk P w K mg base 1 "Pile" Zb0:=
 mk0 D zc0 1 1 rfl rfl fun f cdv A outer s H E hr=>(Zg (Zs (Zq ⟨g.k_Pile,g.zn25⟩) (Za 0) (Zbp Ze)))
theorem zo1 (D:Zv K mg "room" zs1 zP1) (g:Glb K mg) :Zo P w K mg base 1 "room" Zec:=
 ZX D zc1 1 1 rfl rfl fun f cdv A outer s H E hr=>(Zg (Zt (Zw Zdu (Zl g.zc30) (zQ Ze1 g.b_len PySem.boot_len (Zb (Zn (Zq ⟨g.k_Pile,g.zn25⟩) (Za 0)) Ze)))))
theorem zo2 (D:Zv K mg "lay" zs2 zP2) (g:Glb K mg) (zd1:Zo P w K mg base 1 "room" Zec):Zo P w K mg base 2 "lay" Zf1:=
 ZX D zc2 2 3 rfl rfl fun f cdv A outer s H E hr=>(Zf (ZJ 2 zc2.nd (Zbo (Za 1) Zbx (Za5 (Zh zd1 hr (by decide) (Zb (Za 0) Ze)))))
 (Zf (Zs (Zq ⟨g.k_Pile,g.zn25⟩) (Za 0) (Zw zo (Zn (Zq ⟨g.k_Pile,g.zn25⟩) (Za 0)) (Za 2)))
 (Zg (Zt (zQ Ze1 g.b_len PySem.boot_len (Zb (Za 2) Ze))))))
theorem zo3 (D:Zv K mg "take" zs3 zP3) (g:Glb K mg) :Zo P w K mg base 1 "take" Zco:=
 ZX D zc3 2 4 rfl rfl fun f cdv A outer s H E hr=>(Zf (ZJ 2 zc3.nd (zQ ZwG g.b_max PyProof.Rows.boot_max (Zb (Za 1) (Zb Zj Ze))))
 (Zf (ZJ 3 zc3.nd (Zbo (Zn (Zq ⟨g.k_Pile,g.zn25⟩) (Za 0)) Zbx (Za5 (Za 2))))
 (Zf (Zs (Zq ⟨g.k_Pile,g.zn25⟩) (Za 0) (Zbo (Zn (Zq ⟨g.k_Pile,g.zn25⟩) (Za 0)) (Za5 (Za 2)) Zbx))
 (Zg (Zt (Za 3))))))
theorem zo4 (D:Zv K mg "plus" zs4 zP4) (g:Glb K mg) :Zo P w K mg base 1 "plus" zw:=
 ZX D zc4 2 2 rfl rfl fun f cdv A outer s H E hr=>(Zg (Zt (Zw Zar (Zw zo (Za 0) (Za 1)) (Zl g.zc31))))
theorem zo5 (D:Zv K mg "offset" zs5 zP5) (g:Glb K mg) :Zo P w K mg base 1 "offset" zI:=
 ZX D zc5 2 2 rfl rfl fun f cdv A outer s H E hr=>(Zg (Zt (Zw Zdu (Zw Zar (Zw zo (Zw Zdu (Za 0) (Za 1)) (Zl g.zc13)) (Zl g.zc31)) (Zl g.zc13))))
theorem zo6 (D:Zv K mg "past" zs6 zP6) (g:Glb K mg) (zd5:Zo P w K mg base 1 "offset" zI):Zo P w K mg base 2 "past" Zcp:=
 ZX D zc6 2 2 rfl rfl fun f cdv A outer s H E hr=>(Zg (Zt (z7 Zkb (Zh zd5 hr (by decide) (Zb (Za 0) (Zb (Za 1) Ze))) Zj)))
theorem zo7 (D:Mk0 K mg "End" "End.__init__" zs7 zP7) (g:Glb K mg) (zd0:MMk P w K mg base 1 "Pile" Zb0) (zd4:Zo P w K mg base 1 "plus" zw):MMk P w K mg base 3 "End" Zct:=
 mk0 D zc7 5 5 rfl rfl fun f cdv A outer s H E hr=>(Zf (Zs (Zq ⟨g.k_End,g.zn9⟩) (Za 0) (Za 1))
 (Zf (Zs (Zq ⟨g.k_End,g.zn17⟩) (Za 0) (Za 2))
 (Zf (Zs (Zq ⟨g.k_End,g.zn16⟩) (Za 0) (ZcR (Zz (Za 4)) (Zu g.zc37) (Zu g.zc17)))
 (Zf (Zs (Zq ⟨g.k_End,g.zn4⟩) (Za 0) (Zu g.zc23))
 (Zf (Zs (Zq ⟨g.k_End,g.zn5⟩) (Za 0) (Za 3))
 (Zf (Zs (Zq ⟨g.k_End,g.zn21⟩) (Za 0) (Za 3))
 (Zf (Zs (Zq ⟨g.k_End,g.zn8⟩) (Za 0) (Za 3))
 (Zf (Zs (Zq ⟨g.k_End,g.zn14⟩) (Za 0) Zj)
 (Zf (Zs (Zq ⟨g.k_End,g.zn23⟩) (Za 0) Zj)
 (Zf (Zs (Zq ⟨g.k_End,g.zn18⟩) (Za 0) Zj)
 (Zf (Zs (Zq ⟨g.k_End,g.zn19⟩) (Za 0) Zj)
 (Zf (Zs (Zq ⟨g.k_End,g.zn7⟩) (Za 0) (Zl g.zc22))
 (Zf (Zs (Zq ⟨g.k_End,g.zn24⟩) (Za 0) (Zkl zd0 hr (by decide)))
 (Zf (Zs (Zq ⟨g.k_End,g.zn1⟩) (Za 0) (Zkl zd0 hr (by decide)))
 (Zf (Zs (Zq ⟨g.k_End,g.zn2⟩) (Za 0) Zn7)
 (Zf (Zs (Zq ⟨g.k_End,g.zn3⟩) (Za 0) ZbV)
 (Zf (Zs (Zq ⟨g.k_End,g.zn6⟩) (Za 0) zC)
 (Zf (Zs (Zq ⟨g.k_End,g.zn0⟩) (Za 0) (Zh zd4 hr (by decide) (Zb (Za 3) (Zb Zj Ze))))
 (Zf (Zs (Zq ⟨g.k_End,g.zn10⟩) (Za 0) ZbV)
 (Zf (Zs (Zq ⟨g.k_End,g.zn12⟩) (Za 0) zC)
 (Zf (Zs (Zq ⟨g.k_End,g.zn11⟩) (Za 0) zC)
 (Zf (Zs (Zq ⟨g.k_End,g.zn13⟩) (Za 0) zC)
 (Zf (Zs (Zq ⟨g.k_End,g.zn15⟩) (Za 0) Zj)
 (Zf (Zs (Zq ⟨g.k_End,g.zn22⟩) (Za 0) (Zl g.zc7))
 (Zg (Zs (Zq ⟨g.k_End,g.zn20⟩) (Za 0) Zj))))))))))))))))))))))))))
theorem zo8 (D:Zv K mg "start_timer" zs8 zP8) (g:Glb K mg) :Zo P w K mg base 1 "start_timer" zc:=
 ZX D zc8 2 2 rfl rfl fun f cdv A outer s H E hr=>(Zf (Zs (Zq ⟨g.k_End,g.zn15⟩) (Za 0) (Za 1))
 (Zf (Zs (Zq ⟨g.k_End,g.zn22⟩) (Za 0) (Zl g.zc7))
 (Zg (Zs (Zq ⟨g.k_End,g.zn20⟩) (Za 0) Zj))))
theorem zo9 (D:Zv K mg "state" zs9 zP9) (g:Glb K mg) :Zo P w K mg base 1 "state" Zeb:=
 ZX D zc9 1 1 rfl rfl fun f cdv A outer s H E hr=>(Zg (Zt (Zn (Zq ⟨g.k_End,g.zn16⟩) (Za 0))))
theorem Zyw (D:Zv K mg "error" Zqc Ztv) (g:Glb K mg) :Zo P w K mg base 1 "error" Zfo:=
 ZX D zc10 1 1 rfl rfl fun f cdv A outer s H E hr=>(Zg (Zt (Zn (Zq ⟨g.k_End,g.zn4⟩) (Za 0))))
theorem Zyv (D:Zv K mg "our_window" Zqb Ztu) (g:Glb K mg) (zd1:Zo P w K mg base 1 "room" Zec):Zo P w K mg base 2 "our_window" zT:=
 ZX D zc11 1 1 rfl rfl fun f cdv A outer s H E hr=>(Zg (Zt (Zh zd1 hr (by decide) (Zb (Zn (Zq ⟨g.k_End,g.zn1⟩) (Za 0)) Ze))))
theorem Zyu (D:Zv K mg "has_sent_fin" Zqa Ztt) (g:Glb K mg) (zd6:Zo P w K mg base 2 "past" Zcp):Zo P w K mg base 3 "has_sent_fin" Zbm:=
 ZX D zc12 1 1 rfl rfl fun f cdv A outer s H E hr=>(Zg (Zt (Zh zd6 hr (by decide) (Zb (Zn (Zq ⟨g.k_End,g.zn8⟩) (Za 0)) (Zb (Zn (Zq ⟨g.k_End,g.zn0⟩) (Za 0)) Ze)))))
theorem Zyt (D:Zv K mg "folded" Zp9 Zts) (g:Glb K mg) :Zo P w K mg base 1 "folded" Zdd:=
 ZX D zc13 1 2 rfl rfl fun f cdv A outer s H E hr=>(Zf (ZJ 1 zc13.nd (Zw zo (Zw ZeS Zj (zQ Zsc g.b_sum PyProof.Rows.boot_sum (Zb (ZiG (Za 0) Zbx Zbx (Za5 Zj)) Ze))) (zQ Zsc g.b_sum PyProof.Rows.boot_sum (Zb (ZiG (Za 0) (Za5 Zj) Zbx (Za5 Zj)) Ze))))
 (Zf (ZhM 200 PassesOwn.never (ZB Zkb (Za 1) (Zl g.zc12)) (Zg (ZJ 1 zc13.nd (Zw zo (Zw Zar (Za 1) (Zl g.zc43)) (Zw ZeA (Za 1) (Zl g.zc43))))))
 (Zg (Zt (Za 1)))))
theorem Zys (D:Zv K mg "sum_of" Zp8 Ztr) (g:Glb K mg) (zd13:Zo P w K mg base 1 "folded" Zdd):Zo P w K mg base 2 "sum_of" ZeO:=
 ZX D zc14 1 1 rfl rfl fun f cdv A outer s H E hr=>(Zg (Zt (Zw Zdu (Zl g.zc12) (Zh zd13 hr (by decide) (Zb (Za 0) Ze)))))
theorem Zyq (D:Zv K mg "has" Zp6 Ztp) (g:Glb K mg) :Zo P w K mg base 1 "has" ZfA:=
 ZX D zc16 2 2 rfl rfl fun f cdv A outer s H E hr=>(Zg (Zt (ZcR (ZB (ZgD hr.units) (Zw Zwh (Za 0) (Za 1)) Zj) Zj Zj)))
theorem Zyr (D:Zv K mg "length" Zp7 Ztq) (g:Glb K mg) (zd16:Zo P w K mg base 1 "has" ZfA):Zo P w K mg base 2 "length" ZcH:=
 ZX D zc15 1 2 rfl rfl fun f cdv A outer s H E hr=>(Zf (ZJ 1 zc15.nd (ZF ZG (Za 0) (Zl g.zc8)))
 (Zg (Zt (Zw zo (Zw zo (zQ Ze1 g.b_len PySem.boot_len (Zb (ZF ZG (Za 0) (Zl g.zc5)) Ze)) (Zh zd16 hr (by decide) (Zb (Za 1) (Zb (Zl g.zc35) Ze)))) (Zh zd16 hr (by decide) (Zb (Za 1) (Zb (Zl g.zc6) Ze)))))))
theorem Zyp (D:Zv K mg "bears" Zp5 Zto) (g:Glb K mg) (zd16:Zo P w K mg base 1 "has" ZfA):Zo P w K mg base 2 "bears" Z7:=
 ZX D zc17 2 2 rfl rfl fun f cdv A outer s H E hr=>(Zg (Zt (z7 (Zag hr.units) (Zh zd16 hr (by decide) (Zb (ZF ZG (Za 0) (Zl g.zc8)) (Zb (Za 1) Ze))) Zj)))
theorem Zym (D:Zv K mg "byte_of_head" Zp2 Ztl) (g:Glb K mg) :Zo P w K mg base 1 "byte_of_head" zY:=
 ZX D zc20 1 1 rfl rfl fun f cdv A outer s H E hr=>(Zg (Zt (Zw ZeS Zj (Zw ZeA (Za 0) Zj))))
theorem Zyk (D:Zv K mg "two_bytes" Zp0 Ztj) (g:Glb K mg) :Zo P w K mg base 1 "two_bytes" zr:=
 ZX D zc22 1 1 rfl rfl fun f cdv A outer s H E hr=>(Zg (Zt (Zbp (Zb (Zw Zar (Zw ZeA (Za 0) Zj) Zj) (Zb (Zw Zar (Za 0) Zj) Ze)))))
theorem Zyj (D:Zv K mg "four_bytes" ZpZ Zti) (g:Glb K mg) (zd22:Zo P w K mg base 1 "two_bytes" zr):Zo P w K mg base 2 "four_bytes" Zbw:=
 ZX D zc23 1 1 rfl rfl fun f cdv A outer s H E hr=>(Zg (Zt (Zw zo (Zh zd22 hr (by decide) (Zb (Zw ZeA (Za 0) Zj) Ze)) (Zh zd22 hr (by decide) (Zb (Za 0) Ze)))))
theorem Zyn (D:Zv K mg "bytes_ahead_of_sum" Zp3 Ztm) (g:Glb K mg) (zd20:Zo P w K mg base 1 "byte_of_head" zY) (zd23:Zo P w K mg base 2 "four_bytes" Zbw) (zd22:Zo P w K mg base 1 "two_bytes" zr):Zo P w K mg base 3 "bytes_ahead_of_sum" zX:=
 ZX D zc19 1 4 rfl rfl fun f cdv A outer s H E hr=>(Zf (ZJ 1 zc19.nd (Zw zo (Zh zd22 hr (by decide) (Zb (ZF ZG (Za 0) (Zl g.zc34)) Ze)) (Zh zd22 hr (by decide) (Zb (ZF ZG (Za 0) (Zl g.zc9)) Ze))))
 (Zf (ZJ 2 zc19.nd (Zw zo (Zh zd23 hr (by decide) (Zb (ZF ZG (Za 0) (Zl g.zc24)) Ze)) (Zh zd23 hr (by decide) (Zb (ZF ZG (Za 0) (Zl g.zc1)) Ze))))
 (Zf (ZJ 3 zc19.nd (ZcR (ZB (Zag hr.units) (ZF ZG (Za 0) (Zl g.zc20)) Zj) (Zl g.zc33) (Zl g.zc19)))
 (Zg (Zt (Zw zo (Zw zo (Zw zo (Za 1) (Za 2)) (Zbp (Zb (Zh zd20 hr (by decide) (Zb (Za 3) Ze)) (Zb (ZF ZG (Za 0) (Zl g.zc8)) Ze)))) (Zh zd22 hr (by decide) (Zb (ZF ZG (Za 0) (Zl g.zc42)) Ze))))))))
theorem Zyl (D:Zv K mg "bytes_of_most" Zp1 Ztk) (g:Glb K mg) (zd22:Zo P w K mg base 1 "two_bytes" zr):Zo P w K mg base 2 "bytes_of_most" Za9:=
 ZX D zc21 1 1 rfl rfl fun f cdv A outer s H E hr=>(Zg (Zt (ZcR (ZB (Zag hr.units) (Za 0) Zj) (Zbp Ze) (Zw zo (Zbp (Zb Zj (Zb Zj Ze))) (Zh zd22 hr (by decide) (Zb (Za 0) Ze))))))
theorem Zyo (D:Zv K mg "put" Zp4 Ztn) (g:Glb K mg) (zd19:Zo P w K mg base 3 "bytes_ahead_of_sum" zX) (zd21:Zo P w K mg base 2 "bytes_of_most" Za9) (zd14:Zo P w K mg base 2 "sum_of" ZeO) (zd22:Zo P w K mg base 1 "two_bytes" zr):Zo P w K mg base 4 "put" Zj7:=
 ZX D zc18 1 3 rfl rfl fun f cdv A outer s H E hr=>(Zf (ZJ 1 zc18.nd (Zh zd19 hr (by decide) (Zb (Za 0) Ze)))
 (Zf (ZJ 2 zc18.nd (Zw zo (Zw zo (Zbp (Zb Zj (Zb Zj Ze))) (Zh zd21 hr (by decide) (Zb (ZF ZG (Za 0) (Zl g.zc20)) Ze))) (ZgG ZuO g.b_list PyProof.Rows.boot_list (Zb (ZF ZG (Za 0) (Zl g.zc5)) Ze))))
 (Zg (Zt (Zw zo (Zw zo (Za 1) (Zh zd22 hr (by decide) (Zb (Zh zd14 hr (by decide) (Zb (Zw zo (Zw zo (Za 1) (Zbp (Zb Zj (Zb Zj Ze)))) (Za 2)) Ze)) Ze))) (Za 2))))))
theorem Zyh (D:Zv K mg "head_of" ZpX Ztg) (g:Glb K mg) :Zo P w K mg base 1 "head_of" Zbv:=
 ZX D zc25 1 1 rfl rfl fun f cdv A outer s H E hr=>(Zg (Zt (Zw ZeS (Zw ZeA (ZF ZG (Za 0) Zj) Zj) Zj)))
theorem Zye (D:Zv K mg "two_at" ZpU Ztd) (g:Glb K mg) :Zo P w K mg base 1 "two_at" Zan:=
 ZX D zc28 2 2 rfl rfl fun f cdv A outer s H E hr=>(Zg (Zt (Zw zo (Zw ZeS Zj (ZF ZG (Za 0) (Za 1))) (ZF ZG (Za 0) (Zw zo (Za 1) Zj)))))
theorem Zyg (D:Zv K mg "is_right_long_head" ZpW Ztf) (g:Glb K mg) (zd16:Zo P w K mg base 1 "has" ZfA) (zd28:Zo P w K mg base 1 "two_at" Zan):Zo P w K mg base 2 "is_right_long_head" zW:=
 ZX D zc26 1 1 rfl rfl fun f cdv A outer s H E hr=>(Zg (Zt (Zcv (z7 (Zag hr.units) (Zh zd16 hr (by decide) (Zb (ZF ZG (Za 0) Zj) (Zb (Zl g.zc35) Ze))) Zj) (Zcv (z7 (Zag hr.units) (ZF ZG (Za 0) Zj) Zj) (Zcv (z7 (Zag hr.units) (ZF ZG (Za 0) Zj) Zj) (ZdL (z7 Zq4 (Zh zd28 hr (by decide) (Zb (Za 0) (Zb Zj Ze))) (Zl g.zc16))))))))
theorem Zyi (D:Zv K mg "is_right" ZpY Zth) (g:Glb K mg) (zd20:Zo P w K mg base 1 "byte_of_head" zY) (zd13:Zo P w K mg base 1 "folded" Zdd) (zd25:Zo P w K mg base 1 "head_of" Zbv) (zd26:Zo P w K mg base 2 "is_right_long_head" zW) (zd28:Zo P w K mg base 1 "two_at" Zan):Zo P w K mg base 3 "is_right" Zap:=
 ZX D zc24 1 1 rfl rfl fun f cdv A outer s H E hr=>(Zg (Zt (Zcv (z7 Zq4 (zQ Ze1 g.b_len PySem.boot_len (Zb (Za 0) Ze)) (Zl g.zc33)) (Zcv (z7 Zil (ZF ZG (Za 0) Zj) (zJ (Zb (Zh zd20 hr (by decide) (Zb (Zl g.zc33) Ze)) (Zb (Zh zd20 hr (by decide) (Zb (Zl g.zc19) Ze)) Ze))) (by with_unfolding_all rfl)) (Zcv (z7 Zjj (ZF ZG (Za 0) Zj) (Zl g.zc11)) (Zcv (ZhN Zjj Zjj Zj (Zw Zdu (zQ Ze1 g.b_len PySem.boot_len (Zb (Za 0) Ze)) (Zh zd25 hr (by decide) (Zb (Za 0) Ze))) (Zl g.zc10)) (Zcv (z7 (Zag hr.units) (Zh zd28 hr (by decide) (Zb (Za 0) (Zb Zj Ze))) Zj) (Zcv (ZlQ (z7 (Zag hr.units) (Zh zd25 hr (by decide) (Zb (Za 0) Ze)) (Zl g.zc33)) (ZdL (Zh zd26 hr (by decide) (Zb (Za 0) Ze)))) (ZdL (z7 (Zag hr.units) (Zh zd13 hr (by decide) (Zb (Za 0) Ze)) (Zl g.zc29)))))))))))
theorem Zyd (D:Zv K mg "four_at" ZpT Ztc) (g:Glb K mg) (zd28:Zo P w K mg base 1 "two_at" Zan):Zo P w K mg base 2 "four_at" Zc4:=
 ZX D zc29 2 2 rfl rfl fun f cdv A outer s H E hr=>(Zg (Zt (Zw zo (Zw ZeS Zj (Zh zd28 hr (by decide) (Zb (Za 0) (Zb (Za 1) Ze)))) (Zh zd28 hr (by decide) (Zb (Za 0) (Zb (Zw zo (Za 1) Zj) Ze))))))
theorem Zyf (D:Zv K mg "get" ZpV Zte) (g:Glb K mg) (zd29:Zo P w K mg base 2 "four_at" Zc4) (zd25:Zo P w K mg base 1 "head_of" Zbv) (zd24:Zo P w K mg base 3 "is_right" Zap) (zd28:Zo P w K mg base 1 "two_at" Zan):Zo P w K mg base 4 "get" ZiA:=
 ZX D zc27 1 5 rfl rfl fun f cdv A outer s H E hr=>(Zf (ZE (ZbU (Zz (Zh zd24 hr (by decide) (Zb (Za 0) Ze)))) (Zg Zn3) Zx)
 (Zf (ZJ 1 zc27.nd (Zh zd25 hr (by decide) (Zb (Za 0) Ze)))
 (Zf (ZJ 2 zc27.nd (ZcR (ZB (Zag hr.units) (Za 1) (Zl g.zc19)) (Zh zd28 hr (by decide) (Zb (Za 0) (Zb Zj Ze))) Zj))
 (Zf (ZJ 3 zc27.nd (zJ (Zb (Zh zd28 hr (by decide) (Zb (Za 0) (Zb Zj Ze))) (Zb (Zh zd28 hr (by decide) (Zb (Za 0) (Zb Zj Ze))) Ze))))
 (Zf (ZJ 4 zc27.nd (zJ (Zb (Zh zd29 hr (by decide) (Zb (Za 0) (Zb Zj Ze))) (Zb (Zh zd29 hr (by decide) (Zb (Za 0) (Zb Zj Ze))) Ze))))
 (Zg (Zt (Zw zo (Zw zo (Za 3) (Za 4)) (zJ (Zb (ZF ZG (Za 0) Zj) (Zb (Zh zd28 hr (by decide) (Zb (Za 0) (Zb Zj Ze))) (Zb (Za 2) (Zb (ZgG Zl6 g.b_tuple PyProof.Rows.boot_tuple (Zb (Zbo (Za 0) (Za5 (Za 1)) Zbx) Ze)) Ze)))))))))))))
theorem Zx7 (D:Zv K mg "most_at_once" ZpN Zs6) (g:Glb K mg) :Zo P w K mg base 1 "most_at_once" Zao:=
 ZX D zc35 1 1 rfl rfl fun f cdv A outer s H E hr=>(Zg (Zt (zQ Zl7 g.b_min PyProof.Rows.boot_min (Zb (Zn (Zq ⟨g.k_End,g.zn7⟩) (Za 0)) (Zb (Zl g.zc10) Ze)))))
theorem Zx6 (D:Zv K mg "paid_syn" ZpM Zs5) (g:Glb K mg) :Zo P w K mg base 1 "paid_syn" ZbR:=
 ZX D zc36 1 1 rfl rfl fun f cdv A outer s H E hr=>(Zf (Zs (Zq ⟨g.k_End,g.zn12⟩) (Za 0) zC)
 (Zf (ZE (ZB (Zag hr.units) (Zn (Zq ⟨g.k_End,g.zn16⟩) (Za 0)) (Zu g.zc37)) (Zg (Zt (zJ (Zb (Zn (Zq ⟨g.k_End,g.zn9⟩) (Za 0)) (Zb (Zn (Zq ⟨g.k_End,g.zn17⟩) (Za 0)) (Zb (Zn (Zq ⟨g.k_End,g.zn5⟩) (Za 0)) (Zb Zj (Zb (Zl g.zc35) (Zb (Zl g.zc30) (Zb (Zl g.zc10) (Zb (zJ Ze) Ze))))))))))) Zx)
 (Zg (Zt (zJ (Zb (Zn (Zq ⟨g.k_End,g.zn9⟩) (Za 0)) (Zb (Zn (Zq ⟨g.k_End,g.zn17⟩) (Za 0)) (Zb (Zn (Zq ⟨g.k_End,g.zn5⟩) (Za 0)) (Zb (Zn (Zq ⟨g.k_End,g.zn14⟩) (Za 0)) (Zb (Zw zo (Zl g.zc35) (Zl g.zc0)) (Zb (Zl g.zc30) (Zb (Zl g.zc10) (Zb (zJ Ze) Ze)))))))))))))
theorem Zx5 (D:Zv K mg "segment_of" ZpL Zs4) (g:Glb K mg) (zd11:Zo P w K mg base 2 "our_window" zT):Zo P w K mg base 3 "segment_of" zH:=
 ZX D zc37 4 4 rfl rfl fun f cdv A outer s H E hr=>(Zg (Zt (zJ (Zb (Zn (Zq ⟨g.k_End,g.zn9⟩) (Za 0)) (Zb (Zn (Zq ⟨g.k_End,g.zn17⟩) (Za 0)) (Zb (Za 1) (Zb (Zn (Zq ⟨g.k_End,g.zn14⟩) (Za 0)) (Zb (Zw zo (Za 2) (Zl g.zc0)) (Zb (Zh zd11 hr (by decide) (Zb (Za 0) Ze)) (Zb Zj (Zb (ZgG Zl6 g.b_tuple PyProof.Rows.boot_tuple (Zb (Za 3) Ze)) Ze)))))))))))
theorem Zx8 (D:Zv K mg "again" ZpO Zs7) (g:Glb K mg) (zd35:Zo P w K mg base 1 "most_at_once" Zao) (zd5:Zo P w K mg base 1 "offset" zI) (zd36:Zo P w K mg base 1 "paid_syn" ZbR) (zd37:Zo P w K mg base 3 "segment_of" zH):Zo P w K mg base 4 "again" Zdt:=
 ZX D zc34 2 3 rfl rfl fun f cdv A outer s H E hr=>(Zf (ZE (ZB (Zag hr.units) (Zn (Zq ⟨g.k_End,g.zn20⟩) (Za 0)) (Zl g.zc21)) (Zf (Zs (Zq ⟨g.k_End,g.zn16⟩) (Za 0) (Zu g.zc2))
  (Zf (Zs (Zq ⟨g.k_End,g.zn4⟩) (Za 0) (Zu g.zc38))
  (Zg (Zt ZbV)))) Zx)
 (Zf (Zs (Zq ⟨g.k_End,g.zn20⟩) (Za 0) (Zw zo (Zn (Zq ⟨g.k_End,g.zn20⟩) (Za 0)) Zj))
 (Zf (Zs (Zq ⟨g.k_End,g.zn22⟩) (Za 0) (zQ Zl7 g.b_min PyProof.Rows.boot_min (Zb (Zw ZeS Zj (Zn (Zq ⟨g.k_End,g.zn22⟩) (Za 0))) (Zb (Zl g.zc18) Ze))))
 (Zf (Zs (Zq ⟨g.k_End,g.zn15⟩) (Za 0) (Za 1))
 (Zf (ZE (ZB Zil (Zn (Zq ⟨g.k_End,g.zn16⟩) (Za 0)) (zJ (Zb (Zu g.zc37) (Zb (Zu g.zc36) Ze))) (by with_unfolding_all rfl)) (Zg (Zt (Zh zd36 hr (by decide) (Zb (Za 0) Ze)))) Zx)
 (Zf (ZJ 2 zc34.nd (Zbo (Zn (Zq ⟨g.k_Pile,g.zn25⟩) (Zn (Zq ⟨g.k_End,g.zn24⟩) (Za 0))) Zbx (Za5 (zQ Zl7 g.b_min PyProof.Rows.boot_min (Zb (Zh zd5 hr (by decide) (Zb (Zn (Zq ⟨g.k_End,g.zn8⟩) (Za 0)) (Zb (Zn (Zq ⟨g.k_End,g.zn21⟩) (Za 0)) Ze))) (Zb (Zh zd35 hr (by decide) (Zb (Za 0) Ze)) Ze))))))
 (Zg (Zt (Zh zd37 hr (by decide) (Zb (Za 0) (Zb (Zn (Zq ⟨g.k_End,g.zn21⟩) (Za 0)) (Zb (ZcR (ZB Zkb (zQ Ze1 g.b_len PySem.boot_len (Zb (Za 2) Ze)) Zj) Zj (Zl g.zc6)) (Zb (Za 2) Ze)))))))))))))
theorem ZxU (D:Zv K mg "going_as_answer" ZpA ZsT) (g:Glb K mg) (zd37:Zo P w K mg base 3 "segment_of" zH):Zo P w K mg base 4 "going_as_answer" Zad:=
 ZX D ZyV 1 1 rfl rfl fun f cdv A outer s H E hr=>(Zf (ZE (ZbU (Zz (Zn (Zq ⟨g.k_End,g.zn11⟩) (Za 0)))) (Zg (Zt ZbV)) Zx)
 (Zf (Zs (Zq ⟨g.k_End,g.zn11⟩) (Za 0) zC)
 (Zg (Zt (Zh zd37 hr (by decide) (Zb (Za 0) (Zb (Zn (Zq ⟨g.k_End,g.zn8⟩) (Za 0)) (Zb Zj (Zb (Zbp Ze) Ze)))))))))
theorem Zx0 (D:Zv K mg "unsent" ZpG ZsZ) (g:Glb K mg) (zd5:Zo P w K mg base 1 "offset" zI):Zo P w K mg base 2 "unsent" ZbI:=
 ZX D zc42 1 1 rfl rfl fun f cdv A outer s H E hr=>(Zg (Zt (Zh zd5 hr (by decide) (Zb (Zn (Zq ⟨g.k_End,g.zn0⟩) (Za 0)) (Zb (Zn (Zq ⟨g.k_End,g.zn8⟩) (Za 0)) Ze)))))
theorem Zx1 (D:Zv K mg "has_new_data" ZpH Zs0) (g:Glb K mg) (zd42:Zo P w K mg base 2 "unsent" ZbI):Zo P w K mg base 3 "has_new_data" Zaq:=
 ZX D zc41 1 1 rfl rfl fun f cdv A outer s H E hr=>(Zg (Zt (Zcv (z7 Zil (Zn (Zq ⟨g.k_End,g.zn16⟩) (Za 0)) (zJ (Zb (Zu g.zc25) (Zb (Zu g.zc40) (Zb (Zu g.zc3) (Zb (Zu g.zc4) (Zb (Zu g.zc14) Ze)))))) (by with_unfolding_all rfl)) (ZdL (z7 Zkb (Zh zd42 hr (by decide) (Zb (Za 0) Ze)) Zj)))))
theorem ZxZ (D:Zv K mg "has_new_fin" ZpF ZsY) (g:Glb K mg) (zd42:Zo P w K mg base 2 "unsent" ZbI):Zo P w K mg base 3 "has_new_fin" ZbK:=
 ZX D zc43 1 1 rfl rfl fun f cdv A outer s H E hr=>(Zg (Zt (Zcv (z7 Zil (Zn (Zq ⟨g.k_End,g.zn16⟩) (Za 0)) (zJ (Zb (Zu g.zc40) (Zb (Zu g.zc4) (Zb (Zu g.zc14) Ze)))) (by with_unfolding_all rfl)) (ZdL (z7 (Zag hr.units) (Zh zd42 hr (by decide) (Zb (Za 0) Ze)) Zj)))))
theorem Zx2 (D:Zv K mg "has_more" ZpI Zs1) (g:Glb K mg) (zd41:Zo P w K mg base 3 "has_new_data" Zaq) (zd43:Zo P w K mg base 3 "has_new_fin" ZbK):Zo P w K mg base 4 "has_more" ZbT:=
 ZX D zc40 1 1 rfl rfl fun f cdv A outer s H E hr=>(Zg (Zt (ZlQ (Zh zd41 hr (by decide) (Zb (Za 0) Ze)) (ZdL (Zh zd43 hr (by decide) (Zb (Za 0) Ze))))))
theorem ZxX (D:Zv K mg "new_data" ZpD ZsW) (g:Glb K mg) (zd35:Zo P w K mg base 1 "most_at_once" Zao) (zd5:Zo P w K mg base 1 "offset" zI) (zd4:Zo P w K mg base 1 "plus" zw) (zd37:Zo P w K mg base 3 "segment_of" zH) (zd42:Zo P w K mg base 2 "unsent" ZbI):Zo P w K mg base 4 "new_data" Zcq:=
 ZX D zc45 2 5 rfl rfl fun f cdv A outer s H E hr=>(Zf (ZJ 2 zc45.nd (Zn (Zq ⟨g.k_End,g.zn8⟩) (Za 0)))
 (Zf (ZJ 3 zc45.nd (zQ Zl7 g.b_min PyProof.Rows.boot_min (Zb (Zh zd35 hr (by decide) (Zb (Za 0) Ze)) (Zb (Zh zd42 hr (by decide) (Zb (Za 0) Ze)) (Zb (Za 1) Ze)))))
 (Zf (ZJ 4 zc45.nd (Zh zd5 hr (by decide) (Zb (Za 2) (Zb (Zn (Zq ⟨g.k_End,g.zn21⟩) (Za 0)) Ze))))
 (Zf (Zs (Zq ⟨g.k_End,g.zn8⟩) (Za 0) (Zh zd4 hr (by decide) (Zb (Za 2) (Zb (Za 3) Ze))))
 (Zg (Zt (Zh zd37 hr (by decide) (Zb (Za 0) (Zb (Za 2) (Zb (ZcR (ZB (Zag hr.units) (Zh zd42 hr (by decide) (Zb (Za 0) Ze)) Zj) (Zl g.zc26) Zj) (Zb (Zbo (Zn (Zq ⟨g.k_Pile,g.zn25⟩) (Zn (Zq ⟨g.k_End,g.zn24⟩) (Za 0))) (Za5 (Za 4)) (Za5 (Zw zo (Za 4) (Za 3)))) Ze)))))))))))
theorem ZxW (D:Zv K mg "new_fin" ZpC ZsV) (g:Glb K mg) (zd4:Zo P w K mg base 1 "plus" zw) (zd37:Zo P w K mg base 3 "segment_of" zH):Zo P w K mg base 4 "new_fin" ZdW:=
 ZX D zc46 1 2 rfl rfl fun f cdv A outer s H E hr=>(Zf (ZJ 1 zc46.nd (Zn (Zq ⟨g.k_End,g.zn8⟩) (Za 0)))
 (Zf (Zs (Zq ⟨g.k_End,g.zn8⟩) (Za 0) (Zh zd4 hr (by decide) (Zb (Za 1) (Zb Zj Ze))))
 (Zg (Zt (Zh zd37 hr (by decide) (Zb (Za 0) (Zb (Za 1) (Zb (Zl g.zc6) (Zb (Zbp Ze) Ze)))))))))
theorem ZxY (D:Zv K mg "new_piece" ZpE ZsX) (g:Glb K mg) (zd41:Zo P w K mg base 3 "has_new_data" Zaq) (zd45:Zo P w K mg base 4 "new_data" Zcq) (zd46:Zo P w K mg base 4 "new_fin" ZdW):Zo P w K mg base 5 "new_piece" Za2:=
 ZX D ZyX 2 2 rfl rfl fun f cdv A outer s H E hr=>(Zf (Zs (Zq ⟨g.k_End,g.zn13⟩) (Za 0) zC)
 (Zg (Zt (ZcR (Zz (Zh zd41 hr (by decide) (Zb (Za 0) Ze))) (Zh zd45 hr (by decide) (Zb (Za 0) (Zb (Za 1) Ze))) (Zh zd46 hr (by decide) (Zb (Za 0) Ze))))))
theorem Zx3 (D:Zv K mg "new_syn" ZpJ Zs2) (g:Glb K mg) (zd36:Zo P w K mg base 1 "paid_syn" ZbR) (zd4:Zo P w K mg base 1 "plus" zw) (zd8:Zo P w K mg base 1 "start_timer" zc):Zo P w K mg base 2 "new_syn" Zc3:=
 ZX D zc39 2 2 rfl rfl fun f cdv A outer s H E hr=>(Zf (ZE (ZB (Zag hr.units) (Zn (Zq ⟨g.k_End,g.zn8⟩) (Za 0)) (Zn (Zq ⟨g.k_End,g.zn21⟩) (Za 0))) (Zg (ZO (Zh zd8 hr (by decide) (Zb (Za 0) (Zb (Za 1) Ze))))) Zx)
 (Zf (Zs (Zq ⟨g.k_End,g.zn8⟩) (Za 0) (Zh zd4 hr (by decide) (Zb (Zn (Zq ⟨g.k_End,g.zn5⟩) (Za 0)) (Zb Zj Ze))))
 (Zg (Zt (Zh zd36 hr (by decide) (Zb (Za 0) Ze))))))
theorem Zx4 (D:Zv K mg "going_as_new" ZpK Zs3) (g:Glb K mg) (zd40:Zo P w K mg base 4 "has_more" ZbT) (zd44:Zo P w K mg base 5 "new_piece" Za2) (zd39:Zo P w K mg base 2 "new_syn" Zc3) (zd5:Zo P w K mg base 1 "offset" zI) (zd8:Zo P w K mg base 1 "start_timer" zc):Zo P w K mg base 6 "going_as_new" zb:=
 ZX D zc38 2 3 rfl rfl fun f cdv A outer s H E hr=>(Zf (ZE (ZB Zil (Zn (Zq ⟨g.k_End,g.zn16⟩) (Za 0)) (zJ (Zb (Zu g.zc37) (Zb (Zu g.zc36) Ze))) (by with_unfolding_all rfl)) (Zg (Zt (ZcR (MW.mt (Zf6 (ZB (Zag hr.units) (Zn (Zq ⟨g.k_End,g.zn8⟩) (Za 0)) (Zn (Zq ⟨g.k_End,g.zn5⟩) (Za 0))) (Zb1 (Zz (Zn (Zq ⟨g.k_End,g.zn12⟩) (Za 0)))))) (Zh zd39 hr (by decide) (Zb (Za 0) (Zb (Za 1) Ze))) ZbV))) Zx)
 (Zf (ZJ 2 zc38.nd (Zw Zdu (Zn (Zq ⟨g.k_End,g.zn23⟩) (Za 0)) (Zh zd5 hr (by decide) (Zb (Zn (Zq ⟨g.k_End,g.zn8⟩) (Za 0)) (Zb (Zn (Zq ⟨g.k_End,g.zn21⟩) (Za 0)) Ze)))))
 (Zf (ZE (MW.mt (Zf6 (ZB Zjj (Za 2) Zj) (Zb1 (ZbU (Zz (Zh zd40 hr (by decide) (Zb (Za 0) Ze))))))) (Zg (Zt ZbV)) Zx)
 (Zf (ZE (ZB (Zag hr.units) (Zn (Zq ⟨g.k_End,g.zn8⟩) (Za 0)) (Zn (Zq ⟨g.k_End,g.zn21⟩) (Za 0))) (Zg (ZO (Zh zd8 hr (by decide) (Zb (Za 0) (Zb (Za 1) Ze))))) Zx)
 (Zf (Zs (Zq ⟨g.k_End,g.zn11⟩) (Za 0) zC)
 (Zg (Zt (Zh zd44 hr (by decide) (Zb (Za 0) (Zb (Za 2) Ze))))))))))
theorem Zx9 (D:Zv K mg "is_due" ZpP Zs8) (g:Glb K mg) :Zo P w K mg base 1 "is_due" Zdc:=
 ZX D zc33 2 2 rfl rfl fun f cdv A outer s H E hr=>(Zg (Zt (z7 Zq4 (Zw Zdu (Za 1) (Zn (Zq ⟨g.k_End,g.zn15⟩) (Za 0))) (Zn (Zq ⟨g.k_End,g.zn22⟩) (Za 0)))))
theorem ZxV (D:Zv K mg "going_as_probe" ZpB ZsU) (g:Glb K mg) (zd40:Zo P w K mg base 4 "has_more" ZbT) (zd33:Zo P w K mg base 1 "is_due" Zdc) (zd44:Zo P w K mg base 5 "new_piece" Za2) (zd8:Zo P w K mg base 1 "start_timer" zc):Zo P w K mg base 6 "going_as_probe" zd:=
 ZX D ZyW 2 2 rfl rfl fun f cdv A outer s H E hr=>(Zf (ZE (MW.mt (Zf6 (ZB (ZgD hr.units) (Zn (Zq ⟨g.k_End,g.zn8⟩) (Za 0)) (Zn (Zq ⟨g.k_End,g.zn21⟩) (Za 0))) (Zf6 (ZB (ZgD hr.units) (Zn (Zq ⟨g.k_End,g.zn23⟩) (Za 0)) Zj) (Zb1 (ZbU (Zz (Zh zd40 hr (by decide) (Zb (Za 0) Ze)))))))) (Zf (Zs (Zq ⟨g.k_End,g.zn13⟩) (Za 0) zC)
  (Zg (Zt ZbV))) Zx)
 (Zf (ZE (ZbU (Zz (Zn (Zq ⟨g.k_End,g.zn13⟩) (Za 0)))) (Zf (Zs (Zq ⟨g.k_End,g.zn13⟩) (Za 0) zC)
  (Zg (ZO (Zh zd8 hr (by decide) (Zb (Za 0) (Zb (Za 1) Ze)))))) Zx)
 (Zf (ZE (ZbU (Zz (Zh zd33 hr (by decide) (Zb (Za 0) (Zb (Za 1) Ze))))) (Zg (Zt ZbV)) Zx)
 (Zf (Zs (Zq ⟨g.k_End,g.zn15⟩) (Za 0) (Za 1))
 (Zg (Zt (Zh zd44 hr (by decide) (Zb (Za 0) (Zb Zj Ze)))))))))
theorem Zya (D:Zv K mg "paid_reset" ZpQ Zs9) (g:Glb K mg) :Zo P w K mg base 1 "paid_reset" ZcX:=
 ZX D zc32 1 2 rfl rfl fun f cdv A outer s H E hr=>(Zf (ZJ 1 zc32.nd (Zn (Zq ⟨g.k_End,g.zn10⟩) (Za 0)))
 (Zf (Zs (Zq ⟨g.k_End,g.zn10⟩) (Za 0) ZbV)
 (Zg (Zt (Za 1)))))
theorem Zyb (D:Zv K mg "going" ZpR Zta) (g:Glb K mg) (zd34:Zo P w K mg base 4 "again" Zdt) (zd48:Zo P w K mg base 4 "going_as_answer" Zad) (zd38:Zo P w K mg base 6 "going_as_new" zb) (zd47:Zo P w K mg base 6 "going_as_probe" zd) (zd33:Zo P w K mg base 1 "is_due" Zdc) (zd32:Zo P w K mg base 1 "paid_reset" ZcX):Zo P w K mg base 7 "going" Zed:=
 ZX D zc31 2 3 rfl rfl fun f cdv A outer s H E hr=>(Zf (ZE (ZB Zq2 (Zn (Zq ⟨g.k_End,g.zn10⟩) (Za 0)) ZbV) (Zg (Zt (Zh zd32 hr (by decide) (Zb (Za 0) Ze)))) Zx)
 (Zf (ZE (MW.mt (Zcu (ZB (Zag hr.units) (Zn (Zq ⟨g.k_End,g.zn16⟩) (Za 0)) (Zu g.zc39)) (ZaT (ZB Zq4 (Zw Zdu (Za 1) (Zn (Zq ⟨g.k_End,g.zn15⟩) (Za 0))) (Zl g.zc15))))) (Zg (Zs (Zq ⟨g.k_End,g.zn16⟩) (Za 0) (Zu g.zc2))) Zx)
 (Zf (ZE (ZB Zil (Zn (Zq ⟨g.k_End,g.zn16⟩) (Za 0)) (zJ (Zb (Zu g.zc2) (Zb (Zu g.zc17) Ze))) (by with_unfolding_all rfl)) (Zg (Zt ZbV)) Zx)
 (Zf (ZE (MW.mt (Zcu (ZB (ZgD hr.units) (Zn (Zq ⟨g.k_End,g.zn8⟩) (Za 0)) (Zn (Zq ⟨g.k_End,g.zn21⟩) (Za 0))) (ZaT (Zz (Zh zd33 hr (by decide) (Zb (Za 0) (Zb (Za 1) Ze))))))) (Zg (Zt (Zh zd34 hr (by decide) (Zb (Za 0) (Zb (Za 1) Ze))))) Zx)
 (Zf (ZJ 2 zc31.nd (Zh zd38 hr (by decide) (Zb (Za 0) (Zb (Za 1) Ze))))
 (Zf (ZE (ZB Zq3 (Za 2) ZbV) (Zg (ZJ 2 zc31.nd (Zh zd47 hr (by decide) (Zb (Za 0) (Zb (Za 1) Ze))))) Zx)
 (Zf (ZE (ZB Zq3 (Za 2) ZbV) (Zg (ZJ 2 zc31.nd (Zh zd48 hr (by decide) (Zb (Za 0) Ze)))) Zx)
 (Zg (Zt (Za 2))))))))))
theorem Zyc (D:Zv K mg "send" ZpS Ztb) (g:Glb K mg) (zd31:Zo P w K mg base 7 "going" Zed) (zd18:Zo P w K mg base 4 "put" Zj7):Zo P w K mg base 8 "send" ZdJ:=
 ZX D zc30 2 3 rfl rfl fun f cdv A outer s H E hr=>(Zf (ZJ 2 zc30.nd (Zh zd31 hr (by decide) (Zb (Za 0) (Zb (Za 1) Ze))))
 (Zg (Zt (ZcR (ZB Zq3 (Za 2) ZbV) (Zbp Ze) (Zh zd18 hr (by decide) (Zb (Za 2) Ze))))))
theorem ZxT (D:Zv K mg "reset_for" Zpz ZsS) (g:Glb K mg) (zd17:Zo P w K mg base 2 "bears" Z7) (zd15:Zo P w K mg base 2 "length" ZcH) (zd4:Zo P w K mg base 1 "plus" zw):Zo P w K mg base 3 "reset_for" ZbY:=
 ZX D zc49 1 2 rfl rfl fun f cdv A outer s H E hr=>(Zf (ZJ 1 zc49.nd (zJ (Zb (ZF ZG (Za 0) (Zl g.zc9)) (Zb (ZF ZG (Za 0) (Zl g.zc34)) Ze))))
 (Zf (ZE (Zz (Zh zd17 hr (by decide) (Zb (Za 0) (Zb (Zl g.zc0) Ze)))) (Zg (Zt (Zw zo (Za 1) (zJ (Zb (ZF ZG (Za 0) (Zl g.zc1)) (Zb Zj (Zb (Zl g.zc32) (Zb Zj (Zb Zj (Zb (zJ Ze) Ze)))))))))) Zx)
 (Zg (Zt (Zw zo (Za 1) (zJ (Zb Zj (Zb (Zh zd4 hr (by decide) (Zb (ZF ZG (Za 0) (Zl g.zc24)) (Zb (Zh zd15 hr (by decide) (Zb (Za 0) Ze)) Ze))) (Zb (Zw zo (Zl g.zc32) (Zl g.zc0)) (Zb Zj (Zb Zj (Zb (zJ Ze) Ze))))))))))))
theorem ZxS (D:Zv K mg "owe_reset_for" Zpy ZsR) (g:Glb K mg) (zd17:Zo P w K mg base 2 "bears" Z7) (zd49:Zo P w K mg base 3 "reset_for" ZbY):Zo P w K mg base 4 "owe_reset_for" Z1:=
 ZX D ZyU 2 2 rfl rfl fun f cdv A outer s H E hr=>(Zg (ZE (ZbU (Zz (Zh zd17 hr (by decide) (Zb (Za 1) (Zb (Zl g.zc32) Ze))))) (Zg (Zs (Zq ⟨g.k_End,g.zn10⟩) (Za 0) (Zh zd49 hr (by decide) (Zb (Za 1) Ze)))) Zx))
theorem ZxR (D:Zv K mg "come_to_closed" Zpx ZsQ) (g:Glb K mg) (zd50:Zo P w K mg base 4 "owe_reset_for" Z1):Zo P w K mg base 5 "come_to_closed" ZaU:=
 ZX D ZyT 2 2 rfl rfl fun f cdv A outer s H E hr=>(Zg (ZO (Zh zd50 hr (by decide) (Zb (Za 0) (Zb (Za 1) Ze)))))
theorem ZxP (D:Zv K mg "hear_syn" Zpv ZsO) (g:Glb K mg) (zd17:Zo P w K mg base 2 "bears" Z7) (zd4:Zo P w K mg base 1 "plus" zw):Zo P w K mg base 3 "hear_syn" ZbS:=
 ZX D ZyR 2 2 rfl rfl fun f cdv A outer s H E hr=>(Zf (Zs (Zq ⟨g.k_End,g.zn14⟩) (Za 0) (Zh zd4 hr (by decide) (Zb (ZF ZG (Za 1) (Zl g.zc24)) (Zb Zj Ze))))
 (Zf (Zs (Zq ⟨g.k_End,g.zn23⟩) (Za 0) (ZF ZG (Za 1) (Zl g.zc42)))
 (Zf (Zs (Zq ⟨g.k_End,g.zn18⟩) (Za 0) (ZF ZG (Za 1) (Zl g.zc24)))
 (Zf (Zs (Zq ⟨g.k_End,g.zn19⟩) (Za 0) (ZcR (Zz (Zh zd17 hr (by decide) (Zb (Za 1) (Zb (Zl g.zc0) Ze)))) (ZF ZG (Za 1) (Zl g.zc1)) Zj))
 (Zg (ZE (ZB (ZgD hr.units) (ZF ZG (Za 1) (Zl g.zc20)) Zj) (Zg (Zs (Zq ⟨g.k_End,g.zn7⟩) (Za 0) (ZF ZG (Za 1) (Zl g.zc20)))) Zx))))))
theorem ZxQ (D:Zv K mg "come_to_listen" Zpw ZsP) (g:Glb K mg) (zd17:Zo P w K mg base 2 "bears" Z7) (zd53:Zo P w K mg base 3 "hear_syn" ZbS) (zd50:Zo P w K mg base 4 "owe_reset_for" Z1):Zo P w K mg base 5 "come_to_listen" zB:=
 ZX D ZyS 2 2 rfl rfl fun f cdv A outer s H E hr=>(Zf (ZE (Zz (Zh zd17 hr (by decide) (Zb (Za 1) (Zb (Zl g.zc32) Ze)))) (Zg Zeh) Zx)
 (Zg (ZE (Zz (Zh zd17 hr (by decide) (Zb (Za 1) (Zb (Zl g.zc0) Ze)))) (Zg (ZO (Zh zd50 hr (by decide) (Zb (Za 0) (Zb (Za 1) Ze))))) (Zg (ZE (Zz (Zh zd17 hr (by decide) (Zb (Za 1) (Zb (Zl g.zc35) Ze)))) (Zf (Zs (Zq ⟨g.k_End,g.zn17⟩) (Za 0) (ZF ZG (Za 1) (Zl g.zc34)))
   (Zf (ZO (Zh zd53 hr (by decide) (Zb (Za 0) (Zb (Za 1) Ze))))
   (Zg (Zs (Zq ⟨g.k_End,g.zn16⟩) (Za 0) (Zu g.zc36))))) Zx)))))
theorem ZxN (D:Zv K mg "answers_syn" Zpt ZsM) (g:Glb K mg) (zd4:Zo P w K mg base 1 "plus" zw):Zo P w K mg base 2 "answers_syn" ZbL:=
 ZX D ZyP 2 2 rfl rfl fun f cdv A outer s H E hr=>(Zg (Zt (Zcv (z7 (ZgD hr.units) (Zn (Zq ⟨g.k_End,g.zn8⟩) (Za 0)) (Zn (Zq ⟨g.k_End,g.zn5⟩) (Za 0))) (ZdL (z7 (Zag hr.units) (ZF ZG (Za 1) (Zl g.zc1)) (Zh zd4 hr (by decide) (Zb (Zn (Zq ⟨g.k_End,g.zn5⟩) (Za 0)) (Zb Zj Ze))))))))
theorem ZxL (D:Zv K mg "go_on_from_syn_sent" Zpr ZsK) (g:Glb K mg) (zd17:Zo P w K mg base 2 "bears" Z7) (zd8:Zo P w K mg base 1 "start_timer" zc):Zo P w K mg base 3 "go_on_from_syn_sent" zP:=
 ZX D ZyN 3 3 rfl rfl fun f cdv A outer s H E hr=>(Zg (ZE (Zz (Zh zd17 hr (by decide) (Zb (Za 1) (Zb (Zl g.zc0) Ze)))) (Zf (Zs (Zq ⟨g.k_End,g.zn21⟩) (Za 0) (ZF ZG (Za 1) (Zl g.zc1)))
  (Zf (Zs (Zq ⟨g.k_End,g.zn16⟩) (Za 0) (Zu g.zc25))
  (Zg (Zs (Zq ⟨g.k_End,g.zn11⟩) (Za 0) zC)))) (Zf (Zs (Zq ⟨g.k_End,g.zn16⟩) (Za 0) (Zu g.zc36))
  (Zf (ZO (Zh zd8 hr (by decide) (Zb (Za 0) (Zb (Za 2) Ze))))
  (Zg (Zs (Zq ⟨g.k_End,g.zn12⟩) (Za 0) zC))))))
theorem ZxM (D:Zv K mg "refuse" Zps ZsL) (g:Glb K mg) (zd17:Zo P w K mg base 2 "bears" Z7):Zo P w K mg base 3 "refuse" ZeP:=
 ZX D ZyO 2 2 rfl rfl fun f cdv A outer s H E hr=>(Zg (ZE (Zz (Zh zd17 hr (by decide) (Zb (Za 1) (Zb (Zl g.zc0) Ze)))) (Zf (Zs (Zq ⟨g.k_End,g.zn16⟩) (Za 0) (Zu g.zc2))
  (Zg (Zs (Zq ⟨g.k_End,g.zn4⟩) (Za 0) (Zu g.zc27)))) Zx))
theorem ZxO (D:Zv K mg "come_to_syn_sent" Zpu ZsN) (g:Glb K mg) (zd55:Zo P w K mg base 2 "answers_syn" ZbL) (zd17:Zo P w K mg base 2 "bears" Z7) (zd57:Zo P w K mg base 3 "go_on_from_syn_sent" zP) (zd53:Zo P w K mg base 3 "hear_syn" ZbS) (zd50:Zo P w K mg base 4 "owe_reset_for" Z1) (zd56:Zo P w K mg base 3 "refuse" ZeP):Zo P w K mg base 5 "come_to_syn_sent" ZS:=
 ZX D ZyQ 3 3 rfl rfl fun f cdv A outer s H E hr=>(Zg (ZE (MW.mt (Zcu (Zz (Zh zd17 hr (by decide) (Zb (Za 1) (Zb (Zl g.zc0) Ze)))) (ZaT (ZbU (Zz (Zh zd55 hr (by decide) (Zb (Za 0) (Zb (Za 1) Ze)))))))) (Zg (ZO (Zh zd50 hr (by decide) (Zb (Za 0) (Zb (Za 1) Ze))))) (Zg (ZE (Zz (Zh zd17 hr (by decide) (Zb (Za 1) (Zb (Zl g.zc32) Ze)))) (Zg (ZO (Zh zd56 hr (by decide) (Zb (Za 0) (Zb (Za 1) Ze))))) (Zg (ZE (Zz (Zh zd17 hr (by decide) (Zb (Za 1) (Zb (Zl g.zc35) Ze)))) (Zf (ZO (Zh zd53 hr (by decide) (Zb (Za 0) (Zb (Za 1) Ze))))
    (Zg (ZO (Zh zd57 hr (by decide) (Zb (Za 0) (Zb (Za 1) (Zb (Za 2) Ze))))))) Zx))))))
theorem ZxG (D:Zv K mg "is_in_window" Zpm ZsF) (g:Glb K mg) (zd5:Zo P w K mg base 1 "offset" zI) (zd11:Zo P w K mg base 2 "our_window" zT):Zo P w K mg base 3 "is_in_window" zt:=
 ZX D ZyK 2 2 rfl rfl fun f cdv A outer s H E hr=>(Zg (Zt (ZhN Zjj ZuA Zj (Zh zd5 hr (by decide) (Zb (Za 1) (Zb (Zn (Zq ⟨g.k_End,g.zn14⟩) (Za 0)) Ze))) (Zh zd11 hr (by decide) (Zb (Za 0) Ze)))))
theorem ZxH (D:Zv K mg "fits" Zpn ZsG) (g:Glb K mg) (zd62:Zo P w K mg base 3 "is_in_window" zt) (zd15:Zo P w K mg base 2 "length" ZcH) (zd5:Zo P w K mg base 1 "offset" zI) (zd4:Zo P w K mg base 1 "plus" zw):Zo P w K mg base 4 "fits" ZgC:=
 ZX D zc61 2 4 rfl rfl fun f cdv A outer s H E hr=>(Zf (ZJ 2 zc61.nd (Zh zd15 hr (by decide) (Zb (Za 1) Ze)))
 (Zf (ZE (ZB (Zag hr.units) (Za 2) Zj) (Zg (Zt (ZhN Zjj Zjj Zj (Zh zd5 hr (by decide) (Zb (ZF ZG (Za 1) (Zl g.zc24)) (Zb (Zn (Zq ⟨g.k_End,g.zn14⟩) (Za 0)) Ze))) (Zl g.zc30)))) Zx)
 (Zf (ZJ 3 zc61.nd (Zh zd4 hr (by decide) (Zb (ZF ZG (Za 1) (Zl g.zc24)) (Zb (Zw Zdu (Za 2) Zj) Ze))))
 (Zg (Zt (ZlQ (Zh zd62 hr (by decide) (Zb (Za 0) (Zb (ZF ZG (Za 1) (Zl g.zc24)) Ze))) (ZdL (Zh zd62 hr (by decide) (Zb (Za 0) (Zb (Za 3) Ze))))))))))
theorem Zxy (D:Zv K mg "end_what_is_acknowledged" Zpe Zsx) (g:Glb K mg) (zd12:Zo P w K mg base 3 "has_sent_fin" Zbm):Zo P w K mg base 4 "end_what_is_acknowledged" ZR:=
 ZX D ZyD 2 2 rfl rfl fun f cdv A outer s H E hr=>(Zf (ZE (MW.mt (Zf6 (ZbU (Zz (Zh zd12 hr (by decide) (Zb (Za 0) Ze)))) (Zb1 (ZB (ZgD hr.units) (Zn (Zq ⟨g.k_End,g.zn21⟩) (Za 0)) (Zn (Zq ⟨g.k_End,g.zn8⟩) (Za 0)))))) (Zg Zeh) Zx)
 (Zg (ZE (ZB (Zag hr.units) (Zn (Zq ⟨g.k_End,g.zn16⟩) (Za 0)) (Zu g.zc40)) (Zg (Zs (Zq ⟨g.k_End,g.zn16⟩) (Za 0) (Zu g.zc41))) (Zg (ZE (ZB (Zag hr.units) (Zn (Zq ⟨g.k_End,g.zn16⟩) (Za 0)) (Zu g.zc4)) (Zf (Zs (Zq ⟨g.k_End,g.zn16⟩) (Za 0) (Zu g.zc39))
   (Zg (Zs (Zq ⟨g.k_End,g.zn15⟩) (Za 0) (Za 1)))) (Zg (ZE (ZB (Zag hr.units) (Zn (Zq ⟨g.k_End,g.zn16⟩) (Za 0)) (Zu g.zc14)) (Zg (Zs (Zq ⟨g.k_End,g.zn16⟩) (Za 0) (Zu g.zc2))) Zx)))))))
theorem ZxB (D:Zv K mg "take_window" Zph ZsA) (g:Glb K mg) :Zo P w K mg base 1 "take_window" ZaR:=
 ZX D ZyF 2 2 rfl rfl fun f cdv A outer s H E hr=>(Zf (Zs (Zq ⟨g.k_End,g.zn23⟩) (Za 0) (ZF ZG (Za 1) (Zl g.zc42)))
 (Zf (Zs (Zq ⟨g.k_End,g.zn18⟩) (Za 0) (ZF ZG (Za 1) (Zl g.zc24)))
 (Zg (Zs (Zq ⟨g.k_End,g.zn19⟩) (Za 0) (ZF ZG (Za 1) (Zl g.zc1))))))
theorem ZxC (D:Zv K mg "has_answered_syn" Zpi ZsB) (g:Glb K mg) (zd50:Zo P w K mg base 4 "owe_reset_for" Z1) (zd67:Zo P w K mg base 1 "take_window" ZaR):Zo P w K mg base 5 "has_answered_syn" zx:=
 ZX D ZyG 2 2 rfl rfl fun f cdv A outer s H E hr=>(Zf (ZE (MW.mt (Zf6 (ZB (Zag hr.units) (Zn (Zq ⟨g.k_End,g.zn8⟩) (Za 0)) (Zn (Zq ⟨g.k_End,g.zn5⟩) (Za 0))) (Zb1 (ZB (ZgD hr.units) (ZF ZG (Za 1) (Zl g.zc1)) (Zn (Zq ⟨g.k_End,g.zn8⟩) (Za 0)))))) (Zf (ZO (Zh zd50 hr (by decide) (Zb (Za 0) (Zb (Za 1) Ze))))
  (Zg (Zt zC))) Zx)
 (Zf (Zs (Zq ⟨g.k_End,g.zn21⟩) (Za 0) (ZF ZG (Za 1) (Zl g.zc1)))
 (Zf (Zs (Zq ⟨g.k_End,g.zn16⟩) (Za 0) (ZcR (Zz (Zn (Zq ⟨g.k_End,g.zn6⟩) (Za 0))) (Zu g.zc40) (Zu g.zc25)))
 (Zf (ZO (Zh zd67 hr (by decide) (Zb (Za 0) (Zb (Za 1) Ze))))
 (Zg (Zt zC))))))
theorem Zxz (D:Zv K mg "is_newer" Zpf Zsy) (g:Glb K mg) (zd6:Zo P w K mg base 2 "past" Zcp):Zo P w K mg base 3 "is_newer" Zdb:=
 ZX D ZyE 2 2 rfl rfl fun f cdv A outer s H E hr=>(Zf (ZE (ZB (Zag hr.units) (ZF ZG (Za 1) (Zl g.zc24)) (Zn (Zq ⟨g.k_End,g.zn18⟩) (Za 0))) (Zg (Zt (ZuD (Zh zd6 hr (by decide) (Zb (Zn (Zq ⟨g.k_End,g.zn19⟩) (Za 0)) (Zb (ZF ZG (Za 1) (Zl g.zc1)) Ze)))))) Zx)
 (Zg (Zt (Zh zd6 hr (by decide) (Zb (ZF ZG (Za 1) (Zl g.zc24)) (Zb (Zn (Zq ⟨g.k_End,g.zn18⟩) (Za 0)) Ze))))))
theorem ZxA (D:Zv K mg "hear_answer" Zpg Zsz) (g:Glb K mg) (zd69:Zo P w K mg base 3 "is_newer" Zdb) (zd5:Zo P w K mg base 1 "offset" zI) (zd6:Zo P w K mg base 2 "past" Zcp) (zd8:Zo P w K mg base 1 "start_timer" zc) (zd3:Zo P w K mg base 1 "take" Zco) (zd67:Zo P w K mg base 1 "take_window" ZaR):Zo P w K mg base 4 "hear_answer" zU:=
 ZX D zc68 3 6 rfl rfl fun f cdv A outer s H E hr=>(Zf (ZJ 3 zc68.nd (ZF ZG (Za 1) (Zl g.zc1)))
 (Zf (ZJ 4 zc68.nd (Zh zd6 hr (by decide) (Zb (Za 3) (Zb (Zn (Zq ⟨g.k_End,g.zn21⟩) (Za 0)) Ze))))
 (Zf (ZE (Zz (Za 4)) (Zf (ZO (Zh zd3 hr (by decide) (Zb (Zn (Zq ⟨g.k_End,g.zn24⟩) (Za 0)) (Zb (Zh zd5 hr (by decide) (Zb (Za 3) (Zb (Zn (Zq ⟨g.k_End,g.zn21⟩) (Za 0)) Ze))) Ze))))
  (Zf (Zs (Zq ⟨g.k_End,g.zn21⟩) (Za 0) (Za 3))
  (Zg (ZE (ZB (ZgD hr.units) (Zn (Zq ⟨g.k_End,g.zn21⟩) (Za 0)) (Zn (Zq ⟨g.k_End,g.zn8⟩) (Za 0))) (Zg (ZO (Zh zd8 hr (by decide) (Zb (Za 0) (Zb (Za 2) Ze))))) Zx)))) Zx)
 (Zf (ZE (Zz (Zh zd6 hr (by decide) (Zb (Zn (Zq ⟨g.k_End,g.zn21⟩) (Za 0)) (Zb (Za 3) Ze)))) (Zg Zeh) Zx)
 (Zf (ZJ 5 zc68.nd (z7 (Zag hr.units) (Zn (Zq ⟨g.k_End,g.zn23⟩) (Za 0)) Zj))
 (Zf (ZE (MW.mt (Zf6 (Zz (Za 4)) (Zb1 (Zz (Zh zd69 hr (by decide) (Zb (Za 0) (Zb (Za 1) Ze))))))) (Zg (ZO (Zh zd67 hr (by decide) (Zb (Za 0) (Zb (Za 1) Ze))))) Zx)
 (Zg (ZE (MW.mt (Zf6 (Zz (Za 5)) (Zb1 (ZB (Zag hr.units) (Zn (Zq ⟨g.k_End,g.zn23⟩) (Za 0)) Zj)))) (Zg (Zs (Zq ⟨g.k_End,g.zn20⟩) (Za 0) Zj)) Zx))))))))
theorem ZxD (D:Zv K mg "goes_on_behind_answer" Zpj ZsC) (g:Glb K mg) (zd70:Zo P w K mg base 4 "end_what_is_acknowledged" ZR) (zd66:Zo P w K mg base 5 "has_answered_syn" zx) (zd68:Zo P w K mg base 4 "hear_answer" zU) (zd6:Zo P w K mg base 2 "past" Zcp):Zo P w K mg base 6 "goes_on_behind_answer" Z2:=
 ZX D ZyH 3 3 rfl rfl fun f cdv A outer s H E hr=>(Zf (ZE (ZB (Zag hr.units) (Zn (Zq ⟨g.k_End,g.zn16⟩) (Za 0)) (Zu g.zc36)) (Zg (Zt (Zh zd66 hr (by decide) (Zb (Za 0) (Zb (Za 1) Ze))))) Zx)
 (Zf (ZE (Zz (Zh zd6 hr (by decide) (Zb (ZF ZG (Za 1) (Zl g.zc1)) (Zb (Zn (Zq ⟨g.k_End,g.zn8⟩) (Za 0)) Ze)))) (Zf (Zs (Zq ⟨g.k_End,g.zn11⟩) (Za 0) zC)
  (Zg (Zt zC))) Zx)
 (Zf (ZO (Zh zd68 hr (by decide) (Zb (Za 0) (Zb (Za 1) (Zb (Za 2) Ze)))))
 (Zf (ZO (Zh zd70 hr (by decide) (Zb (Za 0) (Zb (Za 2) Ze))))
 (Zg (Zt (z7 (ZgD hr.units) (Zn (Zq ⟨g.k_End,g.zn16⟩) (Za 0)) (Zu g.zc2))))))))
theorem ZxE (D:Zv K mg "hear_reset" Zpk ZsD) (g:Glb K mg) :Zo P w K mg base 1 "hear_reset" Zbu:=
 ZX D ZyI 2 2 rfl rfl fun f cdv A outer s H E hr=>(Zf (ZE (ZB (Zag hr.units) (Zn (Zq ⟨g.k_End,g.zn16⟩) (Za 0)) (Zu g.zc39)) (Zg Zeh) Zx)
 (Zg (ZE (ZB (Zag hr.units) (ZF ZG (Za 1) (Zl g.zc24)) (Zn (Zq ⟨g.k_End,g.zn14⟩) (Za 0))) (Zf (Zs (Zq ⟨g.k_End,g.zn16⟩) (Za 0) (Zu g.zc2))
  (Zg (Zs (Zq ⟨g.k_End,g.zn4⟩) (Za 0) (Zu g.zc28)))) (Zg (Zs (Zq ⟨g.k_End,g.zn11⟩) (Za 0) zC)))))
theorem Zxu (D:Zv K mg "draw_in_order" Zpa Zst) (g:Glb K mg) (zd2:Zo P w K mg base 2 "lay" Zf1) (zd4:Zo P w K mg base 1 "plus" zw):Zo P w K mg base 3 "draw_in_order" Za8:=
 ZX D zc74 1 2 rfl rfl fun f cdv A outer s H E hr=>(Zf (ZmB 1 zc74.nd Ze)
 (Zf (ZhM 200 PassesOwn.never (MW.mt (Zcu (ZB (ZgD hr.units) (Zn (Zq ⟨g.k_End,g.zn14⟩) (Za 0)) (Zn (Zq ⟨g.k_End,g.zn3⟩) (Za 0))) (ZaT (ZuC hr (Zn (Zq ⟨g.k_End,g.zn14⟩) (Za 0)) (Zn (Zq ⟨g.k_End,g.zn2⟩) (Za 0)))))) (Zf (ZmD 1 (ZlR (Zn (Zq ⟨g.k_End,g.zn2⟩) (Za 0)) (Zn (Zq ⟨g.k_End,g.zn14⟩) (Za 0)) ⟨rfl,rfl,rfl,rfl⟩) (hpe:=fun h=>ZnQ PySem.F.plainAttrs_list PySem.F.slot_list_append PySem.F.type_list_append ZiE h (Zhp (ZlR (Zn (Zq ⟨g.k_End,g.zn2⟩) (Za 0)) (Zn (Zq ⟨g.k_End,g.zn14⟩) (Za 0)) ⟨rfl,rfl,rfl,rfl⟩) Zjh)))
  (Zg (Zs (Zq ⟨g.k_End,g.zn14⟩) (Za 0) (Zh zd4 hr (by decide) (Zb (Zn (Zq ⟨g.k_End,g.zn14⟩) (Za 0)) (Zb Zj Ze)))))))
 (Zg (ZmC 1 (ZO (Zh zd2 hr (by decide) (Zb (Zn (Zq ⟨g.k_End,g.zn1⟩) (Za 0)) (Zb (Za 1) Ze))))))))
theorem Zxt (D:Zv K mg "hear_fin" Zo9 Zss) (g:Glb K mg) (zd4:Zo P w K mg base 1 "plus" zw):Zo P w K mg base 2 "hear_fin" Zcs:=
 ZX D ZyB 2 2 rfl rfl fun f cdv A outer s H E hr=>(Zf (Zs (Zq ⟨g.k_End,g.zn14⟩) (Za 0) (Zh zd4 hr (by decide) (Zb (Zn (Zq ⟨g.k_End,g.zn14⟩) (Za 0)) (Zb Zj Ze))))
 (Zg (ZE (ZB (Zag hr.units) (Zn (Zq ⟨g.k_End,g.zn16⟩) (Za 0)) (Zu g.zc25)) (Zg (Zs (Zq ⟨g.k_End,g.zn16⟩) (Za 0) (Zu g.zc3))) (Zg (ZE (ZB (Zag hr.units) (Zn (Zq ⟨g.k_End,g.zn16⟩) (Za 0)) (Zu g.zc40)) (Zg (Zs (Zq ⟨g.k_End,g.zn16⟩) (Za 0) (Zu g.zc4))) (Zf (Zs (Zq ⟨g.k_End,g.zn16⟩) (Za 0) (Zu g.zc39))
   (Zg (Zs (Zq ⟨g.k_End,g.zn15⟩) (Za 0) (Za 1)))))))))
theorem Zxw (D:Zv K mg "keep_data" Zpc Zsv) (g:Glb K mg) (zd62:Zo P w K mg base 3 "is_in_window" zt) (zd4:Zo P w K mg base 1 "plus" zw):Zo P w K mg base 4 "keep_data" ZbZ:=
 ZX D zc72 2 5 rfl rfl fun f cdv A outer s H E hr=>(Zf (Zq6 2 3 zc72.nd PassesOwn.never g.b_enumerate (Zb (ZF ZG (Za 1) (Zl g.zc5)) Ze) (Zf (ZJ 4 zc72.nd (Zh zd4 hr (by decide) (Zb (ZF ZG (Za 1) (Zl g.zc24)) (Zb (Za 2) Ze))))
  (Zg (ZE (Zz (Zh zd62 hr (by decide) (Zb (Za 0) (Zb (Za 4) Ze)))) (Zg (ZO (Zn5 (Zn (Zq ⟨g.k_End,g.zn2⟩) (Za 0)) (Za 4) (Za 3) ⟨rfl,rfl,rfl,rfl⟩))) Zx))))
 (Zg (ZE (ZB Zkb (zQ Ze1 g.b_len PySem.boot_len (Zb (ZF ZG (Za 1) (Zl g.zc5)) Ze)) Zj) (Zg (Zs (Zq ⟨g.k_End,g.zn11⟩) (Za 0) zC)) Zx)))
theorem Zxv (D:Zv K mg "keep_fin" Zpb Zsu) (g:Glb K mg) (zd17:Zo P w K mg base 2 "bears" Z7) (zd62:Zo P w K mg base 3 "is_in_window" zt) (zd4:Zo P w K mg base 1 "plus" zw):Zo P w K mg base 4 "keep_fin" Zcr:=
 ZX D zc73 2 3 rfl rfl fun f cdv A outer s H E hr=>(Zf (ZE (ZbU (Zz (Zh zd17 hr (by decide) (Zb (Za 1) (Zb (Zl g.zc6) Ze))))) (Zg Zeh) Zx)
 (Zf (Zs (Zq ⟨g.k_End,g.zn11⟩) (Za 0) zC)
 (Zf (ZJ 2 zc73.nd (Zh zd4 hr (by decide) (Zb (ZF ZG (Za 1) (Zl g.zc24)) (Zb (zQ Ze1 g.b_len PySem.boot_len (Zb (ZF ZG (Za 1) (Zl g.zc5)) Ze)) Ze))))
 (Zg (ZE (MW.mt (Zcu (ZB Zq3 (Zn (Zq ⟨g.k_End,g.zn3⟩) (Za 0)) ZbV) (ZaT (Zz (Zh zd62 hr (by decide) (Zb (Za 0) (Zb (Za 2) Ze))))))) (Zg (Zs (Zq ⟨g.k_End,g.zn3⟩) (Za 0) (Za 2))) Zx)))))
theorem Zxx (D:Zv K mg "hear_stream" Zpd Zsw) (g:Glb K mg) (zd74:Zo P w K mg base 3 "draw_in_order" Za8) (zd75:Zo P w K mg base 2 "hear_fin" Zcs) (zd72:Zo P w K mg base 4 "keep_data" ZbZ) (zd73:Zo P w K mg base 4 "keep_fin" Zcr):Zo P w K mg base 5 "hear_stream" ZaS:=
 ZX D ZyC 3 3 rfl rfl fun f cdv A outer s H E hr=>(Zf (ZE (ZB Zhq (Zn (Zq ⟨g.k_End,g.zn16⟩) (Za 0)) (zJ (Zb (Zu g.zc25) (Zb (Zu g.zc40) (Zb (Zu g.zc41) Ze)))) (by with_unfolding_all rfl)) (Zg Zeh) Zx)
 (Zf (ZO (Zh zd72 hr (by decide) (Zb (Za 0) (Zb (Za 1) Ze))))
 (Zf (ZO (Zh zd73 hr (by decide) (Zb (Za 0) (Zb (Za 1) Ze))))
 (Zf (ZO (Zh zd74 hr (by decide) (Zb (Za 0) Ze)))
 (Zg (ZE (ZB (Zag hr.units) (Zn (Zq ⟨g.k_End,g.zn14⟩) (Za 0)) (Zn (Zq ⟨g.k_End,g.zn3⟩) (Za 0))) (Zg (ZO (Zh zd75 hr (by decide) (Zb (Za 0) (Zb (Za 2) Ze))))) Zx))))))
theorem ZxF (D:Zv K mg "turn_away" Zpl ZsE) (g:Glb K mg) (zd17:Zo P w K mg base 2 "bears" Z7):Zo P w K mg base 3 "turn_away" Zbl:=
 ZX D ZyJ 3 3 rfl rfl fun f cdv A outer s H E hr=>(Zf (ZE (Zz (Zh zd17 hr (by decide) (Zb (Za 1) (Zb (Zl g.zc32) Ze)))) (Zg Zeh) Zx)
 (Zf (ZE (MW.mt (Zcu (ZB (Zag hr.units) (Zn (Zq ⟨g.k_End,g.zn16⟩) (Za 0)) (Zu g.zc36)) (Zcu (Zz (Zh zd17 hr (by decide) (Zb (Za 1) (Zb (Zl g.zc35) Ze)))) (ZaT (ZbU (Zz (Zh zd17 hr (by decide) (Zb (Za 1) (Zb (Zl g.zc0) Ze))))))))) (Zg (Zs (Zq ⟨g.k_End,g.zn12⟩) (Za 0) zC)) (Zg (Zs (Zq ⟨g.k_End,g.zn11⟩) (Za 0) zC)))
 (Zg (ZE (ZB (Zag hr.units) (Zn (Zq ⟨g.k_End,g.zn16⟩) (Za 0)) (Zu g.zc39)) (Zg (Zs (Zq ⟨g.k_End,g.zn15⟩) (Za 0) (Za 2))) Zx))))
theorem ZxI (D:Zv K mg "come_to_stream" Zpo ZsH) (g:Glb K mg) (zd17:Zo P w K mg base 2 "bears" Z7) (zd61:Zo P w K mg base 4 "fits" ZgC) (zd65:Zo P w K mg base 6 "goes_on_behind_answer" Z2) (zd64:Zo P w K mg base 1 "hear_reset" Zbu) (zd71:Zo P w K mg base 5 "hear_stream" ZaS) (zd63:Zo P w K mg base 3 "turn_away" Zbl):Zo P w K mg base 7 "come_to_stream" ze:=
 ZX D ZyL 3 3 rfl rfl fun f cdv A outer s H E hr=>(Zg (ZE (ZbU (Zz (Zh zd61 hr (by decide) (Zb (Za 0) (Zb (Za 1) Ze))))) (Zg (ZO (Zh zd63 hr (by decide) (Zb (Za 0) (Zb (Za 1) (Zb (Za 2) Ze)))))) (Zg (ZE (Zz (Zh zd17 hr (by decide) (Zb (Za 1) (Zb (Zl g.zc32) Ze)))) (Zg (ZO (Zh zd64 hr (by decide) (Zb (Za 0) (Zb (Za 1) Ze))))) (Zg (ZE (Zz (Zh zd17 hr (by decide) (Zb (Za 1) (Zb (Zl g.zc35) Ze)))) (Zg (Zs (Zq ⟨g.k_End,g.zn11⟩) (Za 0) zC)) (Zg (ZE (MW.mt (Zcu (Zz (Zh zd17 hr (by decide) (Zb (Za 1) (Zb (Zl g.zc0) Ze)))) (ZaT (Zz (Zh zd65 hr (by decide) (Zb (Za 0) (Zb (Za 1) (Zb (Za 2) Ze)))))))) (Zg (ZO (Zh zd71 hr (by decide) (Zb (Za 0) (Zb (Za 1) (Zb (Za 2) Ze)))))) Zx))))))))
theorem ZxJ (D:Zv K mg "is_for" Zpp ZsI) (g:Glb K mg) :Zo P w K mg base 1 "is_for" ZeQ:=
 ZX D ZyM 2 2 rfl rfl fun f cdv A outer s H E hr=>(Zg (Zt (Zcv (z7 (Zag hr.units) (ZF ZG (Za 1) (Zl g.zc9)) (Zn (Zq ⟨g.k_End,g.zn9⟩) (Za 0))) (ZdL (ZlQ (z7 Zil (Zn (Zq ⟨g.k_End,g.zn16⟩) (Za 0)) (zJ (Zb (Zu g.zc2) (Zb (Zu g.zc17) Ze))) (by with_unfolding_all rfl)) (ZdL (z7 (Zag hr.units) (ZF ZG (Za 1) (Zl g.zc34)) (Zn (Zq ⟨g.k_End,g.zn17⟩) (Za 0)))))))))
theorem ZxK (D:Zv K mg "arrive" Zpq ZsJ) (g:Glb K mg) (zd51:Zo P w K mg base 5 "come_to_closed" ZaU) (zd52:Zo P w K mg base 5 "come_to_listen" zB) (zd60:Zo P w K mg base 7 "come_to_stream" ze) (zd54:Zo P w K mg base 5 "come_to_syn_sent" ZS) (zd27:Zo P w K mg base 4 "get" ZiA) (zd59:Zo P w K mg base 1 "is_for" ZeQ) (zd24:Zo P w K mg base 3 "is_right" Zap):Zo P w K mg base 8 "arrive" zZ:=
 ZX D zc58 3 4 rfl rfl fun f cdv A outer s H E hr=>(Zf (ZE (ZbU (Zz (Zh zd24 hr (by decide) (Zb (Za 1) Ze)))) (Zg (Zt zC)) Zx)
 (Zf (ZJ 3 zc58.nd (Zh zd27 hr (by decide) (Zb (Za 1) Ze)))
 (Zf (ZE (ZbU (Zz (Zh zd59 hr (by decide) (Zb (Za 0) (Zb (Za 3) Ze))))) (Zg (Zt zC)) Zx)
 (Zf (ZE (ZB (Zag hr.units) (Zn (Zq ⟨g.k_End,g.zn16⟩) (Za 0)) (Zu g.zc2)) (Zg (ZO (Zh zd51 hr (by decide) (Zb (Za 0) (Zb (Za 3) Ze))))) (Zg (ZE (ZB (Zag hr.units) (Zn (Zq ⟨g.k_End,g.zn16⟩) (Za 0)) (Zu g.zc17)) (Zg (ZO (Zh zd52 hr (by decide) (Zb (Za 0) (Zb (Za 3) Ze))))) (Zg (ZE (ZB (Zag hr.units) (Zn (Zq ⟨g.k_End,g.zn16⟩) (Za 0)) (Zu g.zc37)) (Zg (ZO (Zh zd54 hr (by decide) (Zb (Za 0) (Zb (Za 3) (Zb (Za 2) Ze)))))) (Zg (ZO (Zh zd60 hr (by decide) (Zb (Za 0) (Zb (Za 3) (Zb (Za 2) Ze)))))))))))
 (Zg (Zt zC))))))
theorem Zxs (D:Zv K mg "opened" Zo8 Zsr) (g:Glb K mg) (zd7:MMk P w K mg base 3 "End" Zct):Zo P w K mg base 5 "opened" ZbJ:=
 ZX D ZyA 4 4 rfl rfl fun f cdv A outer s H E hr=>(Zg (Zt (Zq8 zd7 hr (by decide) (Zb (Za 0) (Zb (Za 1) (Zb (Za 2) (Zb (Za 3) Ze)))))))
theorem Zxr (D:Zv K mg "write" Zo7 Zsq) (g:Glb K mg) (zd2:Zo P w K mg base 2 "lay" Zf1) (zd4:Zo P w K mg base 1 "plus" zw):Zo P w K mg base 3 "write" Za4:=
 ZX D zc77 2 3 rfl rfl fun f cdv A outer s H E hr=>(Zf (ZE (MW.mt (Zf6 (Zz (Zn (Zq ⟨g.k_End,g.zn6⟩) (Za 0))) (Zb1 (ZB Zhq (Zn (Zq ⟨g.k_End,g.zn16⟩) (Za 0)) (zJ (Zb (Zu g.zc37) (Zb (Zu g.zc36) (Zb (Zu g.zc25) (Zb (Zu g.zc3) Ze))))) (by with_unfolding_all rfl))))) (Zg (Zt Zj)) Zx)
 (Zf (ZJ 2 zc77.nd (Zh zd2 hr (by decide) (Zb (Zn (Zq ⟨g.k_End,g.zn24⟩) (Za 0)) (Zb (Za 1) Ze))))
 (Zf (Zs (Zq ⟨g.k_End,g.zn0⟩) (Za 0) (Zh zd4 hr (by decide) (Zb (Zn (Zq ⟨g.k_End,g.zn0⟩) (Za 0)) (Zb (Za 2) Ze))))
 (Zg (Zt (Za 2))))))
theorem Zxq (D:Zv K mg "read" Zo6 Zsp) (g:Glb K mg) (zd11:Zo P w K mg base 2 "our_window" zT) (zd3:Zo P w K mg base 1 "take" Zco):Zo P w K mg base 3 "read" ZcP:=
 ZX D zc78 2 4 rfl rfl fun f cdv A outer s H E hr=>(Zf (ZJ 2 zc78.nd (z7 (Zag hr.units) (Zh zd11 hr (by decide) (Zb (Za 0) Ze)) Zj))
 (Zf (ZJ 3 zc78.nd (Zh zd3 hr (by decide) (Zb (Zn (Zq ⟨g.k_End,g.zn1⟩) (Za 0)) (Zb (Za 1) Ze))))
 (Zf (ZE (MW.mt (Zcu (Zz (Za 2)) (Zcu (ZB Zkb (Zh zd11 hr (by decide) (Zb (Za 0) Ze)) Zj) (ZaT (ZB Zil (Zn (Zq ⟨g.k_End,g.zn16⟩) (Za 0)) (zJ (Zb (Zu g.zc25) (Zb (Zu g.zc40) (Zb (Zu g.zc41) Ze)))) (by with_unfolding_all rfl)))))) (Zg (Zs (Zq ⟨g.k_End,g.zn11⟩) (Za 0) zC)) Zx)
 (Zg (Zt (Za 3))))))
theorem Zxp (D:Zv K mg "close" Zo5 Zso) (g:Glb K mg) :Zo P w K mg base 1 "close" ZcA:=
 ZX D Zyz 1 1 rfl rfl fun f cdv A outer s H E hr=>(Zf (ZE (Zz (Zn (Zq ⟨g.k_End,g.zn6⟩) (Za 0))) (Zg (Zt zC)) Zx)
 (Zf (ZE (ZB Zil (Zn (Zq ⟨g.k_End,g.zn16⟩) (Za 0)) (zJ (Zb (Zu g.zc17) (Zb (Zu g.zc37) Ze))) (by with_unfolding_all rfl)) (Zf (Zs (Zq ⟨g.k_End,g.zn16⟩) (Za 0) (Zu g.zc2))
  (Zg (Zt zC))) Zx)
 (Zf (ZE (ZB Zhq (Zn (Zq ⟨g.k_End,g.zn16⟩) (Za 0)) (zJ (Zb (Zu g.zc36) (Zb (Zu g.zc25) (Zb (Zu g.zc3) Ze)))) (by with_unfolding_all rfl)) (Zg (Zt zC)) Zx)
 (Zf (Zs (Zq ⟨g.k_End,g.zn6⟩) (Za 0) zC)
 (Zf (ZE (ZB (Zag hr.units) (Zn (Zq ⟨g.k_End,g.zn16⟩) (Za 0)) (Zu g.zc25)) (Zg (Zs (Zq ⟨g.k_End,g.zn16⟩) (Za 0) (Zu g.zc40))) (Zg (ZE (ZB (Zag hr.units) (Zn (Zq ⟨g.k_End,g.zn16⟩) (Za 0)) (Zu g.zc3)) (Zg (Zs (Zq ⟨g.k_End,g.zn16⟩) (Za 0) (Zu g.zc14))) Zx)))
 (Zg (Zt zC)))))))
theorem Zxo (D:Zv K mg "_law_cell" Zo4 Zsn) (g:Glb K mg) :Zo P w K mg base 1 "_law_cell" ZgK:=
 ZX D Zyy 2 2 rfl rfl fun f cdv A outer s H E hr=>(Zf (ZE (Zz (Za 0)) (Zg (Zt (ZF ZG (Za 0) (Zw Zar (Za 1) (zQ Ze1 g.b_len PySem.boot_len (Zb (Za 0) Ze)))))) Zx)
 (Zg (Zt Zj)))
theorem Zxn (D:Zv K mg "_law_mix" Zo3 Zsm) (g:Glb K mg) (zd80:Zo P w K mg base 1 "_law_cell" ZgK):Zo P w K mg base 2 "_law_mix" ZaF:=
 ZX D zc81 2 3 rfl rfl fun f cdv A outer s H E hr=>(Zf (ZJ 2 zc81.nd (Zw Zar (Zw zo (Zh zd80 hr (by decide) (Zb (Za 0) (Zb (Za 1) Ze))) (Zw ZeS Zj (Zw zo (Za 1) Zj))) Zj))
 (Zf (ZJ 2 zc81.nd (Zw Zar (Zw ZeS (Za 2) Zj) Zj))
 (Zg (Zt (Zw Zar (Zw zo (Zw ZeS (Zw ZeA (Za 2) Zj) Zj) (Za 2)) Zj)))))
theorem Zxm (D:Zv K mg "_law_first" Zo2 Zsl) (g:Glb K mg) :Zo P w K mg base 1 "_law_first" Zdz:=
 ZX D Zyx 1 1 rfl rfl fun f cdv A outer s H E hr=>(Zf (ZE (ZB (Zag hr.units) (Zw Zar (Za 0) Zj) Zj) (Zg (Zt (Zw Zar (Zw Zdu Zj (Zw Zar (Zw ZeA (Za 0) Zj) Zj)) Zj))) Zx)
 (Zg (Zt (Za 0))))
theorem Zxl (D:Zv K mg "_law_play" Zo1 Zsk) (g:Glb K mg) (zd82:Zo P w K mg base 1 "_law_first" Zdz) (zd81:Zo P w K mg base 2 "_law_mix" ZaF) (zd76:Zo P w K mg base 5 "opened" ZbJ):Zo P w K mg base 6 "_law_play" ZgI:=
 ZX D zc83 1 3 rfl rfl fun f cdv A outer s H E hr=>(Zf (ZJ 1 zc83.nd (zJ (Zb (Zw Zar (Zh zd81 hr (by decide) (Zb (Za 0) (Zb Zj Ze))) Zj) (Zb (Zw Zar (Zh zd81 hr (by decide) (Zb (Za 0) (Zb Zj Ze))) Zj) Ze))))
 (Zf (ZJ 2 zc83.nd (Zbp (Zb (Zh zd76 hr (by decide) (Zb (ZF ZG (Za 1) Zj) (Zb (ZF ZG (Za 1) Zj) (Zb (Zh zd82 hr (by decide) (Zb (Zh zd81 hr (by decide) (Zb (Za 0) (Zb Zj Ze))) Ze)) (Zb zC Ze))))) (Zb (Zh zd76 hr (by decide) (Zb (ZF ZG (Za 1) Zj) (Zb (ZF ZG (Za 1) Zj) (Zb (Zh zd82 hr (by decide) (Zb (Zh zd81 hr (by decide) (Zb (Za 0) (Zb Zj Ze))) Ze)) (Zb (z7 (Zag hr.units) (Zw Zar (Zh zd81 hr (by decide) (Zb (Za 0) (Zb Zj Ze))) Zj) Zj) Ze))))) Ze))))
 (Zg (Zt (Zn6 [("ends",(Zd 2)),("roads",(ZaE (Zc (ZaE Zi) (Zc (ZaE Zi) Zi)))),("taken",(ZaE (Zc (Zba Zi) (Zc (Zba Zi) Zi)))),("got",(ZaE (Zc (Zba Zi) (Zc (Zba Zi) Zi)))),("now",(mC (.int 0))),("closed",(ZaE (Zc (mC (.bl false)) (Zc (mC (.bl false)) Zi))))] (Ziz (Za 2) (Ziz (Zdw (Zb (Zdw Ze) (Zb (Zdw Ze) Ze))) (Ziz (Zdw (Zb (Zbp Ze) (Zb (Zbp Ze) Ze))) (Ziz (Zdw (Zb (Zbp Ze) (Zb (Zbp Ze) Ze))) (Ziz Zj (Ziz (Zdw (Zb zC (Zb zC Ze))) Zuc)))))) (by decide +kernel) rfl rfl (List.cons_ne_nil _ _) (by decide) (by decide))))))
theorem Zxj (D:Zv K mg "_law_ask" Zo0 Zsi) (g:Glb K mg) (zd30:Zo P w K mg base 8 "send" ZdJ):Zo P w K mg base 9 "_law_ask" ZeC:=
 ZX D zc85 2 3 rfl rfl fun f cdv A outer s H E hr=>(Zf (ZJ 2 zc85.nd (Zh zd30 hr (by decide) (Zb (ZF ZG (zg hr (Za 0) ZW (fun _ _=>rfl)) (Za 1)) (Zb (zg hr (Za 0) ZW (fun _ _=>rfl)) Ze))))
 (Zg (ZhM 100 PassesOwn.never (ZB (ZgD hr.units) (Za 2) (Zbp Ze)) (Zf (ZO (Zra (ZnQ PySem.F.plainAttrs_list PySem.F.slot_list_append PySem.F.type_list_append ZiE (ZF ZG (zg hr (Za 0) ZW (fun _ _=>rfl)) (Zw Zdu Zj (Za 1))) (Zhp (zJ (Zb (Za 2) (Zb (zg hr (Za 0) ZW (fun _ _=>rfl)) Ze))) Zjh))))
  (Zg (ZJ 2 zc85.nd (Zh zd30 hr (by decide) (Zb (ZF ZG (zg hr (Za 0) ZW (fun _ _=>rfl)) (Za 1)) (Zb (zg hr (Za 0) ZW (fun _ _=>rfl)) Ze)))))))))
theorem Zxk (D:Zv K mg "_law_begin" ZmZ Zsj) (g:Glb K mg) (zd85:Zo P w K mg base 9 "_law_ask" ZeC) (zd81:Zo P w K mg base 2 "_law_mix" ZaF) (zd58:Zo P w K mg base 8 "arrive" zZ) (zd77:Zo P w K mg base 3 "write" Za4):Zo P w K mg base 10 "_law_begin" Zej:=
 ZX D zc84 2 7 rfl rfl fun f cdv A outer s H E hr=>(Zg (ZE (ZB Zkb (Zw Zar (Zh zd81 hr (by decide) (Zb (Za 0) (Zb Zj Ze))) Zj) Zj) (Zf (ZfI PassesOwn.never (Zb2 g.b_range (Zb Zj Ze)) (Zei 2 zc84.nd) (Zf (ZfI PassesOwn.never (Zb2 g.b_range (Zb Zj Ze)) (Zei 3 zc84.nd) (Zg (ZO (Zh zd85 hr (by decide) (Zb (Za 1) (Zb (Za 3) Ze))))))
   (Zg (ZfI PassesOwn.never (Zb2 g.b_range (Zb Zj Ze)) (Zei 3 zc84.nd) (Zf (ZJ 4 zc84.nd (ZF ZG (zg hr (Za 1) ZW (fun _ _=>rfl)) (Za 3)))
    (Zf (Zf7 (zg hr (Za 1) ZW (fun _ _=>rfl)) (Za 3) (Zdw Ze) (ZhG (Zdw Ze) (ZhH (zg hr (Za 1) ZW (fun _ _=>rfl)) (Za 3) ZeM)))
    (Zg (ZfI PassesOwn.never (Zk3 (Za 4)) (Zei 5 zc84.nd) (Zg (ZO (Zh zd58 hr (by decide) (Zb (ZF ZG (zg hr (Za 1) ZW (fun _ _=>rfl)) (Za 3)) (Zb (ZF ZG (Za 5) Zj) (Zb (zg hr (Za 1) ZW (fun _ _=>rfl)) Ze))))))))))))))
  (Zg (ZfI PassesOwn.never (Zb2 g.b_range (Zb Zj Ze)) (Zei 3 zc84.nd) (Zf (Zkf 6 zc84.nd (show Zam _ (Zk ZmZ) "_law_k" ["_law_script","_law_play_here","_law_k","_law_j","_law_rows","_law_one","_law_row"] ["_law_k","_law_script","_law_j"] [0,3] from ⟨rfl,by decide +kernel,by decide +kernel,by decide +kernel,by decide +kernel,by decide +kernel,rfl,by decide,by decide +kernel⟩) rfl rfl (Zb2 g.b_range (Zb (Zw Zar (Zh zd81 hr (by decide) (Zb (Za 0) (Zb (Zw zo Zj (Za 3)) Ze))) Zj) Ze)) (fun _ _ _ _ _=>(Zw Zar (Zw zo (Zh zd81 hr (by decide) (Zb (Za 1) (Zb (Zw zo Zj (Za 2)) Ze))) (Zw ZeS Zj (Za 0))) Zj)))
   (Zg (Zf7 (zg hr (Za 1) ZW (fun _ _=>rfl)) (Za 3) (Zbo (Za 6) Zbx (Za5 (Zh zd77 hr (by decide) (Zb (ZF ZG (zg hr (Za 1) ZW (fun _ _=>rfl)) (Za 3)) (Zb (Za 6) Ze))))) (ZhG (Zbo (Za 6) Zbx (Za5 (Zh zd77 hr (by decide) (Zb (ZF ZG (zg hr (Za 1) ZW (fun _ _=>rfl)) (Za 3)) (Zb (Za 6) Ze))))) (ZhH (zg hr (Za 1) ZW (fun _ _=>rfl)) (Za 3) ZeM)))))))) Zx))
theorem Zxi (D:Zv K mg "_law_bring" ZoZ Zsh) (g:Glb K mg) (zd58:Zo P w K mg base 8 "arrive" zZ):Zo P w K mg base 9 "_law_bring" Zfp:=
 ZX D zc86 3 6 rfl rfl fun f cdv A outer s H E hr=>(Zf (ZJ 3 zc86.nd (ZF ZG (zg hr (Za 0) ZW (fun _ _=>rfl)) (Za 1)))
 (Zg (ZE (Zz (Za 3)) (Zf (ZJ 4 zc86.nd (Zw Zar (Zw Zar (Za 2) Zj) (zQ Ze1 g.b_len PySem.boot_len (Zb (Za 3) Ze))))
  (Zf (ZJ 5 zc86.nd (ZF ZG (Za 3) (Za 4)))
  (Zf (ZE (ZB Zkb (Zw Zar (Zw ZeA (Za 2) Zj) Zj) Zj) (Zg (ZO (Zq7 (ZnQ PySem.F.plainAttrs_list PySem.F.slot_list_pop PySem.F.type_list_pop Zn2 (Za 3) (Zhp (Za 4) Zjh))))) Zx)
  (Zg (ZE (MW.mt (Zcu (ZB ZuA (Zw Zar (Zw ZeA (Za 2) Zj) Zj) Zj) (ZaT (ZB Zjj (Zw Zdu (zg hr (Za 0) ZW (fun _ _=>rfl)) (ZF ZG (Za 5) Zj)) Zj)))) (Zg (ZO (Zh zd58 hr (by decide) (Zb (ZF ZG (zg hr (Za 0) ZW (fun _ _=>rfl)) (Za 1)) (Zb (ZF ZG (Za 5) Zj) (Zb (zg hr (Za 0) ZW (fun _ _=>rfl)) Ze)))))) Zx))))) Zx)))
theorem Zxh (D:Zv K mg "_law_good" ZoY Zsg) (g:Glb K mg) (zd10:Zo P w K mg base 1 "error" Zfo):Zo P w K mg base 2 "_law_good" ZgJ:=
 ZX D zc87 1 2 rfl rfl fun f cdv A outer s H E hr=>(Zf (ZfI PassesOwn.never (Zb2 g.b_range (Zb Zj Ze)) (Zei 1 zc87.nd) (Zf (ZE (ZB (ZgD hr.units) (ZF ZG (zg hr (Za 0) ZW (fun _ _=>rfl)) (Za 1)) (Zbo (ZF ZG (zg hr (Za 0) ZW (fun _ _=>rfl)) (Zw Zdu Zj (Za 1))) Zbx (Za5 (zQ Ze1 g.b_len PySem.boot_len (Zb (ZF ZG (zg hr (Za 0) ZW (fun _ _=>rfl)) (Za 1)) Ze))))) (Zg (Zt zC)) Zx)
  (Zg (ZE (ZB Zil (Zh zd10 hr (by decide) (Zb (ZF ZG (zg hr (Za 0) ZW (fun _ _=>rfl)) (Za 1)) Ze)) (zJ (Zb ZW (Zb ZW Ze))) (by with_unfolding_all rfl)) (Zg (Zt zC)) Zx))))
 (Zg (Zt zC)))
theorem Zxg (D:Zv K mg "_law_act" ZjJ Zsf) (g:Glb K mg) (zd85:Zo P w K mg base 9 "_law_ask" ZeC) (zd86:Zo P w K mg base 9 "_law_bring" Zfp) (zd87:Zo P w K mg base 2 "_law_good" ZgJ) (zd79:Zo P w K mg base 1 "close" ZcA) (zd78:Zo P w K mg base 3 "read" ZcP) (zd9:Zo P w K mg base 1 "state" Zeb) (zd77:Zo P w K mg base 3 "write" Za4):Zo P w K mg base 10 "_law_act" Zkn:=
 ZX D zc88 2 7 rfl rfl fun f cdv A outer s H E hr=>(Zf (ZJ 2 zc88.nd (Zw Zar (Za 1) Zj))
 (Zf (ZJ 3 zc88.nd (Zw Zar (Zw ZeA (Za 1) Zj) Zj))
 (Zf (ZJ 4 zc88.nd (Zw ZeA (Za 1) Zj))
 (Zf (ZJ 5 zc88.nd (ZF ZG (zg hr (Za 0) ZW (fun _ _=>rfl)) (Za 2)))
 (Zf (ZE (ZB (Zag hr.units) (Za 3) Zj) (Zf (Zkf 6 zc88.nd (show Zam _ (Zk ZjJ) "_law_k" ["_law_play_here","_law_number","_law_j","_law_way","_law_rest","_law_end","_law_row"] ["_law_k","_law_rest"] [4] from ⟨rfl,by decide +kernel,by decide +kernel,by decide +kernel,by decide +kernel,by decide +kernel,rfl,by decide,by decide +kernel⟩) rfl rfl (Zb2 g.b_range (Zb (Zw Zar (Zw ZeA (Za 4) Zj) Zj) Ze)) (fun _ _ _ _ _=>(Zw Zar (Zw zo (Za 1) (Zw ZeS Zj (Za 0))) Zj)))
  (Zg (Zf7 (zg hr (Za 0) ZW (fun _ _=>rfl)) (Za 2) (Zw zo (ZF ZG (zg hr (Za 0) ZW (fun _ _=>rfl)) (Za 2)) (Zbo (Za 6) Zbx (Za5 (Zh zd77 hr (by decide) (Zb (Za 5) (Zb (Za 6) Ze)))))) (ZhG (Zw zo (ZF ZG (zg hr (Za 0) ZW (fun _ _=>rfl)) (Za 2)) (Zbo (Za 6) Zbx (Za5 (Zh zd77 hr (by decide) (Zb (Za 5) (Zb (Za 6) Ze)))))) (ZhH (zg hr (Za 0) ZW (fun _ _=>rfl)) (Za 2) ZeM))))) (Zg (ZE (ZB (Zag hr.units) (Za 3) Zj) (Zg (Zf7 (zg hr (Za 0) ZW (fun _ _=>rfl)) (Za 2) (Zw zo (ZF ZG (zg hr (Za 0) ZW (fun _ _=>rfl)) (Za 2)) (Zh zd78 hr (by decide) (Zb (Za 5) (Zb (Zw Zar (Za 4) Zj) Ze)))) (ZhG (Zw zo (ZF ZG (zg hr (Za 0) ZW (fun _ _=>rfl)) (Za 2)) (Zh zd78 hr (by decide) (Zb (Za 5) (Zb (Zw Zar (Za 4) Zj) Ze)))) (ZhH (zg hr (Za 0) ZW (fun _ _=>rfl)) (Za 2) ZeM)))) (Zg (ZE (MW.mt (Zcu (ZB (Zag hr.units) (Za 3) Zj) (Zcu (ZB (Zag hr.units) (Zw Zar (Za 4) Zj) Zj) (ZaT (ZB Zhq (Zh zd9 hr (by decide) (Zb (Za 5) Ze)) (zJ (Zb ZW (Zb ZW Ze))) (by with_unfolding_all rfl)))))) (Zg (ZE (Zz (Zh zd79 hr (by decide) (Zb (Za 5) Ze))) (Zg (Zf7 (zg hr (Za 0) ZW (fun _ _=>rfl)) (Za 2) zC (ZhG zC (ZhH (zg hr (Za 0) ZW (fun _ _=>rfl)) (Za 2) ZeM)))) Zx)) (Zg (ZE (ZB (Zag hr.units) (Za 3) Zj) (Zf (ZlO hr (Za 0) ZW (Zw zo (zg hr (Za 0) ZW (fun _ _=>rfl)) (ZF ZG (Zbp (Zb Zj (Zb Zj (Zb Zj Ze)))) (Zw Zar (Za 4) Zj))))
     (Zg (ZlO hr (Za 0) ZW (Zwo (show Zam _ (Zk ZjJ) "_law_road" ["_law_play_here","_law_number","_law_j","_law_way","_law_rest","_law_end","_law_row"] ["_law_road","_law_play_here"] [0] from ⟨rfl,by decide +kernel,by decide +kernel,by decide +kernel,by decide +kernel,by decide +kernel,rfl,by decide,by decide +kernel⟩) rfl rfl (Zk3 (zg hr (Za 0) ZW (fun _ _=>rfl))) (fun _ _ _ _ _=>(Zq9 (show Zam _ (ZvT (ZzL ((ZtX ((ZkU ((ZkU ((ZkU ((Zbz ZjJ).getD 4 (.Pass ⟨0,0,0,0⟩))).getD 0 (.Pass ⟨0,0,0,0⟩))).getD 0 (.Pass ⟨0,0,0,0⟩))).getD 0 (.Pass ⟨0,0,0,0⟩))).getD 1 (.Pass ⟨0,0,0,0⟩))) (Zk ZjJ)) "_law_one" ["_law_road","_law_play_here"] ["_law_one","_law_play_here"] [1] from ⟨rfl,by decide +kernel,by decide +kernel,by decide +kernel,by decide +kernel,by decide +kernel,rfl,by decide,by decide +kernel⟩) rfl rfl (Zk3 (Za 0)) (fun _ _ _ _ _=>⟨(ZB Zjj (Zw Zdu (zg hr (Za 1) ZW (fun _ _=>rfl)) (ZF ZG (Za 0) Zj)) Zj),(Za 0)⟩))))))) (Zg (ZE (ZB ZuA (Za 3) Zj) (Zg (ZO (Zh zd85 hr (by decide) (Zb (Za 0) (Zb (Za 2) Ze))))) (Zg (ZO (Zh zd86 hr (by decide) (Zb (Za 0) (Zb (Za 2) (Zb (Za 4) Ze)))))))))))))))
 (Zg (Zt (Zh zd87 hr (by decide) (Zb (Za 0) Ze)))))))))
theorem Zxf {fl:Addr} {fdl:FuncData} (F:Fun K "law" "law" Zi7 fl fdl) (g:Glb K mg) (zd88:Zo P w K mg base 10 "_law_act" Zkn) (zd84:Zo P w K mg base 10 "_law_begin" Zej) (zd81:Zo P w K mg base 2 "_law_mix" ZaF) (zd83:Zo P w K mg base 6 "_law_play" ZgI):FnOk P w K mg base CX0 11 fl fdl Zm1 (spM ⟨Zai mg,K⟩ ZlW):=
 mfn F zc89 1 3 rfl rfl fun cdv A outer s H E hr=>(Zf (ZJ 1 zc89.nd (Zh zd83 hr (by decide) (Zb (Za 0) Ze)))
 (Zf (ZO (Zh zd84 hr (by decide) (Zb (Za 0) (Zb (Za 1) Ze))))
 (Zf (ZfI PassesOwn.never (Zb2 g.b_range (Zb (Zw Zar (Zh zd81 hr (by decide) (Zb (Za 0) (Zb Zj Ze))) Zj) Ze)) (Zei 2 zc89.nd) (Zg (ZE (ZbU (Zz (Zh zd88 hr (by decide) (Zb (Za 1) (Zb (Zh zd81 hr (by decide) (Zb (Za 0) (Zb (Zw zo Zj (Za 2)) Ze))) Ze))))) (Zg (Zt zC)) Zx)))
 (Zg (Zt zC)))))
theorem Zuz {fl:Addr} {fdl:FuncData} (F:Fun K "law" "law" Zi7 fl fdl) (zD0:Mk0 K mg "Pile" "Pile.__init__" zs0 zP0) (zD1:Zv K mg "room" zs1 zP1) (zD2:Zv K mg "lay" zs2 zP2) (zD3:Zv K mg "take" zs3 zP3) (zD4:Zv K mg "plus" zs4 zP4) (zD5:Zv K mg "offset" zs5 zP5) (zD6:Zv K mg "past" zs6 zP6) (zD7:Mk0 K mg "End" "End.__init__" zs7 zP7) (zD8:Zv K mg "start_timer" zs8 zP8) (zD9:Zv K mg "state" zs9 zP9) (zD10:Zv K mg "error" Zqc Ztv) (zD11:Zv K mg "our_window" Zqb Ztu) (zD12:Zv K mg "has_sent_fin" Zqa Ztt) (zD13:Zv K mg "folded" Zp9 Zts) (zD14:Zv K mg "sum_of" Zp8 Ztr) (zD15:Zv K mg "length" Zp7 Ztq) (zD16:Zv K mg "has" Zp6 Ztp) (zD17:Zv K mg "bears" Zp5 Zto) (zD18:Zv K mg "put" Zp4 Ztn) (zD19:Zv K mg "bytes_ahead_of_sum" Zp3 Ztm) (zD20:Zv K mg "byte_of_head" Zp2 Ztl) (zD21:Zv K mg "bytes_of_most" Zp1 Ztk) (zD22:Zv K mg "two_bytes" Zp0 Ztj) (zD23:Zv K mg "four_bytes" ZpZ Zti) (zD24:Zv K mg "is_right" ZpY Zth) (zD25:Zv K mg "head_of" ZpX Ztg) (zD26:Zv K mg "is_right_long_head" ZpW Ztf) (zD27:Zv K mg "get" ZpV Zte) (zD28:Zv K mg "two_at" ZpU Ztd) (zD29:Zv K mg "four_at" ZpT Ztc) (zD30:Zv K mg "send" ZpS Ztb) (zD31:Zv K mg "going" ZpR Zta) (zD32:Zv K mg "paid_reset" ZpQ Zs9) (zD33:Zv K mg "is_due" ZpP Zs8) (zD34:Zv K mg "again" ZpO Zs7) (zD35:Zv K mg "most_at_once" ZpN Zs6) (zD36:Zv K mg "paid_syn" ZpM Zs5) (zD37:Zv K mg "segment_of" ZpL Zs4) (zD38:Zv K mg "going_as_new" ZpK Zs3) (zD39:Zv K mg "new_syn" ZpJ Zs2) (zD40:Zv K mg "has_more" ZpI Zs1) (zD41:Zv K mg "has_new_data" ZpH Zs0) (zD42:Zv K mg "unsent" ZpG ZsZ) (zD43:Zv K mg "has_new_fin" ZpF ZsY) (zD44:Zv K mg "new_piece" ZpE ZsX) (zD45:Zv K mg "new_data" ZpD ZsW) (zD46:Zv K mg "new_fin" ZpC ZsV) (zD47:Zv K mg "going_as_probe" ZpB ZsU) (zD48:Zv K mg "going_as_answer" ZpA ZsT) (zD49:Zv K mg "reset_for" Zpz ZsS) (zD50:Zv K mg "owe_reset_for" Zpy ZsR) (zD51:Zv K mg "come_to_closed" Zpx ZsQ) (zD52:Zv K mg "come_to_listen" Zpw ZsP) (zD53:Zv K mg "hear_syn" Zpv ZsO) (zD54:Zv K mg "come_to_syn_sent" Zpu ZsN) (zD55:Zv K mg "answers_syn" Zpt ZsM) (zD56:Zv K mg "refuse" Zps ZsL) (zD57:Zv K mg "go_on_from_syn_sent" Zpr ZsK) (zD58:Zv K mg "arrive" Zpq ZsJ) (zD59:Zv K mg "is_for" Zpp ZsI) (zD60:Zv K mg "come_to_stream" Zpo ZsH) (zD61:Zv K mg "fits" Zpn ZsG) (zD62:Zv K mg "is_in_window" Zpm ZsF) (zD63:Zv K mg "turn_away" Zpl ZsE) (zD64:Zv K mg "hear_reset" Zpk ZsD) (zD65:Zv K mg "goes_on_behind_answer" Zpj ZsC) (zD66:Zv K mg "has_answered_syn" Zpi ZsB) (zD67:Zv K mg "take_window" Zph ZsA) (zD68:Zv K mg "hear_answer" Zpg Zsz) (zD69:Zv K mg "is_newer" Zpf Zsy) (zD70:Zv K mg "end_what_is_acknowledged" Zpe Zsx) (zD71:Zv K mg "hear_stream" Zpd Zsw) (zD72:Zv K mg "keep_data" Zpc Zsv) (zD73:Zv K mg "keep_fin" Zpb Zsu) (zD74:Zv K mg "draw_in_order" Zpa Zst) (zD75:Zv K mg "hear_fin" Zo9 Zss) (zD76:Zv K mg "opened" Zo8 Zsr) (zD77:Zv K mg "write" Zo7 Zsq) (zD78:Zv K mg "read" Zo6 Zsp) (zD79:Zv K mg "close" Zo5 Zso) (zD80:Zv K mg "_law_cell" Zo4 Zsn) (zD81:Zv K mg "_law_mix" Zo3 Zsm) (zD82:Zv K mg "_law_first" Zo2 Zsl) (zD83:Zv K mg "_law_play" Zo1 Zsk) (zD84:Zv K mg "_law_begin" ZmZ Zsj) (zD85:Zv K mg "_law_ask" Zo0 Zsi) (zD86:Zv K mg "_law_bring" ZoZ Zsh) (zD87:Zv K mg "_law_good" ZoY Zsg) (zD88:Zv K mg "_law_act" ZjJ Zsf) (g:Glb K mg):FnOk P w K mg base CX0 11 fl fdl Zm1 (spM ⟨Zai mg,K⟩ ZlW):=by
 have zd0:=zo0 (P:=P) (w:=w) (base:=base) zD0 g
 have zd1:=zo1 (P:=P) (w:=w) (base:=base) zD1 g
 have zd2:=zo2 (P:=P) (w:=w) (base:=base) zD2 g zd1
 have zd3:=zo3 (P:=P) (w:=w) (base:=base) zD3 g
 have zd4:=zo4 (P:=P) (w:=w) (base:=base) zD4 g
 have zd5:=zo5 (P:=P) (w:=w) (base:=base) zD5 g
 have zd6:=zo6 (P:=P) (w:=w) (base:=base) zD6 g zd5
 have zd7:=zo7 (P:=P) (w:=w) (base:=base) zD7 g zd0 zd4
 have zd8:=zo8 (P:=P) (w:=w) (base:=base) zD8 g
 have zd9:=zo9 (P:=P) (w:=w) (base:=base) zD9 g
 have zd10:=Zyw (P:=P) (w:=w) (base:=base) zD10 g
 have zd11:=Zyv (P:=P) (w:=w) (base:=base) zD11 g zd1
 have zd12:=Zyu (P:=P) (w:=w) (base:=base) zD12 g zd6
 have zd13:=Zyt (P:=P) (w:=w) (base:=base) zD13 g
 have zd14:=Zys (P:=P) (w:=w) (base:=base) zD14 g zd13
 have zd16:=Zyq (P:=P) (w:=w) (base:=base) zD16 g
 have zd15:=Zyr (P:=P) (w:=w) (base:=base) zD15 g zd16
 have zd17:=Zyp (P:=P) (w:=w) (base:=base) zD17 g zd16
 have zd20:=Zym (P:=P) (w:=w) (base:=base) zD20 g
 have zd22:=Zyk (P:=P) (w:=w) (base:=base) zD22 g
 have zd23:=Zyj (P:=P) (w:=w) (base:=base) zD23 g zd22
 have zd19:=Zyn (P:=P) (w:=w) (base:=base) zD19 g zd20 zd23 zd22
 have zd21:=Zyl (P:=P) (w:=w) (base:=base) zD21 g zd22
 have zd18:=Zyo (P:=P) (w:=w) (base:=base) zD18 g zd19 zd21 zd14 zd22
 have zd25:=Zyh (P:=P) (w:=w) (base:=base) zD25 g
 have zd28:=Zye (P:=P) (w:=w) (base:=base) zD28 g
 have zd26:=Zyg (P:=P) (w:=w) (base:=base) zD26 g zd16 zd28
 have zd24:=Zyi (P:=P) (w:=w) (base:=base) zD24 g zd20 zd13 zd25 zd26 zd28
 have zd29:=Zyd (P:=P) (w:=w) (base:=base) zD29 g zd28
 have zd27:=Zyf (P:=P) (w:=w) (base:=base) zD27 g zd29 zd25 zd24 zd28
 have zd35:=Zx7 (P:=P) (w:=w) (base:=base) zD35 g
 have zd36:=Zx6 (P:=P) (w:=w) (base:=base) zD36 g
 have zd37:=Zx5 (P:=P) (w:=w) (base:=base) zD37 g zd11
 have zd34:=Zx8 (P:=P) (w:=w) (base:=base) zD34 g zd35 zd5 zd36 zd37
 have zd48:=ZxU (P:=P) (w:=w) (base:=base) zD48 g zd37
 have zd42:=Zx0 (P:=P) (w:=w) (base:=base) zD42 g zd5
 have zd41:=Zx1 (P:=P) (w:=w) (base:=base) zD41 g zd42
 have zd43:=ZxZ (P:=P) (w:=w) (base:=base) zD43 g zd42
 have zd40:=Zx2 (P:=P) (w:=w) (base:=base) zD40 g zd41 zd43
 have zd45:=ZxX (P:=P) (w:=w) (base:=base) zD45 g zd35 zd5 zd4 zd37 zd42
 have zd46:=ZxW (P:=P) (w:=w) (base:=base) zD46 g zd4 zd37
 have zd44:=ZxY (P:=P) (w:=w) (base:=base) zD44 g zd41 zd45 zd46
 have zd39:=Zx3 (P:=P) (w:=w) (base:=base) zD39 g zd36 zd4 zd8
 have zd38:=Zx4 (P:=P) (w:=w) (base:=base) zD38 g zd40 zd44 zd39 zd5 zd8
 have zd33:=Zx9 (P:=P) (w:=w) (base:=base) zD33 g
 have zd47:=ZxV (P:=P) (w:=w) (base:=base) zD47 g zd40 zd33 zd44 zd8
 have zd32:=Zya (P:=P) (w:=w) (base:=base) zD32 g
 have zd31:=Zyb (P:=P) (w:=w) (base:=base) zD31 g zd34 zd48 zd38 zd47 zd33 zd32
 have zd30:=Zyc (P:=P) (w:=w) (base:=base) zD30 g zd31 zd18
 have zd49:=ZxT (P:=P) (w:=w) (base:=base) zD49 g zd17 zd15 zd4
 have zd50:=ZxS (P:=P) (w:=w) (base:=base) zD50 g zd17 zd49
 have zd51:=ZxR (P:=P) (w:=w) (base:=base) zD51 g zd50
 have zd53:=ZxP (P:=P) (w:=w) (base:=base) zD53 g zd17 zd4
 have zd52:=ZxQ (P:=P) (w:=w) (base:=base) zD52 g zd17 zd53 zd50
 have zd55:=ZxN (P:=P) (w:=w) (base:=base) zD55 g zd4
 have zd57:=ZxL (P:=P) (w:=w) (base:=base) zD57 g zd17 zd8
 have zd56:=ZxM (P:=P) (w:=w) (base:=base) zD56 g zd17
 have zd54:=ZxO (P:=P) (w:=w) (base:=base) zD54 g zd55 zd17 zd57 zd53 zd50 zd56
 have zd62:=ZxG (P:=P) (w:=w) (base:=base) zD62 g zd5 zd11
 have zd61:=ZxH (P:=P) (w:=w) (base:=base) zD61 g zd62 zd15 zd5 zd4
 have zd70:=Zxy (P:=P) (w:=w) (base:=base) zD70 g zd12
 have zd67:=ZxB (P:=P) (w:=w) (base:=base) zD67 g
 have zd66:=ZxC (P:=P) (w:=w) (base:=base) zD66 g zd50 zd67
 have zd69:=Zxz (P:=P) (w:=w) (base:=base) zD69 g zd6
 have zd68:=ZxA (P:=P) (w:=w) (base:=base) zD68 g zd69 zd5 zd6 zd8 zd3 zd67
 have zd65:=ZxD (P:=P) (w:=w) (base:=base) zD65 g zd70 zd66 zd68 zd6
 have zd64:=ZxE (P:=P) (w:=w) (base:=base) zD64 g
 have zd74:=Zxu (P:=P) (w:=w) (base:=base) zD74 g zd2 zd4
 have zd75:=Zxt (P:=P) (w:=w) (base:=base) zD75 g zd4
 have zd72:=Zxw (P:=P) (w:=w) (base:=base) zD72 g zd62 zd4
 have zd73:=Zxv (P:=P) (w:=w) (base:=base) zD73 g zd17 zd62 zd4
 have zd71:=Zxx (P:=P) (w:=w) (base:=base) zD71 g zd74 zd75 zd72 zd73
 have zd63:=ZxF (P:=P) (w:=w) (base:=base) zD63 g zd17
 have zd60:=ZxI (P:=P) (w:=w) (base:=base) zD60 g zd17 zd61 zd65 zd64 zd71 zd63
 have zd59:=ZxJ (P:=P) (w:=w) (base:=base) zD59 g
 have zd58:=ZxK (P:=P) (w:=w) (base:=base) zD58 g zd51 zd52 zd60 zd54 zd27 zd59 zd24
 have zd76:=Zxs (P:=P) (w:=w) (base:=base) zD76 g zd7
 have zd77:=Zxr (P:=P) (w:=w) (base:=base) zD77 g zd2 zd4
 have zd78:=Zxq (P:=P) (w:=w) (base:=base) zD78 g zd11 zd3
 have zd79:=Zxp (P:=P) (w:=w) (base:=base) zD79 g
 have zd80:=Zxo (P:=P) (w:=w) (base:=base) zD80 g
 have zd81:=Zxn (P:=P) (w:=w) (base:=base) zD81 g zd80
 have zd82:=Zxm (P:=P) (w:=w) (base:=base) zD82 g
 have zd83:=Zxl (P:=P) (w:=w) (base:=base) zD83 g zd82 zd81 zd76
 have zd85:=Zxj (P:=P) (w:=w) (base:=base) zD85 g zd30
 have zd84:=Zxk (P:=P) (w:=w) (base:=base) zD84 g zd85 zd81 zd58 zd77
 have zd86:=Zxi (P:=P) (w:=w) (base:=base) zD86 g zd58
 have zd87:=Zxh (P:=P) (w:=w) (base:=base) zD87 g zd10
 have zd88:=Zxg (P:=P) (w:=w) (base:=base) zD88 g zd85 zd86 zd87 zd79 zd78 zd9 zd77
 exact Zxf F g zd88 zd84 zd81 zd83
end
theorem us1 {p:List Value->Prop} (h:∀a,p [a]):∀us:List Value,us.length=1->p us
 | [a],_=>h a
theorem us2 {p:List Value->Prop} (h:∀a b,p [a,b]):∀us:List Value,us.length=2->p us
 | [a,b],_=>h a b
theorem us3 {p:List Value->Prop} (h:∀a b c,p [a,b,c]):∀us:List Value,us.length=3->p us
 | [a,b,c],_=>h a b c
theorem us4 {p:List Value->Prop} (h:∀a b c d,p [a,b,c,d]):∀us:List Value,us.length=4->p us
 | [a,b,c,d],_=>h a b c d
theorem us5 {p:List Value->Prop} (h:∀a b c d e,p [a,b,c,d,e]):∀us:List Value,us.length=5->p us
 | [a,b,c,d,e],_=>h a b c d e
open PySem.W
abbrev NI (K:Frag) (n:Str) (f:Addr):Prop:=nsIn K mainGlobals n=some (some (.ref f))
abbrev FN (K:Frag) (f:Addr) (n:Str):Prop:=findIn K (.ref f) n=some none
abbrev KP (K:Frag) (f:Addr):Prop:=keepIn K (.ref f)=true
abbrev LK (K:Frag) (f:Addr) (q r:Str) (z:Stmt) (oc:Value) (od:Option Addr) (kV dc pm:Value) (an:Option Addr) (cd ct:Value) (sl:Array (Option Value)):Prop:=K.lookup f=some ⟨oc,od,.func (fnOf q r (Zeo z) (Zbz z) (Zk z) .none kV dc pm an cd ct),sl⟩
theorem dmk {K:Frag} {h:Heap} {mg:Str->Option Value} {x:Str} {z:Stmt} {f:Addr} {oc:Value} {od:Option Addr} {kV dc pm:Value} {an:Option Addr} {cd ct:Value} {sl:Array (Option Value)} {ps:List Str} (X:K.In h) (G:h.Ns mainGlobals mg) (a:NI K x f) (l:LK K f x x z oc od kV dc pm an cd ct sl) (c:codeIn K cd x=true) (k:KP K f) (hb:∀(kV doc pm:Value) (an:Option Addr) (cdv ct:Value) (us:List Value),us.length=ps.length->bindArgs (fnOf x x (Zeo z) (Zbz z) (Zk z) .none kV doc pm an cdv ct) ⟨us,[]⟩=pure (ps.zip us):=by first | exact fun _ _ _ _ _ _=>us1 fun _=>rfl | exact fun _ _ _ _ _ _=>us2 fun _ _=>rfl | exact fun _ _ _ _ _ _=>us3 fun _ _ _=>rfl | exact fun _ _ _ _ _ _=>us4 fun _ _ _ _=>rfl):Zv K mg x z ps:=⟨_,_,ZhT l c k,(ZhT l c k).binds hb,mg_of X G a⟩
theorem ZuS {l:OpenLaw} {w:World} {K:Frag} {h:Heap} {mg:Str->Option Value} {fa:Addr} (X:K.In h) (G:h.Ns mainGlobals mg) (hfa:mg "law"=some (.ref fa))
  (aC_End:NI K "End" C_End)
  (aC_Pile:NI K "Pile" C_Pile)
  (a0:findIn K (.ref C_Pile) "__init__"=some (some (.ref f0))) (i0:isFn K (.ref f0)=true) (l0:LK K f0 "__init__" "Pile.__init__" zs0 oc0 od0 kV0 dc0 pm0 an0 cd0 ct0 sl0) (c0:codeIn K cd0 "Pile.__init__"=true) (k0:KP K f0)
  (a1:NI K "room" f1) (l1:LK K f1 "room" "room" zs1 oc1 od1 kV1 dc1 pm1 an1 cd1 ct1 sl1) (c1:codeIn K cd1 "room"=true) (k1:KP K f1)
  (a2:NI K "lay" f2) (l2:LK K f2 "lay" "lay" zs2 oc2 od2 kV2 dc2 pm2 an2 cd2 ct2 sl2) (c2:codeIn K cd2 "lay"=true) (k2:KP K f2)
  (a3:NI K "take" f3) (l3:LK K f3 "take" "take" zs3 oc3 od3 kV3 dc3 pm3 an3 cd3 ct3 sl3) (c3:codeIn K cd3 "take"=true) (k3:KP K f3)
  (a4:NI K "plus" f4) (l4:LK K f4 "plus" "plus" zs4 oc4 od4 kV4 dc4 pm4 an4 cd4 ct4 sl4) (c4:codeIn K cd4 "plus"=true) (k4:KP K f4)
  (a5:NI K "offset" f5) (l5:LK K f5 "offset" "offset" zs5 oc5 od5 kV5 dc5 pm5 an5 cd5 ct5 sl5) (c5:codeIn K cd5 "offset"=true) (k5:KP K f5)
  (a6:NI K "past" f6) (l6:LK K f6 "past" "past" zs6 oc6 od6 kV6 dc6 pm6 an6 cd6 ct6 sl6) (c6:codeIn K cd6 "past"=true) (k6:KP K f6)
  (a7:findIn K (.ref C_End) "__init__"=some (some (.ref f7))) (i7:isFn K (.ref f7)=true) (l7:LK K f7 "__init__" "End.__init__" zs7 oc7 od7 kV7 dc7 pm7 an7 cd7 ct7 sl7) (c7:codeIn K cd7 "End.__init__"=true) (k7:KP K f7)
  (a8:NI K "start_timer" f8) (l8:LK K f8 "start_timer" "start_timer" zs8 oc8 od8 kV8 dc8 pm8 an8 cd8 ct8 sl8) (c8:codeIn K cd8 "start_timer"=true) (k8:KP K f8)
  (a9:NI K "state" f9) (l9:LK K f9 "state" "state" zs9 oc9 od9 kV9 dc9 pm9 an9 cd9 ct9 sl9) (c9:codeIn K cd9 "state"=true) (k9:KP K f9)
  (a10:NI K "error" f10) (l10:LK K f10 "error" "error" Zqc oc10 od10 kV10 dc10 pm10 an10 cd10 ct10 sl10) (c10:codeIn K cd10 "error"=true) (k10:KP K f10)
  (a11:NI K "our_window" f11) (l11:LK K f11 "our_window" "our_window" Zqb oc11 od11 kV11 dc11 pm11 an11 cd11 ct11 sl11) (c11:codeIn K cd11 "our_window"=true) (k11:KP K f11)
  (a12:NI K "has_sent_fin" f12) (l12:LK K f12 "has_sent_fin" "has_sent_fin" Zqa oc12 od12 kV12 dc12 pm12 an12 cd12 ct12 sl12) (c12:codeIn K cd12 "has_sent_fin"=true) (k12:KP K f12)
  (a13:NI K "folded" f13) (l13:LK K f13 "folded" "folded" Zp9 oc13 od13 kV13 dc13 pm13 an13 cd13 ct13 sl13) (c13:codeIn K cd13 "folded"=true) (k13:KP K f13)
  (a14:NI K "sum_of" f14) (l14:LK K f14 "sum_of" "sum_of" Zp8 oc14 od14 kV14 dc14 pm14 an14 cd14 ct14 sl14) (c14:codeIn K cd14 "sum_of"=true) (k14:KP K f14)
  (a15:NI K "length" f15) (l15:LK K f15 "length" "length" Zp7 oc15 od15 kV15 dc15 pm15 an15 cd15 ct15 sl15) (c15:codeIn K cd15 "length"=true) (k15:KP K f15)
  (a16:NI K "has" f16) (l16:LK K f16 "has" "has" Zp6 oc16 od16 kV16 dc16 pm16 an16 cd16 ct16 sl16) (c16:codeIn K cd16 "has"=true) (k16:KP K f16)
  (a17:NI K "bears" f17) (l17:LK K f17 "bears" "bears" Zp5 oc17 od17 kV17 dc17 pm17 an17 cd17 ct17 sl17) (c17:codeIn K cd17 "bears"=true) (k17:KP K f17)
  (a18:NI K "put" f18) (l18:LK K f18 "put" "put" Zp4 oc18 od18 kV18 dc18 pm18 an18 cd18 ct18 sl18) (c18:codeIn K cd18 "put"=true) (k18:KP K f18)
  (a19:NI K "bytes_ahead_of_sum" f19) (l19:LK K f19 "bytes_ahead_of_sum" "bytes_ahead_of_sum" Zp3 oc19 od19 kV19 dc19 pm19 an19 cd19 ct19 sl19) (c19:codeIn K cd19 "bytes_ahead_of_sum"=true) (k19:KP K f19)
  (a20:NI K "byte_of_head" f20) (l20:LK K f20 "byte_of_head" "byte_of_head" Zp2 oc20 od20 kV20 dc20 pm20 an20 cd20 ct20 sl20) (c20:codeIn K cd20 "byte_of_head"=true) (k20:KP K f20)
  (a21:NI K "bytes_of_most" f21) (l21:LK K f21 "bytes_of_most" "bytes_of_most" Zp1 oc21 od21 kV21 dc21 pm21 an21 cd21 ct21 sl21) (c21:codeIn K cd21 "bytes_of_most"=true) (k21:KP K f21)
  (a22:NI K "two_bytes" f22) (l22:LK K f22 "two_bytes" "two_bytes" Zp0 oc22 od22 kV22 dc22 pm22 an22 cd22 ct22 sl22) (c22:codeIn K cd22 "two_bytes"=true) (k22:KP K f22)
  (a23:NI K "four_bytes" f23) (l23:LK K f23 "four_bytes" "four_bytes" ZpZ oc23 od23 kV23 dc23 pm23 an23 cd23 ct23 sl23) (c23:codeIn K cd23 "four_bytes"=true) (k23:KP K f23)
  (a24:NI K "is_right" f24) (l24:LK K f24 "is_right" "is_right" ZpY oc24 od24 kV24 dc24 pm24 an24 cd24 ct24 sl24) (c24:codeIn K cd24 "is_right"=true) (k24:KP K f24)
  (a25:NI K "head_of" f25) (l25:LK K f25 "head_of" "head_of" ZpX oc25 od25 kV25 dc25 pm25 an25 cd25 ct25 sl25) (c25:codeIn K cd25 "head_of"=true) (k25:KP K f25)
  (a26:NI K "is_right_long_head" f26) (l26:LK K f26 "is_right_long_head" "is_right_long_head" ZpW oc26 od26 kV26 dc26 pm26 an26 cd26 ct26 sl26) (c26:codeIn K cd26 "is_right_long_head"=true) (k26:KP K f26)
  (a27:NI K "get" f27) (l27:LK K f27 "get" "get" ZpV oc27 od27 kV27 dc27 pm27 an27 cd27 ct27 sl27) (c27:codeIn K cd27 "get"=true) (k27:KP K f27)
  (a28:NI K "two_at" f28) (l28:LK K f28 "two_at" "two_at" ZpU oc28 od28 kV28 dc28 pm28 an28 cd28 ct28 sl28) (c28:codeIn K cd28 "two_at"=true) (k28:KP K f28)
  (a29:NI K "four_at" f29) (l29:LK K f29 "four_at" "four_at" ZpT oc29 od29 kV29 dc29 pm29 an29 cd29 ct29 sl29) (c29:codeIn K cd29 "four_at"=true) (k29:KP K f29)
  (a30:NI K "send" f30) (l30:LK K f30 "send" "send" ZpS oc30 od30 kV30 dc30 pm30 an30 cd30 ct30 sl30) (c30:codeIn K cd30 "send"=true) (k30:KP K f30)
  (a31:NI K "going" f31) (l31:LK K f31 "going" "going" ZpR oc31 od31 kV31 dc31 pm31 an31 cd31 ct31 sl31) (c31:codeIn K cd31 "going"=true) (k31:KP K f31)
  (a32:NI K "paid_reset" f32) (l32:LK K f32 "paid_reset" "paid_reset" ZpQ oc32 od32 kV32 dc32 pm32 an32 cd32 ct32 sl32) (c32:codeIn K cd32 "paid_reset"=true) (k32:KP K f32)
  (a33:NI K "is_due" f33) (l33:LK K f33 "is_due" "is_due" ZpP oc33 od33 kV33 dc33 pm33 an33 cd33 ct33 sl33) (c33:codeIn K cd33 "is_due"=true) (k33:KP K f33)
  (a34:NI K "again" f34) (l34:LK K f34 "again" "again" ZpO oc34 od34 kV34 dc34 pm34 an34 cd34 ct34 sl34) (c34:codeIn K cd34 "again"=true) (k34:KP K f34)
  (a35:NI K "most_at_once" f35) (l35:LK K f35 "most_at_once" "most_at_once" ZpN oc35 od35 kV35 dc35 pm35 an35 cd35 ct35 sl35) (c35:codeIn K cd35 "most_at_once"=true) (k35:KP K f35)
  (a36:NI K "paid_syn" f36) (l36:LK K f36 "paid_syn" "paid_syn" ZpM oc36 od36 kV36 dc36 pm36 an36 cd36 ct36 sl36) (c36:codeIn K cd36 "paid_syn"=true) (k36:KP K f36)
  (a37:NI K "segment_of" f37) (l37:LK K f37 "segment_of" "segment_of" ZpL oc37 od37 kV37 dc37 pm37 an37 cd37 ct37 sl37) (c37:codeIn K cd37 "segment_of"=true) (k37:KP K f37)
  (a38:NI K "going_as_new" f38) (l38:LK K f38 "going_as_new" "going_as_new" ZpK oc38 od38 kV38 dc38 pm38 an38 cd38 ct38 sl38) (c38:codeIn K cd38 "going_as_new"=true) (k38:KP K f38)
  (a39:NI K "new_syn" f39) (l39:LK K f39 "new_syn" "new_syn" ZpJ oc39 od39 kV39 dc39 pm39 an39 cd39 ct39 sl39) (c39:codeIn K cd39 "new_syn"=true) (k39:KP K f39)
  (a40:NI K "has_more" f40) (l40:LK K f40 "has_more" "has_more" ZpI oc40 od40 kV40 dc40 pm40 an40 cd40 ct40 sl40) (c40:codeIn K cd40 "has_more"=true) (k40:KP K f40)
  (a41:NI K "has_new_data" f41) (l41:LK K f41 "has_new_data" "has_new_data" ZpH oc41 od41 kV41 dc41 pm41 an41 cd41 ct41 sl41) (c41:codeIn K cd41 "has_new_data"=true) (k41:KP K f41)
  (a42:NI K "unsent" f42) (l42:LK K f42 "unsent" "unsent" ZpG oc42 od42 kV42 dc42 pm42 an42 cd42 ct42 sl42) (c42:codeIn K cd42 "unsent"=true) (k42:KP K f42)
  (a43:NI K "has_new_fin" f43) (l43:LK K f43 "has_new_fin" "has_new_fin" ZpF oc43 od43 kV43 dc43 pm43 an43 cd43 ct43 sl43) (c43:codeIn K cd43 "has_new_fin"=true) (k43:KP K f43)
  (a44:NI K "new_piece" f44) (l44:LK K f44 "new_piece" "new_piece" ZpE oc44 od44 kV44 dc44 pm44 an44 cd44 ct44 sl44) (c44:codeIn K cd44 "new_piece"=true) (k44:KP K f44)
  (a45:NI K "new_data" f45) (l45:LK K f45 "new_data" "new_data" ZpD oc45 od45 kV45 dc45 pm45 an45 cd45 ct45 sl45) (c45:codeIn K cd45 "new_data"=true) (k45:KP K f45)
  (a46:NI K "new_fin" f46) (l46:LK K f46 "new_fin" "new_fin" ZpC oc46 od46 kV46 dc46 pm46 an46 cd46 ct46 sl46) (c46:codeIn K cd46 "new_fin"=true) (k46:KP K f46)
  (a47:NI K "going_as_probe" f47) (l47:LK K f47 "going_as_probe" "going_as_probe" ZpB oc47 od47 kV47 dc47 pm47 an47 cd47 ct47 sl47) (c47:codeIn K cd47 "going_as_probe"=true) (k47:KP K f47)
  (a48:NI K "going_as_answer" f48) (l48:LK K f48 "going_as_answer" "going_as_answer" ZpA oc48 od48 kV48 dc48 pm48 an48 cd48 ct48 sl48) (c48:codeIn K cd48 "going_as_answer"=true) (k48:KP K f48)
  (a49:NI K "reset_for" f49) (l49:LK K f49 "reset_for" "reset_for" Zpz oc49 od49 kV49 dc49 pm49 an49 cd49 ct49 sl49) (c49:codeIn K cd49 "reset_for"=true) (k49:KP K f49)
  (a50:NI K "owe_reset_for" f50) (l50:LK K f50 "owe_reset_for" "owe_reset_for" Zpy oc50 od50 kV50 dc50 pm50 an50 cd50 ct50 sl50) (c50:codeIn K cd50 "owe_reset_for"=true) (k50:KP K f50)
  (a51:NI K "come_to_closed" f51) (l51:LK K f51 "come_to_closed" "come_to_closed" Zpx oc51 od51 kV51 dc51 pm51 an51 cd51 ct51 sl51) (c51:codeIn K cd51 "come_to_closed"=true) (k51:KP K f51)
  (a52:NI K "come_to_listen" f52) (l52:LK K f52 "come_to_listen" "come_to_listen" Zpw oc52 od52 kV52 dc52 pm52 an52 cd52 ct52 sl52) (c52:codeIn K cd52 "come_to_listen"=true) (k52:KP K f52)
  (a53:NI K "hear_syn" f53) (l53:LK K f53 "hear_syn" "hear_syn" Zpv oc53 od53 kV53 dc53 pm53 an53 cd53 ct53 sl53) (c53:codeIn K cd53 "hear_syn"=true) (k53:KP K f53)
  (a54:NI K "come_to_syn_sent" f54) (l54:LK K f54 "come_to_syn_sent" "come_to_syn_sent" Zpu oc54 od54 kV54 dc54 pm54 an54 cd54 ct54 sl54) (c54:codeIn K cd54 "come_to_syn_sent"=true) (k54:KP K f54)
  (a55:NI K "answers_syn" f55) (l55:LK K f55 "answers_syn" "answers_syn" Zpt oc55 od55 kV55 dc55 pm55 an55 cd55 ct55 sl55) (c55:codeIn K cd55 "answers_syn"=true) (k55:KP K f55)
  (a56:NI K "refuse" f56) (l56:LK K f56 "refuse" "refuse" Zps oc56 od56 kV56 dc56 pm56 an56 cd56 ct56 sl56) (c56:codeIn K cd56 "refuse"=true) (k56:KP K f56)
  (a57:NI K "go_on_from_syn_sent" f57) (l57:LK K f57 "go_on_from_syn_sent" "go_on_from_syn_sent" Zpr oc57 od57 kV57 dc57 pm57 an57 cd57 ct57 sl57) (c57:codeIn K cd57 "go_on_from_syn_sent"=true) (k57:KP K f57)
  (a58:NI K "arrive" f58) (l58:LK K f58 "arrive" "arrive" Zpq oc58 od58 kV58 dc58 pm58 an58 cd58 ct58 sl58) (c58:codeIn K cd58 "arrive"=true) (k58:KP K f58)
  (a59:NI K "is_for" f59) (l59:LK K f59 "is_for" "is_for" Zpp oc59 od59 kV59 dc59 pm59 an59 cd59 ct59 sl59) (c59:codeIn K cd59 "is_for"=true) (k59:KP K f59)
  (a60:NI K "come_to_stream" f60) (l60:LK K f60 "come_to_stream" "come_to_stream" Zpo oc60 od60 kV60 dc60 pm60 an60 cd60 ct60 sl60) (c60:codeIn K cd60 "come_to_stream"=true) (k60:KP K f60)
  (a61:NI K "fits" f61) (l61:LK K f61 "fits" "fits" Zpn oc61 od61 kV61 dc61 pm61 an61 cd61 ct61 sl61) (c61:codeIn K cd61 "fits"=true) (k61:KP K f61)
  (a62:NI K "is_in_window" f62) (l62:LK K f62 "is_in_window" "is_in_window" Zpm oc62 od62 kV62 dc62 pm62 an62 cd62 ct62 sl62) (c62:codeIn K cd62 "is_in_window"=true) (k62:KP K f62)
  (a63:NI K "turn_away" f63) (l63:LK K f63 "turn_away" "turn_away" Zpl oc63 od63 kV63 dc63 pm63 an63 cd63 ct63 sl63) (c63:codeIn K cd63 "turn_away"=true) (k63:KP K f63)
  (a64:NI K "hear_reset" f64) (l64:LK K f64 "hear_reset" "hear_reset" Zpk oc64 od64 kV64 dc64 pm64 an64 cd64 ct64 sl64) (c64:codeIn K cd64 "hear_reset"=true) (k64:KP K f64)
  (a65:NI K "goes_on_behind_answer" f65) (l65:LK K f65 "goes_on_behind_answer" "goes_on_behind_answer" Zpj oc65 od65 kV65 dc65 pm65 an65 cd65 ct65 sl65) (c65:codeIn K cd65 "goes_on_behind_answer"=true) (k65:KP K f65)
  (a66:NI K "has_answered_syn" f66) (l66:LK K f66 "has_answered_syn" "has_answered_syn" Zpi oc66 od66 kV66 dc66 pm66 an66 cd66 ct66 sl66) (c66:codeIn K cd66 "has_answered_syn"=true) (k66:KP K f66)
  (a67:NI K "take_window" f67) (l67:LK K f67 "take_window" "take_window" Zph oc67 od67 kV67 dc67 pm67 an67 cd67 ct67 sl67) (c67:codeIn K cd67 "take_window"=true) (k67:KP K f67)
  (a68:NI K "hear_answer" f68) (l68:LK K f68 "hear_answer" "hear_answer" Zpg oc68 od68 kV68 dc68 pm68 an68 cd68 ct68 sl68) (c68:codeIn K cd68 "hear_answer"=true) (k68:KP K f68)
  (a69:NI K "is_newer" f69) (l69:LK K f69 "is_newer" "is_newer" Zpf oc69 od69 kV69 dc69 pm69 an69 cd69 ct69 sl69) (c69:codeIn K cd69 "is_newer"=true) (k69:KP K f69)
  (a70:NI K "end_what_is_acknowledged" f70) (l70:LK K f70 "end_what_is_acknowledged" "end_what_is_acknowledged" Zpe oc70 od70 kV70 dc70 pm70 an70 cd70 ct70 sl70) (c70:codeIn K cd70 "end_what_is_acknowledged"=true) (k70:KP K f70)
  (a71:NI K "hear_stream" f71) (l71:LK K f71 "hear_stream" "hear_stream" Zpd oc71 od71 kV71 dc71 pm71 an71 cd71 ct71 sl71) (c71:codeIn K cd71 "hear_stream"=true) (k71:KP K f71)
  (a72:NI K "keep_data" f72) (l72:LK K f72 "keep_data" "keep_data" Zpc oc72 od72 kV72 dc72 pm72 an72 cd72 ct72 sl72) (c72:codeIn K cd72 "keep_data"=true) (k72:KP K f72)
  (a73:NI K "keep_fin" f73) (l73:LK K f73 "keep_fin" "keep_fin" Zpb oc73 od73 kV73 dc73 pm73 an73 cd73 ct73 sl73) (c73:codeIn K cd73 "keep_fin"=true) (k73:KP K f73)
  (a74:NI K "draw_in_order" f74) (l74:LK K f74 "draw_in_order" "draw_in_order" Zpa oc74 od74 kV74 dc74 pm74 an74 cd74 ct74 sl74) (c74:codeIn K cd74 "draw_in_order"=true) (k74:KP K f74)
  (a75:NI K "hear_fin" f75) (l75:LK K f75 "hear_fin" "hear_fin" Zo9 oc75 od75 kV75 dc75 pm75 an75 cd75 ct75 sl75) (c75:codeIn K cd75 "hear_fin"=true) (k75:KP K f75)
  (a76:NI K "opened" f76) (l76:LK K f76 "opened" "opened" Zo8 oc76 od76 kV76 dc76 pm76 an76 cd76 ct76 sl76) (c76:codeIn K cd76 "opened"=true) (k76:KP K f76)
  (a77:NI K "write" f77) (l77:LK K f77 "write" "write" Zo7 oc77 od77 kV77 dc77 pm77 an77 cd77 ct77 sl77) (c77:codeIn K cd77 "write"=true) (k77:KP K f77)
  (a78:NI K "read" f78) (l78:LK K f78 "read" "read" Zo6 oc78 od78 kV78 dc78 pm78 an78 cd78 ct78 sl78) (c78:codeIn K cd78 "read"=true) (k78:KP K f78)
  (a79:NI K "close" f79) (l79:LK K f79 "close" "close" Zo5 oc79 od79 kV79 dc79 pm79 an79 cd79 ct79 sl79) (c79:codeIn K cd79 "close"=true) (k79:KP K f79)
  (a80:NI K "_law_cell" f80) (l80:LK K f80 "_law_cell" "_law_cell" Zo4 oc80 od80 kV80 dc80 pm80 an80 cd80 ct80 sl80) (c80:codeIn K cd80 "_law_cell"=true) (k80:KP K f80)
  (a81:NI K "_law_mix" f81) (l81:LK K f81 "_law_mix" "_law_mix" Zo3 oc81 od81 kV81 dc81 pm81 an81 cd81 ct81 sl81) (c81:codeIn K cd81 "_law_mix"=true) (k81:KP K f81)
  (a82:NI K "_law_first" f82) (l82:LK K f82 "_law_first" "_law_first" Zo2 oc82 od82 kV82 dc82 pm82 an82 cd82 ct82 sl82) (c82:codeIn K cd82 "_law_first"=true) (k82:KP K f82)
  (a83:NI K "_law_play" f83) (l83:LK K f83 "_law_play" "_law_play" Zo1 oc83 od83 kV83 dc83 pm83 an83 cd83 ct83 sl83) (c83:codeIn K cd83 "_law_play"=true) (k83:KP K f83)
  (a84:NI K "_law_begin" f84) (l84:LK K f84 "_law_begin" "_law_begin" ZmZ oc84 od84 kV84 dc84 pm84 an84 cd84 ct84 sl84) (c84:codeIn K cd84 "_law_begin"=true) (k84:KP K f84)
  (a85:NI K "_law_ask" f85) (l85:LK K f85 "_law_ask" "_law_ask" Zo0 oc85 od85 kV85 dc85 pm85 an85 cd85 ct85 sl85) (c85:codeIn K cd85 "_law_ask"=true) (k85:KP K f85)
  (a86:NI K "_law_bring" f86) (l86:LK K f86 "_law_bring" "_law_bring" ZoZ oc86 od86 kV86 dc86 pm86 an86 cd86 ct86 sl86) (c86:codeIn K cd86 "_law_bring"=true) (k86:KP K f86)
  (a87:NI K "_law_good" f87) (l87:LK K f87 "_law_good" "_law_good" ZoY oc87 od87 kV87 dc87 pm87 an87 cd87 ct87 sl87) (c87:codeIn K cd87 "_law_good"=true) (k87:KP K f87)
  (a88:NI K "_law_act" f88) (l88:LK K f88 "_law_act" "_law_act" ZjJ oc88 od88 kV88 dc88 pm88 an88 cd88 ct88 sl88) (c88:codeIn K cd88 "_law_act"=true) (k88:KP K f88)
  (a89:NI K "law" f89) (l89:LK K f89 "law" "law" Zi7 oc89 od89 kV89 dc89 pm89 an89 cd89 ct89 sl89) (c89:codeIn K cd89 "law"=true) (k89:KP K f89)
  (pg_End:plainGet K C_End Str.empty=true) (hd_End:hasDictIn K C_End=true) (po_End:plainOver K C_End=true) (sa_End:findIn K (.ref C_End) "__setattr__"=some (some (.builtin "object.__setattr__"))) (mk_End:makesIn K C_End=true) (kc_End:keepIn K (.ref C_End)=true)
  (pg_Pile:plainGet K C_Pile Str.empty=true) (hd_Pile:hasDictIn K C_Pile=true) (po_Pile:plainOver K C_Pile=true) (sa_Pile:findIn K (.ref C_Pile) "__setattr__"=some (some (.builtin "object.__setattr__"))) (mk_Pile:makesIn K C_Pile=true) (kc_Pile:keepIn K (.ref C_Pile)=true)
  (zA0:FN K C_End "behind")
  (zA1:FN K C_End "come")
  (zA2:FN K C_End "early")
  (zA3:FN K C_End "early_fin")
  (zA4:FN K C_End "error")
  (zA5:FN K C_End "first")
  (zA6:FN K C_End "has_closed")
  (zA7:FN K C_End "most")
  (zA8:FN K C_End "nxt")
  (zA9:FN K C_End "ours")
  (zA10:FN K C_End "owed_reset")
  (zA11:FN K C_End "owes_answer")
  (zA12:FN K C_End "owes_syn")
  (zA13:FN K C_End "probes")
  (zA14:FN K C_End "rcv")
  (zA15:FN K C_End "since")
  (zA16:FN K C_End "state")
  (zA17:FN K C_End "theirs")
  (zA18:FN K C_End "told")
  (zA19:FN K C_End "told_by")
  (zA20:FN K C_End "tries")
  (zA21:FN K C_End "una")
  (zA22:FN K C_End "wait")
  (zA23:FN K C_End "wnd")
  (zA24:FN K C_End "written")
  (zA25:FN K C_Pile "row")
  (zg0:nsIn K mainGlobals "ACK"=some (some (.int 16 zt0)))
  (zg1:nsIn K mainGlobals "ANSWER"=some (some (.int 3 zt1)))
  (zg2:nsIn K mainGlobals "CLOSED"=some (some (.str "closed" zt2)))
  (zg3:nsIn K mainGlobals "CLOSE_WAIT"=some (some (.str "close wait" zt3)))
  (zg4:nsIn K mainGlobals "CLOSING"=some (some (.str "closing" zt4)))
  (zg5:nsIn K mainGlobals "DATA"=some (some (.int 7 zt5)))
  (zg6:nsIn K mainGlobals "FIN"=some (some (.int 1 zt6)))
  (zg7:nsIn K mainGlobals "FIRST_WAIT"=some (some (.int 1000 zt7)))
  (zg8:nsIn K mainGlobals "FLAGS"=some (some (.int 4 zt8)))
  (zg9:nsIn K mainGlobals "GOAL"=some (some (.int 1 zt9)))
  (zg10:nsIn K mainGlobals "GREATEST_DATA"=some (some (.int 16 zt10)))
  (zg11:nsIn K mainGlobals "GREATEST_FLAGS"=some (some (.int 31 zt11)))
  (zg12:nsIn K mainGlobals "GREATEST_WORD"=some (some (.int 65535 zt12)))
  (zg13:nsIn K mainGlobals "HALF_ROUND"=some (some (.int 2147483648 zt13)))
  (zg14:nsIn K mainGlobals "LAST_ACK"=some (some (.str "last ack" zt14)))
  (zg15:nsIn K mainGlobals "LAST_WAIT"=some (some (.int 120000 zt15)))
  (zg16:nsIn K mainGlobals "LEAST_MOST"=some (some (.int 4 zt16)))
  (zg17:nsIn K mainGlobals "LISTEN"=some (some (.str "listen" zt17)))
  (zg18:nsIn K mainGlobals "LONGEST_WAIT"=some (some (.int 16000 zt18)))
  (zg19:nsIn K mainGlobals "LONG_HEAD"=some (some (.int 24 zt19)))
  (zg20:nsIn K mainGlobals "MOST"=some (some (.int 6 zt20)))
  (zg21:nsIn K mainGlobals "MOST_TRIES"=some (some (.int 6 zt21)))
  (zg22:nsIn K mainGlobals "MOST_UNTOLD"=some (some (.int 12 zt22)))
  (zg23:nsIn K mainGlobals "NO_ERROR"=some (some (.str "" zt23)))
  (zg24:nsIn K mainGlobals "NUMBER"=some (some (.int 2 zt24)))
  (zg25:nsIn K mainGlobals "OPEN"=some (some (.str "open" zt25)))
  (zg26:nsIn K mainGlobals "PSH"=some (some (.int 8 zt26)))
  (zg27:nsIn K mainGlobals "REFUSED"=some (some (.str "refused" zt27)))
  (zg28:nsIn K mainGlobals "RESET"=some (some (.str "reset" zt28)))
  (zg29:nsIn K mainGlobals "RIGHT_SUM"=some (some (.int 65535 zt29)))
  (zg30:nsIn K mainGlobals "ROOM"=some (some (.int 64 zt30)))
  (zg31:nsIn K mainGlobals "ROUND"=some (some (.int 4294967296 zt31)))
  (zg32:nsIn K mainGlobals "RST"=some (some (.int 4 zt32)))
  (zg33:nsIn K mainGlobals "SHORT_HEAD"=some (some (.int 20 zt33)))
  (zg34:nsIn K mainGlobals "SOURCE"=some (some (.int 0 zt34)))
  (zg35:nsIn K mainGlobals "SYN"=some (some (.int 2 zt35)))
  (zg36:nsIn K mainGlobals "SYN_COME"=some (some (.str "syn come" zt36)))
  (zg37:nsIn K mainGlobals "SYN_SENT"=some (some (.str "syn sent" zt37)))
  (zg38:nsIn K mainGlobals "TIME"=some (some (.str "time" zt38)))
  (zg39:nsIn K mainGlobals "TIME_WAIT"=some (some (.str "time wait" zt39)))
  (zg40:nsIn K mainGlobals "WAIT_ONE"=some (some (.str "wait one" zt40)))
  (zg41:nsIn K mainGlobals "WAIT_TWO"=some (some (.str "wait two" zt41)))
  (zg42:nsIn K mainGlobals "WINDOW"=some (some (.int 5 zt42)))
  (zg43:nsIn K mainGlobals "WORDS"=some (some (.int 65536 zt43)))
  (z_enumerate:nsIn K mainGlobals "enumerate"=some none)
  (z_len:nsIn K mainGlobals "len"=some none)
  (z_list:nsIn K mainGlobals "list"=some none)
  (z_max:nsIn K mainGlobals "max"=some none)
  (z_min:nsIn K mainGlobals "min"=some none)
  (z_range:nsIn K mainGlobals "range"=some none)
  (z_sum:nsIn K mainGlobals "sum"=some none)
  (z_tuple:nsIn K mainGlobals "tuple"=some none) :
  ∃fd:FuncData,(∀(s:Shared) (v:Value),BindsTo s fd ⟨[v],[]⟩ [("_law_script",v)])/\∀base:Heap,K.In base->base.Ns mainGlobals mg->FnOk l.prog w K mg base CX0 11 fa fd ["_law_script"] (Zly K):=by
 have e:=hfa.symm.trans (mg_of X G a89)
 cases e
 have eC_End:C_End=Zai mg "End":=(Zl4 (mg_of X G aC_End)).symm
 have eC_Pile:C_Pile=Zai mg "Pile":=(Zl4 (mg_of X G aC_Pile)).symm
 subst eC_End
 subst eC_Pile
 have g:Glb K mg:=⟨⟨_,mg_of X G zg0⟩,⟨_,mg_of X G zg1⟩,⟨_,mg_of X G zg2⟩,⟨_,mg_of X G zg3⟩,⟨_,mg_of X G zg4⟩,⟨_,mg_of X G zg5⟩,⟨_,mg_of X G zg6⟩,⟨_,mg_of X G zg7⟩,⟨_,mg_of X G zg8⟩,⟨_,mg_of X G zg9⟩,⟨_,mg_of X G zg10⟩,⟨_,mg_of X G zg11⟩,⟨_,mg_of X G zg12⟩,⟨_,mg_of X G zg13⟩,⟨_,mg_of X G zg14⟩,⟨_,mg_of X G zg15⟩,⟨_,mg_of X G zg16⟩,⟨_,mg_of X G zg17⟩,⟨_,mg_of X G zg18⟩,⟨_,mg_of X G zg19⟩,⟨_,mg_of X G zg20⟩,⟨_,mg_of X G zg21⟩,⟨_,mg_of X G zg22⟩,⟨_,mg_of X G zg23⟩,⟨_,mg_of X G zg24⟩,⟨_,mg_of X G zg25⟩,⟨_,mg_of X G zg26⟩,⟨_,mg_of X G zg27⟩,⟨_,mg_of X G zg28⟩,⟨_,mg_of X G zg29⟩,⟨_,mg_of X G zg30⟩,⟨_,mg_of X G zg31⟩,⟨_,mg_of X G zg32⟩,⟨_,mg_of X G zg33⟩,⟨_,mg_of X G zg34⟩,⟨_,mg_of X G zg35⟩,⟨_,mg_of X G zg36⟩,⟨_,mg_of X G zg37⟩,⟨_,mg_of X G zg38⟩,⟨_,mg_of X G zg39⟩,⟨_,mg_of X G zg40⟩,⟨_,mg_of X G zg41⟩,⟨_,mg_of X G zg42⟩,⟨_,mg_of X G zg43⟩,mg_none_of X G z_enumerate,mg_none_of X G z_len,mg_none_of X G z_list,mg_none_of X G z_max,mg_none_of X G z_min,mg_none_of X G z_range,mg_none_of X G z_sum,mg_none_of X G z_tuple,⟨pg_End,hd_End,po_End,sa_End⟩,⟨pg_Pile,hd_Pile,po_Pile,sa_Pile⟩,zA0,zA1,zA2,zA3,zA4,zA5,zA6,zA7,zA8,zA9,zA10,zA11,zA12,zA13,zA14,zA15,zA16,zA17,zA18,zA19,zA20,zA21,zA22,zA23,zA24,zA25⟩
 have F0:=ZhT (st:=zs0) l0 c0 k0
 have b0:=F0.binds (ps:=zP0) fun _ _ _ _ _ _=>us1 fun _=>rfl
 have D0:Mk0 K mg "Pile" "Pile.__init__" zs0 zP0:=⟨_,_,F0,b0,⟨mk_Pile,a0,i0,kc_Pile⟩,mg_of X G aC_Pile⟩
 have F7:=ZhT (st:=zs7) l7 c7 k7
 have b7:=F7.binds (ps:=zP7) fun _ _ _ _ _ _=>us5 fun _ _ _ _ _=>rfl
 have D7:Mk0 K mg "End" "End.__init__" zs7 zP7:=⟨_,_,F7,b7,⟨mk_End,a7,i7,kc_End⟩,mg_of X G aC_End⟩
 have F89:=ZhT (st:=Zi7) l89 c89 k89
 have b89:=F89.binds (ps:=Zm1) fun _ _ _ _ _ _=>us1 fun _=>rfl
 have D89:Zv K mg "law" Zi7 Zm1:=⟨_,_,F89,b89,mg_of X G a89⟩
 refine ⟨fnOf "law" "law" (Zeo Zi7) (Zbz Zi7) (Zk Zi7) .none kV89 dc89 pm89 an89 cd89 ct89,fun s v=>.of_eq rfl,fun base BX BG=>?_⟩
 exact Zrg law_true (Zuz F89 D0 (dmk X G a1 l1 c1 k1) (dmk X G a2 l2 c2 k2) (dmk X G a3 l3 c3 k3) (dmk X G a4 l4 c4 k4) (dmk X G a5 l5 c5 k5) (dmk X G a6 l6 c6 k6) D7 (dmk X G a8 l8 c8 k8) (dmk X G a9 l9 c9 k9) (dmk X G a10 l10 c10 k10) (dmk X G a11 l11 c11 k11) (dmk X G a12 l12 c12 k12) (dmk X G a13 l13 c13 k13) (dmk X G a14 l14 c14 k14) (dmk X G a15 l15 c15 k15) (dmk X G a16 l16 c16 k16) (dmk X G a17 l17 c17 k17) (dmk X G a18 l18 c18 k18) (dmk X G a19 l19 c19 k19) (dmk X G a20 l20 c20 k20) (dmk X G a21 l21 c21 k21) (dmk X G a22 l22 c22 k22) (dmk X G a23 l23 c23 k23) (dmk X G a24 l24 c24 k24) (dmk X G a25 l25 c25 k25) (dmk X G a26 l26 c26 k26) (dmk X G a27 l27 c27 k27) (dmk X G a28 l28 c28 k28) (dmk X G a29 l29 c29 k29) (dmk X G a30 l30 c30 k30) (dmk X G a31 l31 c31 k31) (dmk X G a32 l32 c32 k32) (dmk X G a33 l33 c33 k33) (dmk X G a34 l34 c34 k34) (dmk X G a35 l35 c35 k35) (dmk X G a36 l36 c36 k36) (dmk X G a37 l37 c37 k37) (dmk X G a38 l38 c38 k38) (dmk X G a39 l39 c39 k39) (dmk X G a40 l40 c40 k40) (dmk X G a41 l41 c41 k41) (dmk X G a42 l42 c42 k42) (dmk X G a43 l43 c43 k43) (dmk X G a44 l44 c44 k44) (dmk X G a45 l45 c45 k45) (dmk X G a46 l46 c46 k46) (dmk X G a47 l47 c47 k47) (dmk X G a48 l48 c48 k48) (dmk X G a49 l49 c49 k49) (dmk X G a50 l50 c50 k50) (dmk X G a51 l51 c51 k51) (dmk X G a52 l52 c52 k52) (dmk X G a53 l53 c53 k53) (dmk X G a54 l54 c54 k54) (dmk X G a55 l55 c55 k55) (dmk X G a56 l56 c56 k56) (dmk X G a57 l57 c57 k57) (dmk X G a58 l58 c58 k58) (dmk X G a59 l59 c59 k59) (dmk X G a60 l60 c60 k60) (dmk X G a61 l61 c61 k61) (dmk X G a62 l62 c62 k62) (dmk X G a63 l63 c63 k63) (dmk X G a64 l64 c64 k64) (dmk X G a65 l65 c65 k65) (dmk X G a66 l66 c66 k66) (dmk X G a67 l67 c67 k67) (dmk X G a68 l68 c68 k68) (dmk X G a69 l69 c69 k69) (dmk X G a70 l70 c70 k70) (dmk X G a71 l71 c71 k71) (dmk X G a72 l72 c72 k72) (dmk X G a73 l73 c73 k73) (dmk X G a74 l74 c74 k74) (dmk X G a75 l75 c75 k75) (dmk X G a76 l76 c76 k76) (dmk X G a77 l77 c77 k77) (dmk X G a78 l78 c78 k78) (dmk X G a79 l79 c79 k79) (dmk X G a80 l80 c80 k80) (dmk X G a81 l81 c81 k81) (dmk X G a82 l82 c82 k82) (dmk X G a83 l83 c83 k83) (dmk X G a84 l84 c84 k84) (dmk X G a85 l85 c85 k85) (dmk X G a86 l86 c86 k86) (dmk X G a87 l87 c87 k87) (dmk X G a88 l88 c88 k88) g)
theorem Zze {l:OpenLaw} {q:Program} {loose:List Str} {XP:(Str->Option Value)->Heap->Prop} {YP:World->Heap->Prop} {d:DefRec} {K:Params->Frag} (hn:l.most=some 63) (hdf:d.params.defaults=[])
  (hY:∀(w:World) (h:Heap),YP w h->(K w.params).In h)
  (F:∀(w:World) (mg:Str->Option Value) (fa:Addr) (h:Heap),(K w.params).In h->h.Ns mainGlobals mg->mg d.name=some (.ref fa)->
   ∃fd:FuncData,(∀(s:Shared) (u:Value),BindsTo s fd ⟨[u],[]⟩ [("_law_script",u)])/\∀base:Heap,(K w.params).In base->base.Ns mainGlobals mg->FnOk l.prog w (K w.params) mg base CX0 11 fa fd ["_law_script"] (Zly (K w.params))) :
  WalkO q loose XP YP l.row.toRowW d [] (fun f vs=>PySem.call f vs):=
 L2.Zqd (n:=63) (k:=11) (x:="_law_script") (CX:=fun _=>CX0) (sp:=fun w=>Zly (K w.params)) hn (by decide) hdf ⟨rfl,by decide,by decide⟩ hY F (fun _ H a ns hl hO hS=>⟨a,ns,rfl,hO,hS,hl,fun _=>rfl⟩) fun _ _ _ _ _ z=>z
end My
open PySem PySem.W PyProof.Rows
set_option maxRecDepth 100000 in
set_option maxHeartbeats 0 in
theorem PySem.Challenge.cw_wirestream_k30_whole_streams_holds : PySem.Challenge.rw_wirestream_k30_whole_streams.Holds := by
 w_on; o_law; k_head; (case hw=>w_witness2)
 k_fill
 refine My.Zze (l:=PySem.Challenge.rw_wirestream_k30_whole_streams) rfl rfl (fun w h Y=>PySem.W.kIn_of Y) ?F
 case F=>
  intro w mg fa h KX G hmg
  refine' My.ZuS KX G hmg ?aC_End ?aC_Pile ?a0 ?i0 ?l0 ?c0 ?k0 ?a1 ?l1 ?c1 ?k1 ?a2 ?l2 ?c2 ?k2 ?a3 ?l3 ?c3 ?k3 ?a4 ?l4 ?c4 ?k4 ?a5 ?l5 ?c5 ?k5 ?a6 ?l6 ?c6 ?k6 ?a7 ?i7 ?l7 ?c7 ?k7 ?a8 ?l8 ?c8 ?k8 ?a9 ?l9 ?c9 ?k9 ?a10 ?l10 ?c10 ?k10 ?a11 ?l11 ?c11 ?k11 ?a12 ?l12 ?c12 ?k12 ?a13 ?l13 ?c13 ?k13 ?a14 ?l14 ?c14 ?k14 ?a15 ?l15 ?c15 ?k15 ?a16 ?l16 ?c16 ?k16 ?a17 ?l17 ?c17 ?k17 ?a18 ?l18 ?c18 ?k18 ?a19 ?l19 ?c19 ?k19 ?a20 ?l20 ?c20 ?k20 ?a21 ?l21 ?c21 ?k21 ?a22 ?l22 ?c22 ?k22 ?a23 ?l23 ?c23 ?k23 ?a24 ?l24 ?c24 ?k24 ?a25 ?l25 ?c25 ?k25 ?a26 ?l26 ?c26 ?k26 ?a27 ?l27 ?c27 ?k27 ?a28 ?l28 ?c28 ?k28 ?a29 ?l29 ?c29 ?k29 ?a30 ?l30 ?c30 ?k30 ?a31 ?l31 ?c31 ?k31 ?a32 ?l32 ?c32 ?k32 ?a33 ?l33 ?c33 ?k33 ?a34 ?l34 ?c34 ?k34 ?a35 ?l35 ?c35 ?k35 ?a36 ?l36 ?c36 ?k36 ?a37 ?l37 ?c37 ?k37 ?a38 ?l38 ?c38 ?k38 ?a39 ?l39 ?c39 ?k39 ?a40 ?l40 ?c40 ?k40 ?a41 ?l41 ?c41 ?k41 ?a42 ?l42 ?c42 ?k42 ?a43 ?l43 ?c43 ?k43 ?a44 ?l44 ?c44 ?k44 ?a45 ?l45 ?c45 ?k45 ?a46 ?l46 ?c46 ?k46 ?a47 ?l47 ?c47 ?k47 ?a48 ?l48 ?c48 ?k48 ?a49 ?l49 ?c49 ?k49 ?a50 ?l50 ?c50 ?k50 ?a51 ?l51 ?c51 ?k51 ?a52 ?l52 ?c52 ?k52 ?a53 ?l53 ?c53 ?k53 ?a54 ?l54 ?c54 ?k54 ?a55 ?l55 ?c55 ?k55 ?a56 ?l56 ?c56 ?k56 ?a57 ?l57 ?c57 ?k57 ?a58 ?l58 ?c58 ?k58 ?a59 ?l59 ?c59 ?k59 ?a60 ?l60 ?c60 ?k60 ?a61 ?l61 ?c61 ?k61 ?a62 ?l62 ?c62 ?k62 ?a63 ?l63 ?c63 ?k63 ?a64 ?l64 ?c64 ?k64 ?a65 ?l65 ?c65 ?k65 ?a66 ?l66 ?c66 ?k66 ?a67 ?l67 ?c67 ?k67 ?a68 ?l68 ?c68 ?k68 ?a69 ?l69 ?c69 ?k69 ?a70 ?l70 ?c70 ?k70 ?a71 ?l71 ?c71 ?k71 ?a72 ?l72 ?c72 ?k72 ?a73 ?l73 ?c73 ?k73 ?a74 ?l74 ?c74 ?k74 ?a75 ?l75 ?c75 ?k75 ?a76 ?l76 ?c76 ?k76 ?a77 ?l77 ?c77 ?k77 ?a78 ?l78 ?c78 ?k78 ?a79 ?l79 ?c79 ?k79 ?a80 ?l80 ?c80 ?k80 ?a81 ?l81 ?c81 ?k81 ?a82 ?l82 ?c82 ?k82 ?a83 ?l83 ?c83 ?k83 ?a84 ?l84 ?c84 ?k84 ?a85 ?l85 ?c85 ?k85 ?a86 ?l86 ?c86 ?k86 ?a87 ?l87 ?c87 ?k87 ?a88 ?l88 ?c88 ?k88 ?a89 ?l89 ?c89 ?k89 ?pg_End ?hd_End ?po_End ?sa_End ?mk_End ?kc_End ?pg_Pile ?hd_Pile ?po_Pile ?sa_Pile ?mk_Pile ?kc_Pile ?zA0 ?zA1 ?zA2 ?zA3 ?zA4 ?zA5 ?zA6 ?zA7 ?zA8 ?zA9 ?zA10 ?zA11 ?zA12 ?zA13 ?zA14 ?zA15 ?zA16 ?zA17 ?zA18 ?zA19 ?zA20 ?zA21 ?zA22 ?zA23 ?zA24 ?zA25 ?zg0 ?zg1 ?zg2 ?zg3 ?zg4 ?zg5 ?zg6 ?zg7 ?zg8 ?zg9 ?zg10 ?zg11 ?zg12 ?zg13 ?zg14 ?zg15 ?zg16 ?zg17 ?zg18 ?zg19 ?zg20 ?zg21 ?zg22 ?zg23 ?zg24 ?zg25 ?zg26 ?zg27 ?zg28 ?zg29 ?zg30 ?zg31 ?zg32 ?zg33 ?zg34 ?zg35 ?zg36 ?zg37 ?zg38 ?zg39 ?zg40 ?zg41 ?zg42 ?zg43 ?z_enumerate ?z_len ?z_list ?z_max ?z_min ?z_range ?z_sum ?z_tuple
  case aC_End | aC_Pile | a0 | i0 | l0 | c0 | k0 | a1 | l1 | c1 | k1 | a2 | l2 | c2 | k2 | a3 | l3 | c3 | k3 | a4 | l4 | c4 | k4 | a5 | l5 | c5 | k5 | a6 | l6 | c6 | k6 | a7 | i7 | l7 | c7 | k7 | a8 | l8 | c8 | k8 | a9 | l9 | c9 | k9 | a10 | l10 | c10 | k10 | a11 | l11 | c11 | k11 | a12 | l12 | c12 | k12 | a13 | l13 | c13 | k13 | a14 | l14 | c14 | k14 | a15 | l15 | c15 | k15 | a16 | l16 | c16 | k16 | a17 | l17 | c17 | k17 | a18 | l18 | c18 | k18 | a19 | l19 | c19 | k19 | a20 | l20 | c20 | k20 | a21 | l21 | c21 | k21 | a22 | l22 | c22 | k22 | a23 | l23 | c23 | k23 | a24 | l24 | c24 | k24 | a25 | l25 | c25 | k25 | a26 | l26 | c26 | k26 | a27 | l27 | c27 | k27 | a28 | l28 | c28 | k28 | a29 | l29 | c29 | k29 | a30 | l30 | c30 | k30 | a31 | l31 | c31 | k31 | a32 | l32 | c32 | k32 | a33 | l33 | c33 | k33 | a34 | l34 | c34 | k34 | a35 | l35 | c35 | k35 | a36 | l36 | c36 | k36 | a37 | l37 | c37 | k37 | a38 | l38 | c38 | k38 | a39 | l39 | c39 | k39 | a40 | l40 | c40 | k40 | a41 | l41 | c41 | k41 | a42 | l42 | c42 | k42 | a43 | l43 | c43 | k43 | a44 | l44 | c44 | k44 | a45 | l45 | c45 | k45 | a46 | l46 | c46 | k46 | a47 | l47 | c47 | k47 | a48 | l48 | c48 | k48 | a49 | l49 | c49 | k49 | a50 | l50 | c50 | k50 | a51 | l51 | c51 | k51 | a52 | l52 | c52 | k52 | a53 | l53 | c53 | k53 | a54 | l54 | c54 | k54 | a55 | l55 | c55 | k55 | a56 | l56 | c56 | k56 | a57 | l57 | c57 | k57 | a58 | l58 | c58 | k58 | a59 | l59 | c59 | k59 | a60 | l60 | c60 | k60 | a61 | l61 | c61 | k61 | a62 | l62 | c62 | k62 | a63 | l63 | c63 | k63 | a64 | l64 | c64 | k64 | a65 | l65 | c65 | k65 | a66 | l66 | c66 | k66 | a67 | l67 | c67 | k67 | a68 | l68 | c68 | k68 | a69 | l69 | c69 | k69 | a70 | l70 | c70 | k70 | a71 | l71 | c71 | k71 | a72 | l72 | c72 | k72 | a73 | l73 | c73 | k73 | a74 | l74 | c74 | k74 | a75 | l75 | c75 | k75 | a76 | l76 | c76 | k76 | a77 | l77 | c77 | k77 | a78 | l78 | c78 | k78 | a79 | l79 | c79 | k79 | a80 | l80 | c80 | k80 | a81 | l81 | c81 | k81 | a82 | l82 | c82 | k82 | a83 | l83 | c83 | k83 | a84 | l84 | c84 | k84 | a85 | l85 | c85 | k85 | a86 | l86 | c86 | k86 | a87 | l87 | c87 | k87 | a88 | l88 | c88 | k88 | a89 | l89 | c89 | k89 | pg_End | hd_End | po_End | sa_End | mk_End | kc_End | pg_Pile | hd_Pile | po_Pile | sa_Pile | mk_Pile | kc_Pile | zA0 | zA1 | zA2 | zA3 | zA4 | zA5 | zA6 | zA7 | zA8 | zA9 | zA10 | zA11 | zA12 | zA13 | zA14 | zA15 | zA16 | zA17 | zA18 | zA19 | zA20 | zA21 | zA22 | zA23 | zA24 | zA25 | zg0 | zg1 | zg2 | zg3 | zg4 | zg5 | zg6 | zg7 | zg8 | zg9 | zg10 | zg11 | zg12 | zg13 | zg14 | zg15 | zg16 | zg17 | zg18 | zg19 | zg20 | zg21 | zg22 | zg23 | zg24 | zg25 | zg26 | zg27 | zg28 | zg29 | zg30 | zg31 | zg32 | zg33 | zg34 | zg35 | zg36 | zg37 | zg38 | zg39 | zg40 | zg41 | zg42 | zg43 | z_enumerate | z_len | z_list | z_max | z_min | z_range | z_sum | z_tuple=>change _=_; k_is
#print axioms PySem.Challenge.cw_wirestream_k30_whole_streams_holds
