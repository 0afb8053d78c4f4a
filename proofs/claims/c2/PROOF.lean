import PyProof.Rows.All
import Wide.All
import OpenK.AllK
import Wide.FinOn
import PyProof.EqAt
import PyProof.EqKinds
import PyProof.TupleCall
import KE.BitLaws
import Open.SpecLaws
import KE.OsHead
import KE.OsGo
import KE.KDictSum
import KE.KDictOf
import PyProof.SetKind
import PyProof.Rows.SetFrom
import PyProof.Rows.SortShellAny
import PySem.Challenge.RW_risingcurves_s01_answers
set_option linter.all false
section
open PySem PySem.Spec PyProof.Rows
abbrev aa:=@List.length_map
abbrev af:=@List.getElem?_eq_some_iff
abbrev ah:=@List.getElem?_eq_getElem
abbrev ai:=@Heap.get?_push_of_some
abbrev aj:=@List.length_cons
abbrev ak:=@List.mem_of_getElem?
abbrev ao:=@List.length_append
abbrev au:=@List.mem_cons_of_mem
abbrev ay:=@List.map_append
abbrev az:=@Option.some.inj
abbrev aA:=@Nat.le_refl
abbrev aB:=@List.mem_cons
abbrev aC:=@Heap.lt_size
abbrev aE:=@List.getElem?_map
abbrev aF:=@Heap.get?_push_size
abbrev aG:=@PySem.boot_len
abbrev aH:=@List.mem_cons_self
abbrev aI:=@Option.map_eq_some_iff
abbrev aJ:=@List.length_take
abbrev aK:=@List.take_length
abbrev aL:=@List.map_cons
abbrev aM:=@Nat.lt_of_lt_of_le
abbrev aN:=@Bool.false_ne_true
abbrev aO:=@Array.length_toList
abbrev aP:=@PySem.F.plainAttrs_list
abbrev aQ:=@List.mem_map
abbrev aR:=@List.size_toArray
abbrev aS:=@Nat.le_trans
abbrev aT:=@Nat.ne_of_lt
abbrev aU:=@wpAny_bind
abbrev aV:=@wpAny_pure
abbrev aW:=@decide_eq_false
abbrev aX:=@decide_eq_true
abbrev aY:=@Array.getElem?_eq_getElem
abbrev aZ:=@Bool.and_eq_true
abbrev bf:=@List.getElem?_eq_none
abbrev bg:=@Heap.get?_update_other
abbrev bh:=@List.mem_append
abbrev bq:=@Bool.false_eq_true
abbrev br:=@Int.natAbs_natCast
abbrev bu:=@PySem.mem_of_lookup
abbrev bw:=@Int.toNat_natCast
abbrev bz:=@if_neg
abbrev bA:=@if_pos
abbrev bB:=@of_decide_eq_true
abbrev bC:=@of_decide_eq_false
abbrev bE:=@wpAny_truthy_bool
abbrev bF:=@wpAny_call_entry
abbrev bG:=@wpAny_holding
abbrev bH:=@codeAny_builtin
abbrev bJ:=@wpAny_newObj_type
abbrev bK:=@plainId_quiet
abbrev bL:=@wpAny_seqItems
abbrev bM:=@wpAny_tryCatch
abbrev bN:=@List.filter_cons
abbrev bO:=@List.getElem?_append_left
abbrev bP:=@List.getElem?_append_right
abbrev bQ:=@List.nodup_cons
abbrev bR:=@List.not_mem_nil
abbrev bS:=@List.mem_filter
abbrev bT:=@List.append_assoc
abbrev bU:=@List.foldl_cons
abbrev bV:=@List.map_nil
abbrev bW:=@List.mem_singleton
abbrev bX:=@Nat.lt_irrefl
abbrev bY:=@Nat.lt_of_le_of_lt
abbrev bZ:=@beq_eq_false_iff_ne
end
set_option Elab.async false
set_option maxRecDepth 100000
section
open PySem PySem.W PyProof.Rows
theorem wsaidQ : PySem.Challenge.rw_risingcurves_s01_answers.wellSaid = true := by decide +kernel
structure HeldQ (P : Prop) : Prop where
  of : P
def KeepQ {P : Prop} (_ : HeldQ P) (d : DefRec) : DefRec := d
theorem keepDQ {P : Prop} {q : Program} {n : Str} {d : DefRec} {k : List (Str × Expr)} (h : HeldQ P) (e : defOf q n = some (d, k)) : defOf q n = some (KeepQ h d, k) := e
theorem unkeepQ {P : Prop} {h : HeldQ P} {q : Program} {loose : List Str} {XP : (Str → Option Value) → Heap → Prop} {YP : World → Heap → Prop} {r : OpenSpec} {d : DefRec} {k : List (Str × Expr)} {run : Value → List Value → Sem Value} (x : WalkOS q loose XP YP r d k run) : WalkOS q loose XP YP r (KeepQ h d) k run := x
structure HeldWQ (q : Program) (loose : List Str) (XP : (Str → Option Value) → Heap → Prop) (YP : World → Heap → Prop) (r : OpenSpec) (d : DefRec) (k : List (Str × Expr)) (run : Value → List Value → Sem Value) : Prop where
  of : WalkOS q loose XP YP r d k run
local macro_rules | `(tactic| rfl) => `(tactic| ((with_reducible apply keepDQ (by assumption)); eq_refl))
set_option maxHeartbeats 0 in
noncomputable def headQ : PSigma fun P : Prop => HeldQ P → PySem.Challenge.rw_risingcurves_s01_answers.Holds := ⟨_, fun hP => by
  w_on; have W := wsaidQ; k_headS; (case hw => exact ⟨[.list [.int 24]], by decide +kernel, by decide +kernel⟩)
  exact unkeepQ (HeldWQ.of hP.of)⟩
end
set_option Elab.async false
set_option linter.all false
set_option maxRecDepth 100000
set_option maxHeartbeats 8000000
namespace L2
open PySem PySem.Spec PyProof.Rows
abbrev Key:=Sum Int Str
def AE:Key->Value->Bool
 |.inl k,v=>Value.isInt k v
 |.inr x,v=>Value.isStrOf x v
def XJ(w:World):Key->Int
 |.inl k=>hashInt k
 |.inr x=>hashStr w x
theorem gm:∀{k:Key}{v:Value},AE k v=true->(∃i t,k=Sum.inl i/\v=Value.int i t)∨(∃x t,k=Sum.inr x/\v=Value.str x t)
 |.inl i,v,h=>by
  obtain⟨t,e⟩:=Value.isInt_shape (k:=i) (v:=v) h
  exact .inl ⟨i,t,rfl,e⟩
 |.inr x,v,h=>by
  obtain⟨t,e⟩:=Value.isStrOf_shape (x:=x) (v:=v) h
  exact .inr ⟨x,t,rfl,e⟩
theorem NW(i:Int)(t:Tok):AE (.inl i) (.int i t)=true:=by simp[AE,Value.isInt]
theorem NX(x:Str)(t:Tok):AE (.inr x) (.str x t)=true:=by simp[AE,Value.isStrOf]
theorem T4(a b:Int):decide ((Sum.inl a:Key)=Sum.inl b)=(a==b):=by
 by_cases e:a=b
 ·subst e;simp
 ·have h:¬(Sum.inl a:Key)=Sum.inl b:=fun q=>e (Sum.inl.inj q)
  rw[aW h]
  exact(bZ.mpr e).symm
theorem T5(a b:Str):decide ((Sum.inr a:Key)=Sum.inr b)=decide (a=b):=by
 by_cases e:a=b
 ·subst e;simp
 ·have h:¬(Sum.inr a:Key)=Sum.inr b:=fun q=>e (Sum.inr.inj q)
  rw[aW h,aW e]
theorem T6(a:Int)(b:Str):decide ((Sum.inl a:Key)=Sum.inr b)=false:=aW (fun q=>nomatch q)
theorem T7(a:Str)(b:Int):decide ((Sum.inr a:Key)=Sum.inl b)=false:=aW (fun q=>nomatch q)
def eW(prog:Program)(w:World):PySem.KeyKind prog w Key where
 is:=AE
 hash:=XJ w
 inj:=fun v a b ha hb=>by
  rcases gm ha with ⟨i,t,rfl,rfl⟩ | ⟨x,t,rfl,rfl⟩
  ·rcases gm hb with ⟨j,u,rfl,e⟩ | ⟨y,u,rfl,e⟩
   ·injection e with e1 _;rw[e1]
   ·exact nomatch e
  ·rcases gm hb with ⟨j,u,rfl,e⟩ | ⟨y,u,rfl,e⟩
   ·exact nomatch e
   ·injection e with e1 _;rw[e1]
 byValue:=fun k v h=>by
  rcases gm h with ⟨i,t,rfl,rfl⟩ | ⟨x,t,rfl,rfl⟩ <;> rfl
 pyHash:=fun hv h=>by
  rcases gm hv with ⟨i,t,rfl,rfl⟩ | ⟨x,t,rfl,rfl⟩
  ·exact wpAny_pyHash_int h
  ·exact wpAny_pyHash_str h
 eqBool:=fun hu hv h=>by
  rcases gm hu with ⟨i,t,rfl,rfl⟩ | ⟨x,t,rfl,rfl⟩
  ·rcases gm hv with ⟨j,u,rfl,rfl⟩ | ⟨y,u,rfl,rfl⟩
   ·rw[T4]at h;exact wpAny_eqBool_int h
   ·rw[T6]at h;exact SeqAt.EqAt.int_str i t y u _ _ _ _ h
  ·rcases gm hv with ⟨j,u,rfl,rfl⟩ | ⟨y,u,rfl,rfl⟩
   ·rw[T7]at h;exact SeqAt.EqAt.str_int x t j u _ _ _ _ h
   ·rw[T5]at h;exact wpAny_eqBool_str h
 «strs»:=fun k x t v h=>by
  rcases gm h with ⟨i,u,rfl,e⟩ | ⟨y,u,rfl,e⟩
  ·exact nomatch e
  ·injection e with e1 _
   subst e1
   cases v <;> rfl
theorem vp(prog:Program)(w:World)(i:Int)(t:Tok):(eW prog w).is (.inl i) (.int i t)=true:=NW i t
theorem Ju(prog:Program)(w:World)(x:Str)(t:Tok):(eW prog w).is (.inr x) (.str x t)=true:=NX x t
end L2
namespace L2
open PySem PySem.Spec PyProof.Rows
inductive V where
 |f6 | bl (b:Bool) | int (i:Int) | str (x:Str) | Ln (b:Array UInt8) | Xb (b:UInt64) | ref (a:Addr) | ty (n:String)
 deriving DecidableEq
def RelV:V->Value->Prop
 |.f6,u=>u=Value.none
 |.bl b,u=>u=Value.bool b
 |.int i,u=>∃t,u=Value.int i t
 |.str x,u=>∃t,u=Value.str x t
 |.Ln b,u=>∃t,u=Value.bytes b t
 |.Xb b,u=>∃t,u=Value.float b t
 |.ref a,u=>u=Value.ref a
 |.ty n,u=>u=Value.type n
abbrev Vals:List V->List Value->Prop:=Paired RelV
theorem Vals.length{xs:List V}{us:List Value}(r:Vals xs us):xs.length=us.length:=Paired.length r
theorem Vals.get:∀{xs:List V}{us:List Value}{i:Nat}{x:V},Vals xs us->xs[i]?=some x-> ∃u,us[i]?=some u/\RelV x u
 |_,_,_,_,.nil,e=>by simp at e
 |_,_,0,_,.cons r _,e=>by simp at e;subst e;exact⟨_,rfl,r⟩
 |_,_,i+1,x,.cons _ t,e=>by
  obtain⟨u,h1,h2⟩:=Vals.get (i:=i) (x:=x) t (by simpa using e)
  exact⟨u,by simpa using h1,h2⟩
theorem Vals.append:∀{xs ys:List V}{us ws:List Value},Vals xs us->Vals ys ws->Vals (xs++ys) (us++ws)
 |_,_,_,_,.nil,s=>s
 |_,_,_,_,.cons r t,s=>.cons r (Vals.append t s)
theorem Vals.take:∀{xs:List V}{us:List Value}(n:Nat),Vals xs us->Vals (xs.take n) (us.take n)
 |_,_,0,_=>.nil
 |_,_,_+1,.nil=>.nil
 |_,_,n+1,.cons r t=>.cons r (Vals.take n t)
theorem Vals.drop:∀{xs:List V}{us:List Value}(n:Nat),Vals xs us->Vals (xs.drop n) (us.drop n)
 |_,_,0,r=>r
 |_,_,_+1,.nil=>.nil
 |_,_,n+1,.cons _ t=>Vals.drop n t
def zM:Option V->Option Value->Prop
 |some v,some u=>RelV v u
 |none,none=>True
 |_,_=>False
def KV{κ:Type}:List (κ×V)->List (κ×Value)->Prop:=Paired fun(p:κ×V)(q:κ×Value)=>p.1=q.1/\RelV p.2 q.2
def kV:Key->V
 |.inl i=>.int i
 |.inr x=>.str x
inductive HO where
 |lst (xs:List V)
 |tup (xs:List V)
 |dK (kvs:List (Key×V)) | dT (kvs:List (List Key×V))
 |set (S:Int->Bool) (n:Nat)
 |ins (C dx:Addr) (fs:List (Str×V))
 |own (x:Addr)
 |xd (fs:List (Str×V))
 |met (f x:Addr)
 |XM (lo hi:Int)
 |oR (o:Obj) (u:HO)
 |T8 (ps:Array Value)
 |ext (φ:Heap->Prop)
abbrev Hp:=Addr->Option HO
def upd(H:Hp)(a:Addr)(o:HO):Hp:=fun b=>if b=a then some o else H b
theorem cA{H:Hp}{a:Addr}{o:HO}:upd H a o a=some o:=by unfold upd;rw[bA rfl]
theorem cV{H:Hp}{a b:Addr}{o:HO}(h:b≠a):upd H a o b=H b:=by unfold upd;rw[bz h]
theorem e9{H:Hp}{a b:Addr}{o u:HO}(h:H a=some o)(h':H b=some u)(d:o≠u):a≠b:=by
 intro e;subst e;rw[h]at h';exact d (az h')
theorem dj{H:Hp}{a b:Addr}{o:HO}(h:H a=some o)(h':H b=none):a≠b:=by
 intro e;subst e;rw[h]at h';cases h'
section
variable (P:Program) (w:World)
def iW(H:Hp)(h:Heap)(a:Addr):HO->Prop
 |.lst xs=>xs.length≤sizeLine/\ ∃(its:List Value)(n:Nat),Vals xs its/\h.get? a=some { cls:=.type "list",data:=.seq its.toArray n }
 |.tup xs=>xs.length≤sizeLine/\ ∃its:List Value,Vals xs its/\IsTup h a its.toArray
 |.dK kvs=>kvs.length≤sizeLine/\(a==sysModules)=false/\ ∃vs,KV kvs vs/\h.DictOf (eW P w) a vs
 |.dT kvs=>kvs.length≤sizeLine/\(a==sysModules)=false/\ ∃xs:List (List Key×Addr×Value),
  Paired (fun(p:List Key×V)(q:List Key×Addr×Value)=>p.1=q.1/\H q.2.1=some (.tup (p.1.map kV))/\RelV p.2 q.2.2) kvs xs/\
  ∃o es ep,h.get? a=some o/\o.ExactDict/\o.data= .dict es ep/\es.toList=xs.map (entryOfKey (tupleKind (eW P w)))/\(xs.map (·.1)).Nodup
 |.set S n=>h.SetOf (intKind P w) a S n
 |.ins C dx fs=>H dx=some (.own a)/\fs.length≤1000/\dx≠a/\h.get? a=some (PySem.W.instObj C dx)/\
  ∃mA,h.Ns1 dx mA/\(∀f,zM (fs.lookup f) (mA f))/\PySem.Within mA (fs.map (·.1))
 |.own _=>∃o,h.get? a=some o
 |.xd fs=>∃mA,h.Ns1 a mA/\ ∀f,zM (fs.lookup f) (mA f)
 |.XM lo hi=>∃t u v,h.get? a=some { cls:=.type "range",data:=.fields #[.int lo t,.int hi u,.int 1 v] }
 |.oR o u=>h.get? a=some o/\iW H h a u
 |.T8 ps=>h.get? a=some { cls:=.none,data:=.fields ps }
 |.met f x=>h.get? a=some (PySem.W.methodObj (.ref f) (.ref x))
 |.ext φ=>φ h/\(∃o,h.get? a=some o)/\ ∀h1 h2:Heap,φ h1->(∀o,h1.get? a=some o->h2.get? a=some o)->φ h2
def vq(H:Hp)(h:Heap):Prop:=∀a o,H a=some o->iW P w H h a o
end
section
variable {P:Program} {w:World} {H H':Hp} {h h':Heap} {a:Addr} {o:HO}
theorem iW.lt(x:iW P w H h a o):a<h.objs.size:=by
 cases o with
 |lst xs=>obtain⟨_,_,_,_,e⟩:=x;exact aC e
 |tup xs=>obtain⟨_,_,_,p⟩:=x;exact p.lt
 |dK kvs=>obtain⟨_,_,_,_,o,_,_,e,_⟩:=x;exact aC e
 |dT kvs=>obtain⟨_,_,_,_,o,_,_,e,_⟩:=x;exact aC e
 |set S n=>obtain⟨o,_,_,_,e,_⟩:=x;exact aC e
 |ins C dx fs=>obtain⟨_,_,_,e,_⟩:=x;exact aC e
 |own y=>obtain⟨_,e⟩:=x;exact aC e
 |xd fs=>obtain⟨_,⟨_,_,_,e,_⟩,_⟩:=x;exact aC e
 |XM lo hi=>obtain⟨_,_,_,e⟩:=x;exact aC e
 |oR ob u=>obtain⟨e,_⟩:=x;exact aC e
 |T8 ps=>exact aC (show h.get? a=some _ from x)
 |met f y=>exact aC (show h.get? a=some _ from x)
 |ext φ=>obtain⟨_,⟨_,e⟩,_⟩:=x;exact aC e
theorem Paired.T9{α β:Type}{F G:α->β->Prop}:∀{l₁:List α}{l₂:List β},Paired F l₁ l₂->(∀a b,F a b->G a b)->Paired G l₁ l₂
 |_,_,.nil,_=>.nil
 |_,_,.cons r t,f=>.cons (f _ _ r) (Paired.T9 t f)
theorem iW.stay(x:iW P w H h a o)(k:∀b u,(b=a∨H b=some (.own a))->h.get? b=some u->h'.get? b=some u)
  (ho:∀b,H b=some (.own a)->H' b=some (.own a))(ht:∀b xs,H b=some (.tup xs)->H' b=some (.tup xs)):iW P w H' h' a o:=by
 induction o with
 |lst xs=>obtain⟨z,its,n,r,e⟩:=x;exact⟨z,its,n,r,k _ _ (.inl rfl) e⟩
 |tup xs=>obtain⟨z,its,r,ob,e,c⟩:=x;exact⟨z,its,r,ob,k _ _ (.inl rfl) e,c⟩
 |dK kvs=>obtain⟨z,y,vs,r,ob,es,ep,e,c⟩:=x;exact⟨z,y,vs,r,ob,es,ep,k _ _ (.inl rfl) e,c⟩
 |dT kvs=>
  obtain⟨z,y,xs,r,ob,es,ep,e,c⟩:=x
  exact⟨z,y,xs,Paired.T9 r fun p q z=>⟨z.1,ht _ _ z.2.1,z.2.2⟩,ob,es,ep,k _ _ (.inl rfl) e,c⟩
 |set S n=>obtain⟨ob,es,ep,t,e,c⟩:=x;exact⟨ob,es,ep,t,k _ _ (.inl rfl) e,c⟩
 |ins C dx fs=>
  obtain⟨d,z,ne,e,mA,⟨od,es,ep,e2,c⟩,r⟩:=x
  exact⟨ho _ d,z,ne,k _ _ (.inl rfl) e,mA,⟨od,es,ep,k _ _ (.inr d) e2,c⟩,r⟩
 |own y=>obtain⟨ob,e⟩:=x;exact⟨ob,k _ _ (.inl rfl) e⟩
 |xd fs=>obtain⟨mA,⟨od,es,ep,e,c⟩,r⟩:=x;exact⟨mA,⟨od,es,ep,k _ _ (.inl rfl) e,c⟩,r⟩
 |XM lo hi=>obtain⟨t,u,v,e⟩:=x;exact⟨t,u,v,k _ _ (.inl rfl) e⟩
 |oR ob u ih=>obtain⟨e,q⟩:=x;exact⟨k _ _ (.inl rfl) e,ih q⟩
 |T8 ps=>
  have e:h.get? a=some { cls:=.none,data:=.fields ps }:=x
  show h'.get? a=some { cls:=.none,data:=.fields ps }
  exact k a _ (.inl rfl) e
 |met f y=>
  have e:h.get? a=some (PySem.W.methodObj (.ref f) (.ref y)):=x
  show h'.get? a=some (PySem.W.methodObj (.ref f) (.ref y))
  exact k a _ (.inl rfl) e
 |ext φ=>obtain⟨p,⟨o,e⟩,st⟩:=x;exact⟨st _ _ p fun o q=>k _ _ (.inl rfl) q,⟨o,k _ _ (.inl rfl) e⟩,st⟩
theorem vq.lt(x:vq P w H h)(e:H a=some o):a<h.objs.size:=(x a o e).lt
theorem vq.fresh(x:vq P w H h)(e:h.objs.size≤a):H a=none:=by
 cases q:H a with
 |none=>rfl
 |some u=>exact absurd (aM (x.lt q) e) (bX _)
theorem vq.kept(x:vq P w H h)(k:∀b u,h.get? b=some u->h'.get? b=some u):vq P w H h':=fun a o e=>
 (x a o e).stay (fun b u _ q=>k b u q) (fun _ q=>q) fun _ _ q=>q
theorem vq.laid(x:vq P w H h)(k:∀b u,h.get? b=some u->h'.get? b=some u)(hp:h.objs.size≤a)(new:iW P w (upd H a o) h' a o):vq P w (upd H a o) h':=fun b u e=>by
 have hn:=x.fresh hp
 by_cases hb:b=a
 ·subst hb;rw[cA]at e;cases e;exact new
 ·rw[cV hb]at e
  exact(x b u e).stay (fun c v _ q=>k c v q) (fun c q=>by rw[cV (dj q hn)];exact q) fun c xs q=>by rw[cV (dj q hn)];exact q
end
def Rd(H:Hp)(a:Addr)(u:HO):Prop:=H a=some u∨ ∃o,H a=some (.oR o u)
theorem Rd.ok{P:Program}{w:World}{H:Hp}{h:Heap}{a:Addr}{u:HO}(r:Rd H a u)(x:vq P w H h):iW P w H h a u:=by
 rcases r with r | ⟨o,r⟩
 ·exact x a u r
 ·obtain⟨_,q⟩:=x a _ r
  exact q
def S5:Option HO->Prop
 |some (.lst _)=>True
 |some (.dK _)=>True
 |some (.dT _)=>True
 |some (.set _ _)=>True
 |some (.ins _ _ _)=>True
 |some (.ext _)=>True
 |_=>False
section
variable {P:Program} {w:World} {H:Hp} {h h':Heap} {x e:Addr} {o':HO}
theorem vq.write(ok:vq P w H h)(mu:S5 (H x))(he:e=x∨H e=some (.own x))(k:∀b u,b≠e->h.get? b=some u->h'.get? b=some u)(Vk:∃u,h'.get? e=some u)
  (new:iW P w (upd H x o') h' x o'):vq P w (upd H x o') h':=fun b u q=>by
 have VC:∀c y,H c=some (.own y)->c≠x:=fun c y r z=>by subst z;rw[r]at mu;exact mu
 have XN:∀c xs,H c=some (.tup xs)->c≠x:=fun c xs r z=>by subst z;rw[r]at mu;exact mu
 by_cases hb:b=x
 ·subst hb;rw[cA]at q;cases q;exact new
 ·rw[cV hb]at q
  by_cases Rt:b=e
  ·have q':H b=some (.own x):=by
    rcases he with z | z
    ·exact absurd (Rt.trans z) hb
    ·rw[Rt];exact z
   rw[q]at q';cases q'
   obtain⟨v,hv⟩:=Vk
   exact⟨v,by rw[Rt];exact hv⟩
  ·refine(ok b u q).stay (fun c v hc r=>k c v ?_ r) (fun c r=>by rw[cV (VC c b r)];exact r) fun c xs r=>by rw[cV (XN c xs r)];exact r
   rcases hc with rfl | hc
   ·exact Rt
   ·rintro rfl
    rcases he with z | z
    ·exact VC c b hc z
    ·rw[hc]at z;cases z;exact hb rfl
end
structure Un(fs ex:List Addr)(H H':Hp)(h h':Heap):Prop where
 keep:∀b o,h.get? b=some o->H b=none->b∉fs->b∉ex->h'.get? b=some o
 slot:∀b o,h.get? b=some o->H b=none->b∈fs->b∉ex-> ∃sl,h'.get? b=some { o with slots:=sl }
 free:∀b o,h.get? b=some o->H b=none->b∉ex->H' b=none
 there:∀b o,h.get? b=some o->b∉ex-> ∃o',h'.get? b=some o'
 tups:∀b xs,H b=some (.tup xs)->H' b=some (.tup xs)
 Eh:∀b o u,H b=some (.oR o u)->H' b=some (.oR o u)
 HW:∀b ps,H b=some (.T8 ps)-> ∃more,H' b=some (.T8 (ps++more))
section
variable {fs fs' ex ex':List Addr} {H H1 H2:Hp} {h h1 h2 h':Heap} {a x e:Addr} {o:HO}
theorem Un.any(u:Un fs ex H H1 h h1){b:Addr}{ob:Obj}(q:h.get? b=some ob)(n:H b=none)(hx:b∉ex):∃sl,h1.get? b=some { ob with slots:=sl }:=by
 by_cases hb:b∈fs
 ·exact u.slot b ob q n hb hx
 ·exact⟨ob.slots,u.keep b ob q n hb hx⟩
theorem Un.kept(k:∀b u,h.get? b=some u->h'.get? b=some u):Un fs ex H H h h':=
 ⟨fun b ob q _ _ _=>k b ob q,fun b ob q _ _ _=>⟨ob.slots,k b ob q⟩,fun _ _ _ n _=>n,fun b ob q _=>⟨ob,k b ob q⟩,fun _ _ q=>q,fun _ _ _ q=>q,fun _ ps q=>⟨#[],by rw[q];simp⟩⟩
theorem Un.refl:Un fs ex H H h h:=Un.kept fun _ _ q=>q
theorem Un.laid(k:∀b u,h.get? b=some u->h'.get? b=some u)(hp:h.objs.size≤a)(hn:H a=none):Un fs ex H (upd H a o) h h' where
 keep:=fun b u q _ _ _=>k b u q
 slot:=fun b u q _ _ _=>⟨u.slots,k b u q⟩
 free:=fun b u q n _=>by rw[cV (aT (aM (aC q) hp))];exact n
 there:=fun b u q _=>⟨u,k b u q⟩
 tups:=fun b xs q=>by rw[cV (dj q hn)];exact q
 Eh:=fun b u xs q=>by rw[cV (dj q hn)];exact q
 HW:=fun b ps q=>⟨#[],by rw[cV (dj q hn),q];simp⟩
theorem Un.write(mu:S5 (H x))(he:e=x∨H e=some (.own x))(k:∀b u,b≠e->h.get? b=some u->h'.get? b=some u)(Vk:∃u,h'.get? e=some u):Un fs ex H (upd H x o) h h':=by
 have hx:∀b,H b=none->b≠x:=fun b n z=>by subst z;rw[n]at mu;exact mu
 have hb:∀b,H b=none->b≠e:=fun b n z=>by
  subst z
  rcases he with r | r
  ·exact hx b n r
  ·rw[n]at r;cases r
 have hm:∀b u,H b=some u-> ¬S5 (some u)->b≠x:=fun b u q nm z=>by subst z;rw[q]at mu;exact nm mu
 refine⟨fun b u q n _ _=>k b u (hb b n) q,fun b u q n _ _=>⟨u.slots,k b u (hb b n) q⟩,fun b u q n _=>by rw[cV (hx b n)];exact n,fun b u q _=>?_,
  fun b xs q=>by rw[cV (hm b _ q fun z=>z)];exact q,fun b u xs q=>by rw[cV (hm b _ q fun z=>z)];exact q,fun b ps q=>⟨#[],by rw[cV (hm b _ q fun z=>z),q];simp⟩⟩
 by_cases Rt:b=e
 ·subst Rt;exact Vk
 ·exact⟨u,k b u Rt q⟩
end
def Xc(h:Heap)(H:Hp):List Addr:=(List.range h.objs.size).filter fun a=>(H a).isSome
def HX(h:Heap)(H:Hp):Heap:=PySem.W.hideAll h (Xc h H)
theorem NY(h:Heap)(H:Hp):(HX h H).objs.size=h.objs.size:=PySem.W.hideAll_size _ _
theorem O5{h:Heap}{H:Hp}{b:Addr}{o:Obj}(e:h.get? b=some o)(n:H b=none):(HX h H).get? b=some o:=
 PySem.W.hideAll_get _ e fun hm=>by
  have q:(H b).isSome=true:=(bS.mp hm).2
  rw[n]at q;simp at q
theorem RH{h:Heap}{H:Hp}{b:Addr}{o:Obj}(e:(HX h H).get? b=some o):h.get? b=some o/\H b=none:=by
 have e':h.get? b=some o:=PySem.W.of_hideAll (Xc h H) e
 refine⟨e',?_⟩
 cases q:H b with
 |none=>rfl
 |some x=>
  have hm:b∈Xc h H:=bS.mpr ⟨List.mem_range.mpr (aC e'),by simp[q]⟩
  have z:(HX h H).get? b=none:=PySem.W.hideAll_none (Xc h H) hm
  rw[z]at e;cases e
end L2
namespace L2
open PySem PySem.Spec PyProof.Rows
structure Mod(K:PySem.W.Frag)(mg:Str->Option Value)(base:Heap):Prop where
 VD:K.In base
 glob:base.Ns mainGlobals mg
 blt:∃mb,base.Ns builtinsNs mb/\ ∀x:Str,x≠"__name__"->mb x=bootBuiltins x
 nolimit:base.NoLimit
structure Cx where
 prog:Program
 w:World
 K:PySem.W.Frag
 mg:Str->Option Value
 base:Heap
 A:Around
 N:List Str
 GI:Shared
 Ua:Hp
 env:Env
 outer:List Env
 stack:List Env
 ex:List Addr
 fn:Str->Bool
 calm:Bool
 pn:List (Addr×Obj)
 xe:Value->Shared->Prop
def frs(l:List Env):List Addr:=l.filterMap (·.frame)
abbrev Cx.fs(X:Cx):List Addr:=frs X.outer
def VE(sc:Scope)(x:Str):Prop:=sc.names.lookup x=some .local∨sc.names.lookup x=some .cell∨sc.names.lookup x=some .free
def Loc(sc:Scope)(x:Str):Prop:=sc.names.lookup x=some .local∨sc.names.lookup x=some .cell
def Look(env:Env)(h:Heap)(m:Str->Option Value)(x:Str)(u:Value):Prop:=
 (env.kindOf x=some .local/\m x=some u)∨((env.kindOf x=some .cell∨env.kindOf x=some .free)/\ ∃c,env.cells.lookup x=some c/\h.IsCell c (some u))
structure Cx.Ok(X:Cx):Prop where
 mod:Mod X.K X.mg X.base
 kind:X.env.scope.kind= .function
 glob:X.env.globals=mainGlobals
 blt:X.env.builtins=builtinsNs
 above:X.GI.heap.objs.size≤X.env.locals
 inj:∀x y c,X.env.cells.lookup x=some c->X.env.cells.lookup y=some c->x=y
 has:∀x,(X.env.kindOf x=some .cell∨X.env.kindOf x=some .free)-> ∃c,X.env.cells.lookup x=some c
 VF:∀x c,X.fn x=true->X.env.cells.lookup x=some c->X.GI.heap.objs.size≤c
 hd:X.calm=true->X.A.handled=none
 frames:X.A.frames=some X.stack
 stk:X.stack=X.outer∨(X.stack=X.env::X.outer/\X.env.frame=some X.env.locals)
 Xd:∀b∈X.ex,b≠X.env.locals/\ ∀x c,X.env.cells.lookup x=some c->c≠b
 bs:∀b o,X.base.get? b=some o->X.GI.heap.get? b=some o/\X.Ua b=none
 RI:X.base.objs.size≤X.GI.heap.objs.size
 O6:∀b o,X.base.get? b=some o->b∉X.ex
 O7:∀b∈X.ex,b∉X.fs
 Dy:X.GI.heap.FunFrames X.base X.outer
 Ub:∀b∈X.fs,X.Ua b=none
structure Inv(X:Cx)(pins:List (Addr×Obj))(σ:List (Option V))(H:Hp)(s:Shared):Prop where
 ok:X.Ok
 os:s.os=X.GI.os
 bare:AllBare s.gens
 base:Un X.fs X.ex X.Ua H X.GI.heap s.heap
 loc:∃m,s.heap.Ns X.env.locals m/\ ∀(i:Nat)(x:Str)(v:V),X.N[i]?=some x->σ[i]?=some (some v)->VE X.env.scope x-> ∃u,RelV v u/\Look X.env s.heap m x u
 cell:∀x c,X.env.cells.lookup x=some c-> ∃v,s.heap.IsCell c v
 free:H X.env.locals=none
 qk:∀x c,X.env.cells.lookup x=some c->H c=none
 pin:∀p∈X.pn++pins,s.heap.get? p.1=some p.2/\H p.1=none/\p.1≠X.env.locals/\p.1∉X.fs/\ ∀v,p.2.data≠ .cell v
 hok:vq X.prog X.w H s.heap
 len:σ.length=X.N.length
section
variable {X:Cx} {pins:List (Addr×Obj)} {σ:List (Option V)} {H H':Hp} {s:Shared} {h':Heap}
theorem Cx.Ok.XO(ok:X.Ok){b:Addr}{o:Obj}(e:X.base.get? b=some o):b∉X.fs:=fun hb=>by
 have:=(ok.Dy.mem hb).1
 rw[e]at this;cases this
theorem Inv.bs(I:Inv X pins σ H s):∀b o,X.base.get? b=some o->s.heap.get? b=some o/\H b=none:=fun b o e=>
 ⟨I.base.keep b o (I.ok.bs b o e).1 (I.ok.bs b o e).2 (I.ok.XO e) (I.ok.O6 b o e),I.base.free b o (I.ok.bs b o e).1 (I.ok.bs b o e).2 (I.ok.O6 b o e)⟩
theorem Inv.bk(I:Inv X pins σ H s):∀b o,X.base.get? b=some o->s.heap.get? b=some o:=fun b o e=>(I.bs b o e).1
theorem Inv.mod(I:Inv X pins σ H s):Mod X.K X.mg X.base:=I.ok.mod
theorem Inv.MM(I:Inv X pins σ H s):X.K.In s.heap:=I.ok.mod.VD.keeps I.bk
theorem Inv.lt(I:Inv X pins σ H s):X.env.locals<s.heap.objs.size:=let ⟨_,hn,_⟩:=I.loc;hn.lt
theorem Inv.sz(I:Inv X pins σ H s):X.GI.heap.objs.size≤s.heap.objs.size:=aS I.ok.above (Nat.le_of_lt I.lt)
theorem Inv.XQ(I:Inv X pins σ H s){a:Addr}(h:s.heap.objs.size≤a):a∉X.fs:=fun hb=>by
 obtain⟨_,o,ho,_⟩:=I.ok.Dy.mem hb
 exact absurd (aM (aC ho) (aS I.sz h)) (bX _)
theorem Inv.NZ(I:Inv X pins σ H s):∀x c,X.env.cells.lookup x=some c->c≠X.env.locals:=fun x c e z=>by
 obtain⟨v,o,ho,hd⟩:=I.cell x c e
 obtain⟨m,⟨o',es,ep,ho',hd',_⟩,_⟩:=I.loc
 rw[z,ho']at ho;cases ho;rw[hd']at hd;cases hd
theorem Inv.Dy(I:Inv X pins σ H s):s.heap.FunFrames X.base X.outer:=by
 have all:∀(l:List Env),(∀b∈frs l,b∈X.fs)->X.GI.heap.FunFrames X.base l->s.heap.FunFrames X.base l:=by
  intro l
  induction l with
  |nil=>intro _ _;trivial
  |cons env r ih=>
   intro hs hl
   obtain⟨hk,⟨L,o,hf,hn,ho,hd⟩,hr⟩:=hl
   have hL:L∈X.fs:=hs L (by unfold frs;rw[List.filterMap_cons,hf];exact aH)
   obtain⟨sl,e⟩:=I.base.slot L o ho (I.ok.Ub L hL) hL fun z=>I.ok.O7 L z hL
   exact⟨hk,⟨L,_,hf,hn,e,hd⟩,ih (fun b hb=>hs b (by unfold frs;rw[List.filterMap_cons,hf];exact au _ hb)) hr⟩
 exact all X.outer (fun _ hb=>hb) I.ok.Dy
theorem Inv.stack(I:Inv X pins σ H s):s.heap.FunFrames X.base X.stack:=by
 rcases I.ok.stk with e | ⟨e,hf⟩
 ·rw[e];exact I.Dy
 ·rw[e]
  obtain⟨m,hn,_⟩:=I.loc
  refine .cons (by rw[I.ok.kind];decide) hf hn ?_ I.Dy
  exact Heap.get?_none_of_le (aS I.ok.RI I.ok.above)
theorem Inv.Lp(I:Inv X pins σ H s):∀b∈frs X.stack,b∈X.env.locals::X.fs:=fun b hb=>by
 rcases I.ok.stk with e | ⟨e,hf⟩
 ·rw[e]at hb;exact au _ hb
 ·rw[e]at hb
  unfold frs at hb
  rw[List.filterMap_cons,hf]at hb
  exact hb
theorem Inv.MN(I:Inv X pins σ H s):∀b∈frs X.stack,H b=none:=fun b hb=>by
 rcases aB.mp (I.Lp b hb)with e | hb
 ·rw[e];exact I.free
 ·obtain⟨_,o,ho,_⟩:=I.ok.Dy.mem hb
  exact I.base.free b o ho (I.ok.Ub b hb) fun z=>I.ok.O7 b z hb
theorem Inv.step{g':Array GenState}{t':Nat}{d':Drawn}{ch:List Addr}(I:Inv X pins σ H s)
  (hch:∀b∈ch,(b∈X.ex∨X.GI.heap.objs.size≤b)/\b≠X.env.locals/\(∀x c,X.env.cells.lookup x=some c->c≠b)/\ ∀p∈X.pn++pins,p.1≠b)
  (keep:∀b o,b≠X.env.locals->b∉X.fs->b∉ch->s.heap.get? b=some o->H b=none->h'.get? b=some o)
  (slot:∀b o,b≠X.env.locals->b∈X.fs->b∉ch->s.heap.get? b=some o->H b=none-> ∃sl,h'.get? b=some { o with slots:=sl })(free:∀b o,b∉ch->s.heap.get? b=some o->H b=none->H' b=none)
  (there:∀b o,b∉ch->s.heap.get? b=some o-> ∃o',h'.get? b=some o')
  (tups:∀b xs,H b=some (.tup xs)->H' b=some (.tup xs))(Eh:∀b o u,H b=some (.oR o u)->H' b=some (.oR o u))(HW:∀b ps,H b=some (.T8 ps)-> ∃more,H' b=some (.T8 (ps++more)))
  (ns:∀m,s.heap.Ns X.env.locals m->h'.Ns X.env.locals m)(hok:vq X.prog X.w H' h')(hg:AllBare g'):
  Inv X pins σ H' { s with heap:=h',gens:=g',drawn:=d',toks:=t' }:=by
 have ZG:∀b o,X.GI.heap.get? b=some o->b≠X.env.locals:=fun b o e=>aT (aM (aC e) I.ok.above)
 have Xe:∀b o,X.GI.heap.get? b=some o->b∉X.ex->b∉ch:=fun b o e hx hb=>by
  rcases(hch b hb).1 with z | z
  ·exact hx z
  ·exact absurd (aM (aC e) z) (bX _)
 have cellK:∀x c,X.env.cells.lookup x=some c-> ∀v,s.heap.IsCell c v->h'.IsCell c v:=fun x c e v ⟨o,ho,hd⟩=>by
  have VG:c∉ch:=fun z=>(hch c z).2.2.1 x c e rfl
  by_cases hc:c∈X.fs
  ·obtain⟨sl,q⟩:=slot c o (I.NZ x c e) hc VG ho (I.qk x c e)
   exact⟨_,q,hd⟩
  ·exact⟨o,keep c o (I.NZ x c e) hc VG ho (I.qk x c e),hd⟩
 refine⟨I.ok,I.os,hg,⟨fun b o e n hb hx=>?_,fun b o e n hb hx=>?_,fun b o e n hx=>?_,fun b o e hx=>?_,fun b xs e=>tups b xs (I.base.tups b xs e),fun b o xs e=>Eh b o xs (I.base.Eh b o xs e),fun b ps e=>?_⟩,?_,fun x c e=>?_,?_,fun x c e=>?_,fun p hp=>?_,hok,I.len⟩
 ·exact keep b o (ZG b o e) hb (Xe b o e hx) (I.base.keep b o e n hb hx) (I.base.free b o e n hx)
 ·obtain⟨sl,e1⟩:=I.base.slot b o e n hb hx
  obtain⟨sl',e2⟩:=slot b _ (ZG b o e) hb (Xe b o e hx) e1 (I.base.free b o e n hx)
  exact⟨sl',e2⟩
 ·obtain⟨o',e1⟩:=I.base.there b o e hx
  exact free b o' (Xe b o e hx) e1 (I.base.free b o e n hx)
 ·obtain⟨o',e1⟩:=I.base.there b o e hx
  exact there b o' (Xe b o e hx) e1
 ·obtain⟨m1,e1⟩:=I.base.HW b ps e
  obtain⟨m2,e2⟩:=HW b _ e1
  exact⟨m1++m2,by rw[e2,Array.append_assoc]⟩
 ·obtain⟨m,hn,hl⟩:=I.loc
  refine⟨m,ns m hn,fun i x v e1 e2 e3=>?_⟩
  obtain⟨u,r,l⟩:=hl i x v e1 e2 e3
  refine⟨u,r,?_⟩
  rcases l with l | ⟨k,c,e,z⟩
  ·exact .inl l
  ·exact .inr ⟨k,c,e,cellK x c e _ z⟩
 ·obtain⟨v,z⟩:=I.cell x c e
  exact⟨v,cellK x c e v z⟩
 ·obtain⟨m,⟨o,_,_,ho,_⟩,_⟩:=I.loc
  exact free _ o (fun z=>(hch _ z).2.1 rfl) ho I.free
 ·obtain⟨v,o,ho,hd⟩:=I.cell x c e
  exact free c o (fun z=>(hch c z).2.2.1 x c e rfl) ho (I.qk x c e)
 ·obtain⟨e,n,ne,nf,d⟩:=I.pin p hp
  have VG:p.1∉ch:=fun z=>(hch p.1 z).2.2.2 p hp rfl
  exact⟨keep p.1 p.2 ne nf VG e n,free p.1 p.2 VG e n,ne,nf,d⟩
theorem Inv.un{t':Nat}(I:Inv X pins σ H s)(u:Un X.fs [] H H' s.heap h')(hok:vq X.prog X.w H' h'):Inv X pins σ H' { s with heap:=h',toks:=t' }:=by
 obtain⟨m,⟨o,es,ep,ho,r⟩,_⟩:=id I.loc
 obtain⟨sl,hL⟩:=u.any ho I.free (by simp)
 exact I.step (g':=s.gens) (d':=s.drawn) (ch:=[]) (fun _ z=>nomatch z) (fun b o _ hb _ e n=>u.keep b o e n hb (by simp)) (fun b o _ hb _ e n=>u.slot b o e n hb (by simp)) (fun b o _ e n=>u.free b o e n (by simp)) (fun b o _ e=>u.there b o e (by simp)) u.tups u.Eh u.HW (fun m' hm=>by
  obtain⟨o',es',MO,ho',r'⟩:=hm
  rw[ho]at ho';cases ho'
  exact⟨_,es',MO,hL,r'⟩) hok I.bare
theorem Inv.call{g':Array GenState}{t':Nat}{d':Drawn}{ch:List Addr}(I:Inv X pins σ H s)(u:Un (frs X.stack) ch H H' s.heap h')(hok:vq X.prog X.w H' h')(hg:AllBare g')
  (hch:∀b∈ch,(b∈X.ex∨X.GI.heap.objs.size≤b)/\b≠X.env.locals/\(∀x c,X.env.cells.lookup x=some c->c≠b)/\ ∀p∈X.pn++pins,p.1≠b):
  Inv X pins σ H' { s with heap:=h',gens:=g',drawn:=d',toks:=t' }:=by
 obtain⟨m,⟨o,es,ep,ho,r⟩,_⟩:=id I.loc
 obtain⟨sl,hL⟩:=u.any ho I.free fun z=>(hch _ z).2.1 rfl
 exact I.step (ch:=ch) hch (fun b o hL hb hc e n=>u.keep b o e n (fun z=>(aB.mp (I.Lp b z)).elim hL hb) hc) (fun b o _ _ hc e n=>u.any e n hc) (fun b o hc e n=>u.free b o e n hc) (fun b o hc e=>u.there b o e hc) u.tups u.Eh u.HW (fun m' hm=>by
  obtain⟨o',es',MO,ho',r'⟩:=hm
  rw[ho]at ho';cases ho'
  exact⟨_,es',MO,hL,r'⟩) hok hg
theorem Inv.turned{t':Nat}{it:Addr}(I:Inv X pins σ H s)(k:∀b o,b≠it->s.heap.get? b=some o->h'.get? b=some o)(hn:H it=none)(hL:it≠X.env.locals)
  (h1:it∈X.ex∨X.GI.heap.objs.size≤it)(h2:∀x c,X.env.cells.lookup x=some c->c≠it)(h3:∀p∈X.pn++pins,p.1≠it):Inv X pins σ H { s with heap:=h',toks:=t' }:=by
 have S6:∀b u,H b=some u->b≠it:=fun b u e z=>by rw[z,hn]at e;cases e
 refine I.step (g':=s.gens) (d':=s.drawn) (ch:=[it]) (fun b hb=>?_) (fun b o _ _ hc e _=>k b o (fun z=>hc (by simp[z])) e) (fun b o _ _ hc e _=>⟨o.slots,k b o (fun z=>hc (by simp[z])) e⟩) (fun _ _ _ _ n=>n)
  (fun b o hc e=>⟨o,k b o (fun z=>hc (by simp[z])) e⟩) (fun _ _ e=>e) (fun _ _ _ e=>e) (fun b ps e=>⟨#[],by rw[e];simp⟩) (fun m hm=>?_) (fun b u e=>?_) I.bare
 ·have e:b=it:=by simpa using hb
  subst e
  exact⟨h1,hL,h2,h3⟩
 ·obtain⟨o,es,ep,ho,r⟩:=hm
  exact⟨o,es,ep,k _ o (Ne.symm hL) ho,r⟩
 ·refine(I.hok b u e).stay (fun c v hc q=>k c v ?_ q) (fun _ q=>q) fun _ _ q=>q
  rcases hc with z | z
  ·rw[z];exact S6 b u e
  ·exact S6 c _ z
theorem Inv.tok(I:Inv X pins σ H s)(t:Nat):Inv X pins σ H { s with toks:=t }:=I.un (h':=s.heap) (t':=t) Un.refl I.hok
theorem Inv.kept{t':Nat}(I:Inv X pins σ H s)(k:∀b u,s.heap.get? b=some u->h'.get? b=some u):Inv X pins σ H { s with heap:=h',toks:=t' }:=I.un (Un.kept k) (I.hok.kept k)
theorem Inv.laid{a:Addr}{o:HO}{t':Nat}(I:Inv X pins σ H s)(k:∀b u,s.heap.get? b=some u->h'.get? b=some u)(hp:s.heap.objs.size≤a)(new:iW X.prog X.w (upd H a o) h' a o):
 Inv X pins σ (upd H a o) { s with heap:=h',toks:=t' }:=I.un (Un.laid k hp (I.hok.fresh hp)) (I.hok.laid k hp new)
theorem Inv.write{x e:Addr}{o:HO}{t':Nat}(I:Inv X pins σ H s)(mu:S5 (H x))(he:e=x∨H e=some (.own x))(k:∀b u,b≠e->s.heap.get? b=some u->h'.get? b=some u)(Vk:∃u,h'.get? e=some u)
 (new:iW X.prog X.w (upd H x o) h' x o):Inv X pins σ (upd H x o) { s with heap:=h',toks:=t' }:=I.un (Un.write mu he k Vk) (I.hok.write mu he k Vk new)
theorem Inv.weak{σ':List (Option V)}(I:Inv X pins σ H s)(hl:σ'.length=σ.length)(w:∀(i:Nat) v,σ'[i]?=some (some v)->σ[i]?=some (some v)):Inv X pins σ' H s:=
 ⟨I.ok,I.os,I.bare,I.base,let ⟨m,hn,hl'⟩:=I.loc;⟨m,hn,fun i x v e1 e2 e3=>hl' i x v e1 (w i v e2) e3⟩,I.cell,I.free,I.qk,I.pin,I.hok,hl.trans I.len⟩
theorem Inv.MP{S7:List (Addr×Obj)}(I:Inv X pins σ H s)(h:∀p∈S7,s.heap.get? p.1=some p.2/\H p.1=none/\p.1≠X.env.locals/\p.1∉X.fs/\ ∀v,p.2.data≠ .cell v):Inv X S7 σ H s:=
 ⟨I.ok,I.os,I.bare,I.base,I.loc,I.cell,I.free,I.qk,fun p hp=>(bh.mp hp).elim (fun z=>I.pin p (List.mem_append_left _ z)) (h p),I.hok,I.len⟩
theorem Ei{N:List Str}(hN:N.Nodup){i j:Nat}{x:Str}(a:N[i]?=some x)(b:N[j]?=some x):i=j:=by
 obtain⟨h1,e1⟩:=af.mp a
 obtain⟨h2,e2⟩:=af.mp b
 exact(List.getElem_inj hN).mp (e1.trans e2.symm)
theorem GJ{M:Model}{A:Around}{E:Value->Shared->Prop}{i:Nat}{x:Str}{v:V}{u:Value}{Q:Unit->Shared->Prop}(I:Inv X pins σ H s)(hN:X.N.Nodup)(hi:X.N[i]?=some x)(hx:Loc X.env.scope x)(r:RelV v u)
  (h:∀s',Inv X pins (σ.set i (some v)) H s'->(∃a,Heap.SameBut a s.heap s'.heap/\(a=X.env.locals∨X.env.cells.lookup x=some a))->Q () s')(hf:X.fn x=true∨X.env.scope.names.lookup x=some .local:=by first | exact .inl rfl | exact .inr rfl | assumption):wpAny M A (storeName X.env x u) Q E s:=by
 obtain⟨m,hn,hl⟩:=id I.loc
 have hcls:(X.env.scope.kind== .class || (X.env.scope.kind== .module&&X.env.locals != X.env.globals))=false:=by rw[I.ok.kind];rfl
 have hiσ:i<σ.length:=by rw[I.len];exact(af.mp hi).1
 have NZ:=I.NZ
 have tracked:∀{a:Addr}{h':Heap},(∃o,s.heap.get? a=some o/\H a=none)->Heap.SameBut a s.heap h'->vq X.prog X.w H h':=fun{a h'} ha hs b ob e=>by
  obtain⟨_,_,hfree⟩:=ha
  refine(I.hok b ob e).stay (fun c w' hc q=>(hs.2 c ?_).trans q) (fun _ q=>q) fun _ _ q=>q
  rintro rfl
  rcases hc with rfl | hc
  ·rw[hfree]at e;cases e
  ·rw[hfree]at hc;cases hc
 rcases hx with hk | hk
 ·refine wpAny_storeName_local hk hn (fun h' hn' hs=>?_) hcls
  obtain⟨oL,_,_,RJ,_⟩:=id hn
  refine h _ ⟨I.ok,I.os,I.bare,⟨fun b o e n hb hx=>?_,fun b o e n hb hx=>?_,I.base.free,fun b o e hx=>?_,I.base.tups,I.base.Eh,I.base.HW⟩,⟨_,hn',fun j y v' e1 e2 e3=>?_⟩,fun y c e=>?_,I.free,I.qk,fun p hp=>?_,tracked ⟨oL,RJ,I.free⟩ hs,by simpa using I.len⟩ ⟨_,hs,.inl rfl⟩
  ·exact(hs.2 b (aT (aM (aC e) I.ok.above))).trans (I.base.keep b o e n hb hx)
  ·obtain⟨sl,e1⟩:=I.base.slot b o e n hb hx
   exact⟨sl,(hs.2 b (aT (aM (aC e) I.ok.above))).trans e1⟩
  ·obtain⟨o',e1⟩:=I.base.there b o e hx
   exact⟨o',(hs.2 b (aT (aM (aC e) I.ok.above))).trans e1⟩
  ·by_cases hj:j=i
   ·subst hj
    rw[hi]at e1;cases e1
    rw[List.getElem?_set_self hiσ]at e2
    cases e2
    exact⟨u,r,.inl ⟨hk,by simp⟩⟩
   ·rw[List.getElem?_set_ne (Ne.symm hj)]at e2
    obtain⟨u',r',q⟩:=hl j y v' e1 e2 e3
    refine⟨u',r',?_⟩
    rcases q with ⟨k,e⟩ | ⟨k,c,e,z⟩
    ·refine .inl ⟨k,?_⟩
     have:y≠x:=fun e=>hj (Ei hN e1 (e▸hi))
     simp[this,e]
    ·exact .inr ⟨k,c,e,z.sameBut hs (NZ y c e)⟩
  ·obtain⟨w',z⟩:=I.cell y c e
   exact⟨w',z.sameBut hs (NZ y c e)⟩
  ·obtain⟨e,n,ne,nf,d⟩:=I.pin p hp
   exact⟨(hs.2 p.1 ne).trans e,n,ne,nf,d⟩
 ·have hfn:X.fn x=true:=by
   rcases hf with z | z
   ·exact z
   ·rw[z]at hk;cases hk
  obtain⟨c,hc⟩:=I.ok.has x (.inl hk)
  obtain⟨w',z⟩:=I.cell x c hc
  refine wpAny_storeName_cell I.ok.kind hk hc z (fun h' hc' hs=>?_)
  obtain⟨oc,hoc,XR⟩:=id z
  refine h { s with heap:=h' } ⟨I.ok,I.os,I.bare,⟨fun b o e n hb hx=>?_,fun b o e n hb hx=>?_,I.base.free,fun b o e hx=>?_,I.base.tups,I.base.Eh,I.base.HW⟩,⟨m,hn.sameBut hs (Ne.symm (NZ x c hc)),fun j y v' e1 e2 e3=>?_⟩,fun y c' e=>?_,I.free,I.qk,fun p hp=>?_,tracked ⟨oc,hoc,I.qk x c hc⟩ hs,by simpa using I.len⟩ ⟨c,hs,.inr hc⟩
  ·exact(hs.2 b (aT (aM (aC e) (I.ok.VF x c hfn hc)))).trans (I.base.keep b o e n hb hx)
  ·obtain⟨sl,e1⟩:=I.base.slot b o e n hb hx
   exact⟨sl,(hs.2 b (aT (aM (aC e) (I.ok.VF x c hfn hc)))).trans e1⟩
  ·obtain⟨o',e1⟩:=I.base.there b o e hx
   exact⟨o',(hs.2 b (aT (aM (aC e) (I.ok.VF x c hfn hc)))).trans e1⟩
  ·by_cases hj:j=i
   ·subst hj
    rw[hi]at e1;cases e1
    rw[List.getElem?_set_self hiσ]at e2
    cases e2
    exact⟨u,r,.inr ⟨.inl hk,c,hc,hc'⟩⟩
   ·rw[List.getElem?_set_ne (Ne.symm hj)]at e2
    obtain⟨u',r',q⟩:=hl j y v' e1 e2 e3
    refine⟨u',r',?_⟩
    rcases q with q | ⟨k,c',e,z'⟩
    ·exact .inl q
    ·refine .inr ⟨k,c',e,z'.sameBut hs ?_⟩
     rintro rfl
     exact hj (Ei hN e1 (I.ok.inj _ _ _ e hc▸hi))
  ·by_cases hcc:c'=c
   ·subst hcc;exact⟨_,hc'⟩
   ·obtain⟨w2,z2⟩:=I.cell y c' e
    exact⟨w2,z2.sameBut hs hcc⟩
  ·obtain⟨e,n,ne,nf,d⟩:=I.pin p hp
   refine⟨(hs.2 p.1 ?_).trans e,n,ne,nf,d⟩
   intro q
   rw[q,hoc]at e
   have q':oc=p.2:=az e
   exact d w' (by rw[<-q'];exact XR)
theorem Jv{M:Model}{A:Around}{E:Value->Shared->Prop}{i:Nat}{x:Str}{v:V}{u:Value}{Q:Unit->Shared->Prop}(I:Inv X pins σ H s)(hN:X.N.Nodup)(hi:X.N[i]?=some x)(hx:Loc X.env.scope x)(r:RelV v u)
  (h:∀s',Inv X pins (σ.set i (some v)) H s'->Q () s')(hf:X.fn x=true∨X.env.scope.names.lookup x=some .local:=by first | exact .inl rfl | exact .inr rfl | assumption):wpAny M A (storeName X.env x u) Q E s:=
 GJ I hN hi hx r (fun s' I' _=>h s' I') hf
theorem Inv.VH{s':Shared}{ch:List Addr}(I:Inv X pins σ H s)(ho:s'.os=s.os)(u:Un (frs X.stack) ch H H' s.heap s'.heap)(hok:vq X.prog X.w H' s'.heap)(hg:AllBare s'.gens)
  (hch:∀b∈ch,(b∈X.ex∨X.GI.heap.objs.size≤b)/\b≠X.env.locals/\(∀x c,X.env.cells.lookup x=some c->c≠b)/\ ∀p∈X.pn++pins,p.1≠b):Inv X pins σ H' s':=by
 obtain⟨h',g',d',t',o'⟩:=s'
 have e:o'=s.os:=ho
 subst e
 exact I.call (g':=g') (t':=t') (d':=d') u hok hg hch
end
abbrev XK:=Value->Option Addr->Hp->Prop
abbrev St:=List (Option V)
abbrev VK:=V->Hp->Prop
abbrev TE:=St->Hp->VK->Prop
abbrev TT:=St->Hp->(Bool->Hp->Prop)->Prop
abbrev TA:=St->Hp->(List V->Hp->Prop)->Prop
structure Ends where
 nx:St->Hp->Prop
 rt:VK
 bk:St->Hp->Prop:=fun _ _=>False
 ct:St->Hp->Prop:=fun _ _=>False
abbrev TS:=Ends->St->Hp->Prop
def EP(X:Cx)(pins:List (Addr×Obj))(σ:St)(Q:VK)(u:Value)(s':Shared):Prop:=∃v H',Inv X pins σ H' s'/\RelV v u/\Q v H'
def TP(X:Cx)(pins:List (Addr×Obj))(σ:St)(Q:Bool->Hp->Prop)(b:Bool)(s':Shared):Prop:=∃H',Inv X pins σ H' s'/\Q b H'
def AP(X:Cx)(pins:List (Addr×Obj))(σ:St)(Q:List V->Hp->Prop)(us:List Value)(s':Shared):Prop:=∃vs H',Inv X pins σ H' s'/\Vals vs us/\Q vs H'
def SP(X:Cx)(pins:List (Addr×Obj))(D:Ends)(f:Flow)(s':Shared):Prop:=
 match f with
 |.next=>∃σ' H',Inv X pins σ' H' s'/\D.nx σ' H'
 |.brk=>∃σ' H',Inv X pins σ' H' s'/\D.bk σ' H'
 |.cont=>∃σ' H',Inv X pins σ' H' s'/\D.ct σ' H'
 |.ret u=>∃v σ' H',Inv X pins σ' H' s'/\RelV v u/\D.rt v H'
def PE(X:Cx)(e:Expr)(t:TE):Prop:=
 ∀(pins:List (Addr×Obj))(s:Shared)(σ:St)(H:Hp)(Q:VK),Inv X pins σ H s->t σ H Q->wpAny (model X.prog X.w) X.A (eval e X.env) (EP X pins σ Q) X.xe s
def PT(X:Cx)(e:Expr)(t:TT):Prop:=
 ∀(pins:List (Addr×Obj))(s:Shared)(σ:St)(H:Hp)(Q:Bool->Hp->Prop),Inv X pins σ H s->t σ H Q->wpAny (model X.prog X.w) X.A (isTrue e X.env (eval e X.env)) (TP X pins σ Q) X.xe s
def PW(X:Cx)(e:Expr)(t:TT):Prop:=
 ∀(whole:Sem Value)(pins:List (Addr×Obj))(s:Shared)(σ:St)(H:Hp)(Q:Bool->Hp->Prop),Inv X pins σ H s->t σ H Q->wpAny (model X.prog X.w) X.A (isTrue e X.env whole) (TP X pins σ Q) X.xe s
theorem PW.pt{X:Cx}{e:Expr}{t:TT}(h:PW X e t):PT X e t:=h _
def PA(X:Cx)(es:List Expr)(t:TA):Prop:=
 ∀(pos:Pos)(pins:List (Addr×Obj))(s:Shared)(σ:St)(H:Hp)(Q:List V->Hp->Prop),Inv X pins σ H s->t σ H Q->wpAny (model X.prog X.w) X.A (spliced (backTo pos (starEach es X.env))) (AP X pins σ Q) X.xe s
def PS(X:Cx)(st:Stmt)(t:TS):Prop:=
 ∀(pins:List (Addr×Obj))(s:Shared)(σ:St)(H:Hp)(D:Ends),Inv X pins σ H s->t D σ H->wpAny (model X.prog X.w) X.A (exec st X.env) (SP X pins D) X.xe s
def Lq(X:Cx)(st:List Stmt)(t:TS):Prop:=
 ∀(pins:List (Addr×Obj))(s:Shared)(σ:St)(H:Hp)(D:Ends),Inv X pins σ H s->t D σ H->wpAny (model X.prog X.w) X.A (execs st X.env) (SP X pins D) X.xe s
theorem ig{α:Type}{t:Sem α}{Q Q':α->Shared->Prop}{M:Model}{A:Around}{E:Value->Shared->Prop}{s:Shared}(h:wpAny M A t Q E s)(hQ:∀a s,Q a s->Q' a s):wpAny M A t Q' E s:=wpAny_mono h hQ fun _ _ x=>x
end L2
namespace L2
open PySem PySem.Spec PyProof.Rows
section
variable {X:Cx}
def Uc(i:Nat):TE:=fun σ H Q=>∃v,σ[i]?=some (some v)/\Q v H
def tC(v:V):TE:=fun _ H Q=>Q v H
theorem Ud{i:Nat}{x:Str}{pos:Pos}(hN:X.N[i]?=some x)(hv:VE X.env.scope x)(hd:(x==("__debug__":Str))=false:=by decide)(hcd:(x==("__classdict__":Str))=false:=by decide):PE X (.Name x pos) (Uc i):=by
 intro pins s σ H Q I h
 obtain⟨v,e,h⟩:=h
 obtain⟨m,hn,hl⟩:=I.loc
 obtain⟨u,r,l⟩:=hl i x v hN e hv
 have fin:EP X pins σ Q u s:=⟨v,H,I,r,h⟩
 rcases l with ⟨hk,hm⟩ | ⟨hk,c,hc,hcell⟩
 ·exact wpAny_Name (wpAny_loadName_local I.ok.kind hk hn hm fin) hd
 ·rcases hk with hk | hk
  ·exact wpAny_Name (wpAny_loadName_cell I.ok.kind hk hc hcell fin) hd
  ·exact wpAny_Name (wpAny_loadName_free I.ok.kind hk hc hcell fin hcd) hd
theorem cN{i j pos}:PE X (.Constant (.int i) j pos) (tC (.int i)):=fun _ _ _ H _ I h=>wpAny_Constant_int ⟨.int i,H,I.tok _,⟨_,rfl⟩,h⟩
theorem S8{b j pos}:PE X (.Constant (.bool b) j pos) (tC (.bl b)):=fun _ _ _ H _ I h=>Constant_bool ⟨.bl b,H,I,rfl,h⟩
theorem fK{j pos}:PE X (.Constant .none j pos) (tC .f6):=fun _ _ _ H _ I h=>Constant_none ⟨.f6,H,I,rfl,h⟩
def Gl(X:Cx)(x:Str):Prop:=X.env.kindOf x=some .globalImplicit
theorem AF{E:Value->Shared->Prop}{pins:List (Addr×Obj)}{s:Shared}{σ:St}{H:Hp}{x:Str}{u:Value}{pos:Pos}{Q:Value->Shared->Prop}(I:Inv X pins σ H s)(hg:Gl X x)(hm:X.mg x=some u)(h:Q u s)
  (hd:(x==("__debug__":Str))=false:=by decide):wpAny (model X.prog X.w) X.A (eval (.Name x pos) X.env) Q E s:=
 Calls.Name_function_global I.ok.kind hg (Calls.loadGlobal_global (by rw[I.ok.glob];exact I.mod.glob.keeps I.bk) hm h) hd
theorem qO{E:Value->Shared->Prop}{pins:List (Addr×Obj)}{s:Shared}{σ:St}{H:Hp}{x:Str}{u:Value}{pos:Pos}{Q:Value->Shared->Prop}(I:Inv X pins σ H s)(hg:Gl X x)(hm:X.mg x=none)(hv:bootBuiltins x=some u)(h:Q u s)
  (hn:x≠"__name__":=by decide)(hd:(x==("__debug__":Str))=false:=by decide):wpAny (model X.prog X.w) X.A (eval (.Name x pos) X.env) Q E s:=by
 obtain⟨mb,h1,h2⟩:=I.mod.blt
 exact Calls.Name_function_global I.ok.kind hg (Calls.loadGlobal_builtin (by rw[I.ok.glob];exact I.mod.glob.keeps I.bk) hm (by rw[I.ok.blt];exact h1.keeps I.bk) ((h2 x hn).trans hv) h) hd
theorem RK{x:Str}{v:V}{u:Value}{pos:Pos}(hg:Gl X x)(hm:X.mg x=some u)(r:RelV v u)(hd:(x==("__debug__":Str))=false:=by decide):PE X (.Name x pos) (tC v):=
 fun _ _ _ H _ I h=>AF I hg hm ⟨v,H,I,r,h⟩ hd
variable {a b:Expr} {ta tb:TE} {pos:Pos}
def PC(X:Cx)(op:CmpOp)(a b:Expr)(t:TE):Prop:=
 ∀(pins:List (Addr×Obj))(s:Shared)(σ:St)(H:Hp)(Q:VK),Inv X pins σ H s->t σ H Q->
  wpAny (model X.prog X.w) X.A (eval a X.env) (fun v s₁=>wpAny (model X.prog X.w) X.A (eval b X.env) (fun u s₂=>wpAny (model X.prog X.w) X.A (compareOp op v u) (EP X pins σ Q) X.xe s₂) X.xe s₁) X.xe s
def tB(t:TE):TT:=fun σ H Q=>t σ H fun x H1=>∃c,x= .bl c/\Q c H1
theorem O8{op:CmpOp}{t:TE}(h:PC X op a b t)(h1:behindInMarks op b=false:=by first | exact VI _ (by decide) (by decide) | rfl):PT X (.Compare a [op] [b] pos) (tB t):=by
 intro pins s σ H Q I hw
 refine wpAny_isTrue_Compare1 (ig (h pins s σ H _ I hw) fun v s1 h1=>ig h1 fun u s2 h2=>ig h2 fun c s3 ⟨x,H1,I1,r1,q1⟩=>?_) h1
 obtain⟨d,rfl,q⟩:=q1
 cases r1
 exact bE ⟨H1,I1,q⟩
theorem gP{e:Expr}{t:TE}(h:PE X e t)(he:∀whole,isTrue e X.env whole=(do let v <-whole;standAt e.pos;holding [v] (truthy v)):=by intro _;rfl):PT X e (tB t):=by
 intro pins s σ H Q I hw
 refine isTrue_plain (ig (h pins s σ H _ I hw) fun v s1 ⟨x,H1,I1,r1,q1⟩=>?_) (he _)
 obtain⟨d,rfl,q⟩:=q1
 cases r1
 exact bE ⟨H1,I1,q⟩
variable {tA Xf:TT} {rest:List Expr}
def XS(t u:TT):TT:=fun σ H Q=>t σ H fun c H1=>if c=true then u σ H1 Q else Q false H1
def tOr(t u:TT):TT:=fun σ H Q=>t σ H fun c H1=>if c=true then Q true H1 else u σ H1 Q
def XT(t:TT):TT:=fun σ H Q=>t σ H fun c H1=>Q (!c) H1
theorem HY(ha:PT X a tA):PW X (.BoolOp .And [a] pos) tA:=by
 intro wh pins s σ H Q I h
 refine isTrue_and (ig (ha pins s σ H Q I h) fun c s1 e=>?_)
 cases c with
 |true=>exact isTrue_and_nil e
 |false=>exact e
theorem BX(ha:PT X a tA):PW X (.BoolOp .Or [a] pos) tA:=by
 intro wh pins s σ H Q I h
 refine isTrue_or (ig (ha pins s σ H Q I h) fun c s1 e=>?_)
 cases c with
 |false=>exact isTrue_or_nil e
 |true=>exact e
theorem Lr(ha:PT X a tA)(hb:PW X (.BoolOp .And (b::rest) pos) Xf):PW X (.BoolOp .And (a::b::rest) pos) (XS tA Xf):=by
 intro wh pins s σ H Q I h
 refine isTrue_and (ig (ha pins s σ H _ I h) fun c s1 ⟨H1,I1,q1⟩=>?_)
 cases c with
 |true=>exact hb wh pins s1 σ H1 Q I1 q1
 |false=>exact⟨H1,I1,q1⟩
theorem GK(ha:PT X a tA)(hb:PW X (.BoolOp .Or (b::rest) pos) Xf):PW X (.BoolOp .Or (a::b::rest) pos) (tOr tA Xf):=by
 intro wh pins s σ H Q I h
 refine isTrue_or (ig (ha pins s σ H _ I h) fun c s1 ⟨H1,I1,q1⟩=>?_)
 cases c with
 |true=>exact⟨H1,I1,q1⟩
 |false=>exact hb wh pins s1 σ H1 Q I1 q1
theorem gQ(ha:PT X a tA):PT X (.UnaryOp .Not a pos) (XT tA):=by
 intro pins s σ H Q I h
 exact isTrue_not (ha pins s σ H (fun c H1=>Q (!c) H1) I h)
def VJ(ta tb:TE):TE:=fun σ H Q=>ta σ H fun x H1=>∃c,x= .bl c/\if c=true then tb σ H1 Q else Q (.bl false) H1
theorem HZ{op}{t:TE}(h:PE X a t):PE X (.BoolOp op [a] pos) t:=fun pins s σ H Q I hw=>BoolOp_one (h pins s σ H Q I hw)
theorem Ej(ha:PE X a ta)(hb:PE X (.BoolOp .And (b::rest) pos) tb):PE X (.BoolOp .And (a::b::rest) pos) (VJ ta tb):=by
 intro pins s σ H Q I h
 refine BoolOp_and (ig (ha pins s σ H _ I h) fun v s1 ⟨x,H1,I1,r1,q1⟩=>?_)
 obtain⟨c,rfl,q1⟩:=q1
 cases r1
 refine bE ?_
 cases c with
 |true=>exact hb pins s1 σ H1 Q I1 q1
 |false=>exact⟨.bl false,H1,I1,rfl,q1⟩
def tIf(t:TT)(ta tb:TE):TE:=fun σ H Q=>t σ H fun c H1=>if c=true then ta σ H1 Q else tb σ H1 Q
theorem O9{c:Expr}(hc:PT X c tA)(ha:PE X a ta)(hb:PE X b tb):PE X (.IfExp c a b pos) (tIf tA ta tb):=by
 intro pins s σ H Q I h
 refine wpAny_IfExp (ig (hc pins s σ H _ I h) fun d s1 ⟨H1,I1,q1⟩=>?_)
 cases d with
 |true=>exact ha pins s1 σ H1 Q I1 q1
 |false=>exact hb pins s1 σ H1 Q I1 q1
end
end L2
namespace L2
open PySem PySem.Spec PyProof.Rows
def dG(K:PySem.W.Frag)(H:Hp)(a:Addr)(xs:List V):Prop:=
 Rd H a (.lst xs)∨
  ∃(o:Obj)(its:Array Value)(n:Nat),K.lookup a=some o/\o.cls= .type "list"/\o.dict=none/\o.data= .seq its n/\its.size≤sizeLine/\Vals xs its.toList
def Jr(K:PySem.W.Frag)(H:Hp)(a:Addr)(xs:List V):Prop:=
 Rd H a (.tup xs)∨
  ∃(o:Obj)(its:Array Value)(n:Nat),K.lookup a=some o/\o.cls= .type "tuple"/\o.data= .seq its n/\its.size≤sizeLine/\Vals xs its.toList
def XU:Value->Option V
 |.none=>some .f6
 |.bool b=>some (.bl b)
 |.int i _=>some (.int i)
 |.str x _=>some (.str x)
 |.bytes b _=>some (.Ln b)
 |.float b _=>some (.Xb b)
 |.ref a=>some (.ref a)
 |.type n=>some (.ty n)
 |_=>none
theorem RelV.abs{x:V}{u:Value}(r:RelV x u):XU u=some x:=by
 cases x with
 |f6=>cases r;rfl
 |bl _=>cases r;rfl
 |int _=>obtain⟨t,rfl⟩:=r;rfl
 |str _=>obtain⟨t,rfl⟩:=r;rfl
 |Ln _=>obtain⟨t,rfl⟩:=r;rfl
 |Xb _=>obtain⟨t,rfl⟩:=r;rfl
 |ref _=>cases r;rfl
 |ty _=>cases r;rfl
theorem RelV.inj{x y:V}{u:Value}(r:RelV x u)(q:RelV y u):x=y:=az (r.abs.symm.trans q.abs)
theorem Vals.inj:∀{xs ys:List V}{us:List Value},Vals xs us->Vals ys us->xs=ys
 |_,_,_,.nil,.nil=>rfl
 |_,_,_,.cons r t,.cons r' t'=>by rw[r.inj r',Vals.inj t t']
section
variable {X:Cx} {pins:List (Addr×Obj)} {σ:St} {H:Hp} {s:Shared} {a:Addr} {xs ys:List V}
theorem dG.of{K:PySem.W.Frag}(h:H a=some (.lst xs)):dG K H a xs:=.inl (.inl h)
theorem Jr.of{K:PySem.W.Frag}(h:H a=some (.tup xs)):Jr K H a xs:=.inl (.inl h)
theorem Inv.list(I:Inv X pins σ H s)(h:dG X.K H a xs):∃its:List Value,Vals xs its/\PlainL s.heap a its.toArray/\xs.length≤sizeLine:=by
 rcases h with h | ⟨o,its,n,hk,hc,hd,hs,hz,r⟩
 ·obtain⟨z,its,n,r,e⟩:=h.ok I.hok
  exact⟨its,r,⟨_,n,e,rfl,rfl,rfl⟩,z⟩
 ·refine⟨its.toList,r,⟨o,n,I.MM a o hk,hc,hd,by simpa using hs⟩,?_⟩
  have e:=r.length
  simp only[aO]at e
  omega
theorem Inv.tuple(I:Inv X pins σ H s)(h:Jr X.K H a xs):∃its:List Value,Vals xs its/\IsTup s.heap a its.toArray/\xs.length≤sizeLine:=by
 rcases h with h | ⟨o,its,n,hk,hc,hs,hz,r⟩
 ·obtain⟨z,its,r,p⟩:=h.ok I.hok
  exact⟨its,r,p,z⟩
 ·refine⟨its.toList,r,⟨o,I.MM a o hk,hc,n,by simpa using hs⟩,?_⟩
  have e:=r.length
  simp only[aO]at e
  omega
theorem Inv.AG(I:Inv X pins σ H s)(h:dG X.K H a xs)(h':dG X.K H a ys):xs=ys:=by
 obtain⟨its,r,⟨o,n,e,_,_,d⟩,_⟩:=I.list h
 obtain⟨its',r',⟨o',n',e',_,_,d'⟩,_⟩:=I.list h'
 rw[e]at e';cases e'
 rw[d]at d'
 injection d' with d1 _
 have:its=its':=by simpa using congrArg Array.toList d1
 subst this
 exact r.inj r'
end
abbrev Cx.Gi(X:Cx)(E:Value->Shared->Prop):Cx:={ X with xe:=E }
abbrev Cx.Vl(X:Cx):Cx:=X.Gi fun _ _=>False
theorem Cx.Ok.Gi{X:Cx}(ok:X.Ok)(E:Value->Shared->Prop):(X.Gi E).Ok:=
 ⟨ok.mod,ok.kind,ok.glob,ok.blt,ok.above,ok.inj,ok.has,ok.VF,ok.hd,ok.frames,ok.stk,ok.Xd,ok.bs,ok.RI,ok.O6,ok.O7,ok.Dy,ok.Ub⟩
theorem Cx.Ok.vv{X:Cx}{E:Value->Shared->Prop}(ok:(X.Gi E).Ok):X.Ok:=
 ⟨ok.mod,ok.kind,ok.glob,ok.blt,ok.above,ok.inj,ok.has,ok.VF,ok.hd,ok.frames,ok.stk,ok.Xd,ok.bs,ok.RI,ok.O6,ok.O7,ok.Dy,ok.Ub⟩
section
variable {X:Cx} {pins:List (Addr×Obj)} {σ:St} {H:Hp} {s:Shared} {E:Value->Shared->Prop}
theorem Inv.Gi(I:Inv X pins σ H s)(E:Value->Shared->Prop):Inv (X.Gi E) pins σ H s:=⟨I.ok.Gi E,I.os,I.bare,I.base,I.loc,I.cell,I.free,I.qk,I.pin,I.hok,I.len⟩
theorem Inv.vv(I:Inv (X.Gi E) pins σ H s):Inv X pins σ H s:=⟨I.ok.vv,I.os,I.bare,I.base,I.loc,I.cell,I.free,I.qk,I.pin,I.hok,I.len⟩
theorem SP.vv{D:Ends}{f:Flow}{s':Shared}(h:SP (X.Gi E) pins D f s'):SP X pins D f s':=by
 cases f with
 |next=>obtain⟨σ',H',I,q⟩:=h;exact⟨σ',H',I.vv,q⟩
 |brk=>obtain⟨σ',H',I,q⟩:=h;exact⟨σ',H',I.vv,q⟩
 |cont=>obtain⟨σ',H',I,q⟩:=h;exact⟨σ',H',I.vv,q⟩
 |ret u=>obtain⟨v,σ',H',I,r,q⟩:=h;exact⟨v,σ',H',I.vv,r,q⟩
theorem Lq.Vl{st:List Stmt}{t:TS}(h:Lq X.Vl st t):Lq X st t:=fun pins s σ H D I hw=>
 wpAny_mono (h pins s σ H D (I.Gi _) hw) (fun _ _ q=>q.vv) fun _ _ z=>False.elim z
end
section
variable {X:Cx} {st:Stmt} {rest:List Stmt} {t u:TS} {e:Expr} {te:TE} {pos:Pos}
def VL:TS:=fun D σ H=>D.nx σ H
def XW(t u:TS):TS:=fun D σ H=>t { D with nx:=u D } σ H
theorem cY:Lq X [] VL:=fun _ _ σ H _ I h=>wpAny_execs_nil ⟨σ,H,I,h⟩
theorem cg(h1:PS X st t)(h2:Lq X rest u):Lq X (st::rest) (XW t u):=by
 intro pins s σ H D I h
 refine wpAny_execs_cons (ig (h1 pins s σ H { D with nx:=u D } I h) fun f s1 q=>?_)
 cases f with
 |next=>
  obtain⟨σ',H',I',q⟩:=q
  exact h2 pins s1 σ' H' D I' q
 |ret v=>exact q
 |brk=>exact q
 |cont=>exact q
theorem cE(h1:PS X st t):Lq X [st] t:=by
 intro pins s σ H D I h
 refine wpAny_execs_cons (ig (h1 pins s σ H D I h) fun f s1 q=>?_)
 cases f with
 |next=>exact wpAny_execs_nil q
 |ret v=>exact q
 |brk=>exact q
 |cont=>exact q
theorem Inv.quiet{pins:List (Addr×Obj)}{σ:St}{H:Hp}{s:Shared}(I:Inv X pins σ H s):interactive X.env=false:=by simp[interactive,I.ok.kind]
def VM(te:TE):TS:=fun D σ H=>te σ H fun _ H1=>D.nx σ H1
theorem iL(he:PE X e te)(hs:swapsWith e none pos.line X.env=pure false:=by rfl):PS X (.Expr e pos) (VM te):=by
 intro pins s σ H D I h
 exact wpAny_Expr_any (ig (he pins s σ H _ I h) fun v s1 ⟨x,H1,I1,r1,q1⟩=>⟨σ,H1,I1,q1⟩) I.quiet hs
def XX(te:TE):TS:=fun D σ H=>te σ H D.rt
theorem cM(he:PE X e te):PS X (.Return (some e) pos) (XX te):=by
 intro pins s σ H D I h
 exact wpAny_Return_some (ig (he pins s σ H _ I h) fun v s1 ⟨x,H1,I1,r1,q1⟩=>⟨x,σ,H1,I1,r1,q1⟩)
def XY(c:TT)(t u:TS):TS:=fun D σ H=>c σ H fun b H1=>if b=true then t D σ H1 else u D σ H1
theorem dU{c:Expr}{a b:List Stmt}{tc:TT}(hc:PT X c tc)(ha:Lq X a t)(hb:Lq X b u):PS X (.If c a b pos) (XY tc t u):=by
 intro pins s σ H D I h
 refine wpAny_If (ig (hc pins s σ H _ I h) fun d s1 ⟨H1,I1,q1⟩=>?_)
 cases d with
 |true=>exact ha pins s1 σ H1 D I1 q1
 |false=>exact hb pins s1 σ H1 D I1 q1
end
abbrev TG:=V->St->Hp->(St->Hp->Prop)->Prop
abbrev Ue:=List V->St->Hp->(St->Hp->Prop)->Prop
def PG(X:Cx)(target:Expr)(t:TG):Prop:=
 ∀(pins:List (Addr×Obj))(s:Shared)(σ:St)(H:Hp)(v:V)(u:Value)(Q:St->Hp->Prop),Inv X pins σ H s->RelV v u->t v σ H Q->
  wpAny (model X.prog X.w) X.A (assign target X.env u) (fun _ s'=>∃σ' H',Inv X pins σ' H' s'/\Q σ' H') X.xe s
def Xg(X:Cx)(ts:List Expr)(t:Ue):Prop:=
 ∀(pins:List (Addr×Obj))(s:Shared)(σ:St)(H:Hp)(vs:List V)(us:List Value)(Q:St->Hp->Prop),Inv X pins σ H s->Vals vs us->t vs σ H Q->
  wpAny (model X.prog X.w) X.A (assignInOrder ((assignEach ts X.env).map (·.2)) us) (fun _ s'=>∃σ' H',Inv X pins σ' H' s'/\Q σ' H') X.xe s
section
variable {X:Cx} {pos:Pos}
def GL(i:Nat):TG:=fun v σ H Q=>Q (σ.set i (some v)) H
theorem RL{i:Nat}{x:Str}(hN:X.N.Nodup)(hi:X.N[i]?=some x)(hx:Loc X.env.scope x)(hf:X.fn x=true∨X.env.scope.names.lookup x=some .local:=by first | exact .inl rfl | exact .inr rfl | assumption):PG X (.Name x pos) (GL i):=by
 intro pins s σ H v u Q I r h
 exact wpAny_assign_Name (Jv I hN hi hx r (fun s' I'=>⟨_,H,I',h⟩) hf)
def XZ:Ue:=fun vs σ H Q=>vs=[]/\Q σ H
def VN(t:TG)(u:Ue):Ue:=fun vs σ H Q=>∃v r,vs=v::r/\t v σ H fun σ' H'=>u r σ' H' Q
theorem tM:Xg X [] XZ:=by
 intro pins s σ H vs us Q I r h
 obtain⟨e,h⟩:=h
 subst e
 cases r
 exact assignInOrder_nil ⟨σ,H,I,h⟩
theorem iD{e:Expr}{es:List Expr}{t:TG}{u:Ue}(h1:PG X e t)(h2:Xg X es u)
  (hs:(assignEach (e::es) X.env).map (·.2)=assign e X.env::(assignEach es X.env).map (·.2):=by rfl):Xg X (e::es) (VN t u):=by
 intro pins s σ H vs us Q I r h
 obtain⟨v,vr,e1,h⟩:=h
 subst e1
 cases r with
 |cons r rr=>
  rw[hs]
  refine assignInOrder_cons (ig (h1 pins s σ H _ _ _ I r h) fun _ s1 ⟨σ1,H1,I1,q1⟩=>?_)
  exact h2 pins s1 σ1 H1 _ _ Q I1 rr q1
def X0(K:PySem.W.Frag)(n:Nat)(t:Ue):TG:=fun v σ H Q=>∃a xs,v= .ref a/\Jr K H a xs/\xs.length=n/\t xs σ H Q
theorem zN{es:List Expr}{k:Nat}{t:Ue}{n:Nat}(hc:X.calm=true)(h:Xg X es t)
  (hn:(assignEach es X.env).length=n:=by rfl)(hst:(assignEach es X.env).findIdx? (·.1)=none:=by rfl):PG X (.Tuple es k pos) (X0 X.K n t):=by
 intro pins s σ H v u Q I r hw
 obtain⟨a,xs,e1,hq,hl,hw⟩:=hw
 subst e1
 cases r
 obtain⟨its,rv,ht,hz⟩:=I.tuple hq
 refine assign_Tuple_tuple (I.ok.hd hc) ht (by simp[hn,<-hl,rv.length]) hst fun h' hx=>?_
 have I1:Inv X pins σ H { s with heap:=h' }:=I.kept (t':=s.toks) fun b o e=>hx b o (aT (aC e)) e
 exact h pins _ σ H xs _ Q I1 (by simpa using rv) hw
def Ug(te:TE)(g:TG):TS:=fun D σ H=>te σ H fun x H1=>g x σ H1 D.nx
theorem tN{i:Nat}{x:Str}{e:Expr}{te:TE}{pos':Pos}(hN:X.N.Nodup)(hi:X.N[i]?=some x)(hx:Loc X.env.scope x)(he:PE X e te)(hs:swapsWith e (some (.Name x pos')) pos.line X.env=pure false:=by rfl)(hf:X.fn x=true∨X.env.scope.names.lookup x=some .local:=by first | exact .inl rfl | exact .inr rfl | assumption):
  PS X (.Assign [.Name x pos'] e pos) (Ug te (GL i)):=by
 intro pins s σ H D I h
 refine wpAny_Assign_Name (ig (he pins s σ H _ I h) fun v s1 ⟨y,H1,I1,r1,q1⟩=>?_) hs
 exact Jv I1 hN hi hx r1 (fun s2 I2=>⟨_,H1,I2,q1⟩) hf
end
section
variable {X:Cx} {pos:Pos}
def Pa(c:TT)(tb:TS):TS:=fun D σ H=>∃W:Nat->St->Hp->Prop,(∃m,W m σ H)/\ ∀m σ H,W m σ H->
 c σ H fun b H1=>if b=true then ∃N:St->Hp->Prop,(∀σ' H',N σ' H'-> ∃m',m'<m/\W m' σ' H')/\tb { D with nx:=N,ct:=N,bk:=D.nx } σ H1 else D.nx σ H1
theorem Ek{c:Expr}{body:List Stmt}{tc:TT}{tb:TS}(hp:PassesOwn (model X.prog X.w) X.A X.env X.xe)(hc:PT X c tc)(hb:Lq X body tb):PS X (.While c body [] pos) (Pa tc tb):=by
 intro pins s σ H D I h
 obtain⟨W,⟨m0,w0⟩,turn⟩:=h
 refine wpAny_While (codeAny_whileLoop (fun n s'=>∃σ' H',Inv X pins σ' H' s'/\W n σ' H') ?_ m0 ⟨σ,H,I,w0⟩)
 rintro n s1 ⟨σ1,H1,I1,w1⟩
 refine wpAny_passesOwn hp (ig (hc pins s1 σ1 H1 _ I1 (turn n σ1 H1 w1)) fun b s2 ⟨H2,I2,q2⟩=>?_)
 cases b with
 |true=>
  obtain⟨N,hN,q2⟩:=q2
  rw[bA rfl]
  refine wpAny_passesOwn hp (ig (hb pins s2 σ1 H2 _ I2 q2) fun f s3 q3=>?_)
  cases f with
  |next=>
   obtain⟨σ3,H3,I3,n3⟩:=q3
   obtain⟨m',hm,w3⟩:=hN σ3 H3 n3
   exact⟨m',hm,σ3,H3,I3,w3⟩
  |cont=>
   obtain⟨σ3,H3,I3,n3⟩:=q3
   obtain⟨m',hm,w3⟩:=hN σ3 H3 n3
   exact⟨m',hm,σ3,H3,I3,w3⟩
  |brk=>exact q3
  |ret v=>exact q3
 |false=>
  rw[bz aN]
  exact wpAny_execs_nil ⟨σ1,H2,I2,q2⟩
end
structure It where
 go:Nat->Hp->Prop
 RM:Nat->Hp->V->Hp->Prop
 stop:Nat->Hp->Prop
def Dz(X:Cx)(pins:List (Addr×Obj))(H:Hp)(b:Addr):Prop:=
 H b=none/\b≠X.env.locals/\b∉X.fs/\(b∈X.ex∨X.GI.heap.objs.size≤b)/\(∀x c,X.env.cells.lookup x=some c->c≠b)/\ ∀p∈X.pn++pins,p.1≠b
theorem Inv.N1{X:Cx}{pins:List (Addr×Obj)}{σ:St}{H H':Hp}{s:Shared}{b:Addr}(I:Inv X pins σ H s)(hb:s.heap.objs.size≤b)(hn:H' b=none):Dz X pins H' b:=by
 refine⟨hn,Nat.ne_of_gt (aM I.lt hb),I.XQ hb,.inr (aS I.sz hb),fun x c e z=>?_,fun p hp z=>?_⟩
 ·obtain⟨v,q⟩:=I.cell x c e
  exact absurd (aM q.lt (by rw[z];exact hb)) (bX _)
 ·exact absurd (aM (aC (I.pin p hp).1) (by rw[z];exact hb)) (bX _)
structure Turn(P:Program)(w:World)(K:PySem.W.Frag)(tg:Expr)(J:It)(fp:List Addr)(it:Addr)(tn:Nat->Heap->Prop):Prop where
 mem:it∈fp
 obj:∀i h,tn i h-> ∀b∈fp,∃o,h.get? b=some o/\ ∀v,o.data≠ .cell v
 keep:∀i h h',tn i h->(∀b∈fp,∀o,h.get? b=some o->h'.get? b=some o)->tn i h'
 item:∀(X:Cx),X.prog=P->X.w=w->X.K=K->X.calm=true-> ∀(i:Nat)(pins:List (Addr×Obj))(s:Shared)(σ:St)(H:Hp)(E:Value->Shared->Prop),Inv X pins σ H s->(∀b∈fp,Dz X pins H b)->tn i s.heap->J.go i H->
  wpAny (model P w) X.A (pyNext (.ref it)) (fun r s1=>∃u,r=some u/\
   wpAny (model P w) X.A (letOwnedTupleGo tg (.ref it) u) (fun _ s2=>∃x H',Inv X pins σ H' s2/\RelV x u/\J.RM i H x H'/\tn (i+1) s2.heap/\ ∀b∈fp,H' b=none) E s1) E s
 done:∀(X:Cx),X.prog=P->X.w=w->X.K=K->X.calm=true-> ∀(i:Nat)(pins:List (Addr×Obj))(s:Shared)(σ:St)(H:Hp)(E:Value->Shared->Prop),Inv X pins σ H s->(∀b∈fp,Dz X pins H b)->tn i s.heap->J.stop i H->
  wpAny (model P w) X.A (pyNext (.ref it)) (fun r s1=>r=none/\Inv X pins σ H s1) E s
 self:∀(A:Around)(i:Nat)(s:Shared)(Q:Value->Shared->Prop)(E:Value->Shared->Prop),tn i s.heap->Q (.ref it) s->wpAny (model P w) A (pyIter (.ref it)) Q E s
abbrev TI:=St->Hp->(It->Hp->Prop)->Prop
def X3(X:Cx)(pins:List (Addr×Obj))(σ:St)(tg:Expr)(R:It->Hp->Prop)(itv:Value)(s2:Shared):Prop:=
 ∃(it:Addr)(fp:List Addr)(tn:Nat->Heap->Prop)(J:It)(H':Hp),itv= .ref it/\Inv X pins σ H' s2/\Turn X.prog X.w X.K tg J fp it tn/\tn 0 s2.heap/\(∀b∈fp,Dz X pins H' b)/\R J H'
def PI(X:Cx)(tg iter:Expr)(wi:TI):Prop:=
 ∀(pins:List (Addr×Obj))(s:Shared)(σ:St)(H:Hp)(R:It->Hp->Prop),Inv X pins σ H s->wi σ H R->
  wpAny (model X.prog X.w) X.A (eval iter X.env) (fun v s1=>wpAny (model X.prog X.w) X.A (pyIter v) (X3 X pins σ tg R) X.xe s1) X.xe s
theorem MQ{M:Model}{A:Around}{E:Value->Shared->Prop}{s:Shared}{tg:Expr}{it:Addr}{u:Value}{o:Obj}{n:String}{vs:Array Value}{Q:Unit->Shared->Prop}(ho:s.heap.get? it=some o)(hc:o.cls= .type n)(hd:o.data= .fields vs)
    (hn:["enumerate","zip","dict_itemiterator","dict_reverseitemiterator","odict_iterator","itertools.zip_longest","itertools.pairwise"].contains n=false)(hQ:Q () s):wpAny M A (letOwnedTupleGo tg (.ref it) u) Q E s:=by
  unfold letOwnedTupleGo
  cases tg <;> first
    | exact aV hQ
    | (cases u <;> first
        | exact aV hQ
        | (refine aU (wpAny_load ho ?_)
           rw[hc,hd]
           show wpAny M A (if (["enumerate","zip","dict_itemiterator","dict_reverseitemiterator","odict_iterator","itertools.zip_longest","itertools.pairwise"].contains n&&vs[0]?==some (rawInt _))=true then _ else _) Q E s
           rw[bz (by intro h;rw[hn,Bool.false_and]at h;cases h)]
           exact aV hQ))
def S9(K:PySem.W.Frag)(a:Addr):It:=
 ⟨fun i H=>∃xs x,dG K H a xs/\xs[i]?=some x,fun i H x H'=>H'=H/\ ∀xs,dG K H a xs->xs[i]?=some x,fun i H=>∃xs,dG K H a xs/\xs.length≤i⟩
def Uh(lo:Int)(n:Nat):It:=⟨fun i _=>i<n,fun i H x H'=>H'=H/\x= .int (lo+i),fun i _=>n≤i⟩
theorem N2{P:Program}{w:World}{K:PySem.W.Frag}{tg:Expr}(a it:Addr):Turn P w K tg (S9 K a) [it] it (fun i h=>h.IsListIter it a i) where
 mem:=by simp
 obj:=fun i h st b hb=>by
  have e:b=it:=by simpa using hb
  subst e
  obtain⟨o,e,c,d⟩:=st
  exact⟨o,e,fun v z=>by rw[d]at z;cases z⟩
 keep:=fun i h h' st k=>st.at fun o e=>k it (by simp) o e
 item:=by
  intro X hP hw hK hc i pins s σ H E I hf st hg
  subst hP hw hK
  obtain⟨xs,x,hq,hx⟩:=hg
  obtain⟨its,rv,p,hz⟩:=I.list hq
  obtain⟨u,hu,ru⟩:=rv.get hx
  obtain⟨f0,f1,f2,f3,f4,f5⟩:=hf it (by simp)
  refine wpAny_pyNext_list_item st p.isList (x:=u) (by simpa using hu) fun h' st' sb=>?_
  have I1:Inv X pins σ H { s with heap:=h' }:=I.turned (t':=s.toks) (fun b o hb e=>(sb.2 b hb).trans e) f0 f1 f3 f4 f5
  obtain⟨o,e,c,d⟩:=id st'
  exact⟨u,rfl,MQ (s:={ s with heap:=h' }) e c d (by decide) ⟨x,H,I1,ru,⟨rfl,fun ys hy=>by rw[I.AG hy hq];exact hx⟩,st',fun b hb=>(hf b hb).1⟩⟩
 done:=by
  intro X hP hw hK hc i pins s σ H E I hf st hg
  subst hP hw hK
  obtain⟨xs,hq,hx⟩:=hg
  obtain⟨its,rv,p,hz⟩:=I.list hq
  obtain⟨f0,f1,f2,f3,f4,f5⟩:=hf it (by simp)
  have hl:=rv.length
  exact wpAny_pyNext_list_end (I.ok.hd hc) st p.isList (by simp;omega) fun h' eb=>⟨rfl,I.turned (t':=s.toks) (fun b o hb e=>eb b o hb e) f0 f1 f3 f4 f5⟩
 self:=fun _ _ _ _ _ st h=>wpAny_pyIter_listiter st h
theorem Ls{P:Program}{w:World}{K:PySem.W.Frag}{tg:Expr}(it:Addr)(lo:Int)(n:Nat):Turn P w K tg (Uh lo n) [it] it (fun i h=>IsRangeIter h it (lo+(i:Nat)*1) ((n:Int)-(i:Nat)) 1) where
 mem:=by simp
 obj:=fun i h st b hb=>by
  have e:b=it:=by simpa using hb
  subst e
  exact⟨_,st,fun v z=>by
   have z':Data.fields _=Data.cell v:=z
   cases z'⟩
 keep:=fun i h h' st k=>k it (by simp) _ st
 item:=by
  intro X hP hw hK hc i pins s σ H E I hf st hg
  subst hP hw hK
  obtain⟨f0,f1,f2,f3,f4,f5⟩:=hf it (by simp)
  have W:=Walks.range (prog:=X.prog) (w:=X.w) (I.ok.hd hc) it lo 1 n
  refine W.item i s _ _ hg st fun v h' tk hv st' kk=>?_
  obtain⟨t,rfl⟩:=hv
  have I1:Inv X pins σ H { s with heap:=h',toks:=tk }:=I.turned (fun b o hb e=>kk b o (by simpa using hb) e) f0 f1 f3 f4 f5
  refine⟨_,rfl,MQ (s:={ s with heap:=h',toks:=tk }) (n:="range_iterator") st' rfl rfl (by decide) ⟨.int (lo+i),H,I1,⟨t,?_⟩,⟨rfl,rfl⟩,st',fun b hb=>(hf b hb).1⟩⟩
  rw[Int.mul_one]
 done:=by
  intro X hP hw hK hc i pins s σ H E I hf st hg
  subst hP hw hK
  obtain⟨f0,f1,f2,f3,f4,f5⟩:=hf it (by simp)
  exact wpAny_pyNext_range_end (I.ok.hd hc) st (by have:n≤i:=hg;omega) fun h' eb=>⟨rfl,I.turned (t':=s.toks) (fun b o hb e=>eb b o hb e) f0 f1 f3 f4 f5⟩
 self:=fun _ _ _ _ _ st h=>wpAny_pyIter_rangeiter st h
end L2
namespace L2
open PySem PySem.Spec PyProof.Rows
section
variable {X:Cx} {tg:Expr}
def VO(K:PySem.W.Frag)(tl:TE):TI:=fun σ H R=>tl σ H fun x H1=>∃a,x= .ref a/\(∃xs,dG K H1 a xs)/\R (S9 K a) H1
theorem fL{l:Expr}{tl:TE}(hl:PE X l tl):PI X tg l (VO X.K tl):=by
 intro pins s σ H R I h
 refine ig (hl pins s σ H _ I h) fun v s1 ⟨x,H1,I1,r1,q1⟩=>?_
 obtain⟨a,e,⟨xs,hq⟩,q⟩:=q1
 subst e
 cases r1
 obtain⟨its,rv,p,hz⟩:=I1.list hq
 refine wpAny_pyIter_list p.isList ?_
 refine⟨s1.heap.objs.size,[s1.heap.objs.size],_,_,H1,rfl,I1.kept (t':=s1.toks) fun b o e=>ai _ e,N2 a _,⟨_,aF _ rfl,rfl,rfl⟩,fun b hb=>?_,q⟩
 have e:b=s1.heap.objs.size:=by simpa using hb
 subst e
 exact I1.N1 (aA _) (I1.hok.fresh (aA _))
theorem Jw{pins:List (Addr×Obj)}{σ:St}{H:Hp}{s:Shared}{R:It->Hp->Prop}{E:Value->Shared->Prop}{lo hi:Int}{t u v:Tok}{tk:Nat}(I:Inv X pins σ H s)(h1: -(2^62)≤lo)(h2:lo<2^62)(h3: -(2^62)≤hi)(h4:hi<2^62)
  (q:R (Uh lo (hi-lo).toNat) H):wpAny (model X.prog X.w) X.A (pyIter (.ref s.heap.objs.size)) (X3 X pins σ tg R) E { s with heap:=s.heap.push { cls:=.type "range",data:=.fields #[.int lo t,.int hi u,.int 1 v] },toks:=tk }:=by
 refine wpAny_pyIter_range (IsRange.new ..) (small_one h1 h2 h3 h4) ?_
 have I1:Inv X pins σ H { s with heap:=s.heap.push { cls:=.type "range",data:=.fields #[.int lo t,.int hi u,.int 1 v] },toks:=tk }:=I.kept fun b o e=>ai _ e
 refine⟨(s.heap.push { cls:=.type "range",data:=.fields #[.int lo t,.int hi u,.int 1 v] }).objs.size,[(s.heap.push { cls:=.type "range",data:=.fields #[.int lo t,.int hi u,.int 1 v] }).objs.size],_,_,H,rfl,
  I1.kept (t':=tk) fun b o e=>ai _ e,Ls _ lo (hi-lo).toNat,?_,fun b hb=>?_,q⟩
 ·have e1:lo+((0:Nat):Int)*1=lo:=by simp
  have e2:(((hi-lo).toNat:Nat):Int)-((0:Nat):Int)=Builtin.Range.rangeSize lo hi 1:=by rw[rangeSize_one];split <;> omega
  show IsRangeIter _ _ (lo+((0:Nat):Int)*1) ((((hi-lo).toNat:Nat):Int)-((0:Nat):Int)) 1
  rw[e1,e2]
  exact aF _ rfl
 ·have e:b=(s.heap.push { cls:=.type "range",data:=.fields #[.int lo t,.int hi u,.int 1 v] }).objs.size:=by simpa using hb
  subst e
  exact I1.N1 (aA _) (I1.hok.fresh (aA _))
def VP(ta:TA):TI:=fun σ H R=>ta σ H fun vs H1=>∃j:Int,vs=[.int j]/\ -(2^62)≤j/\j<2^62/\R (Uh 0 j.toNat) H1
def VQ(ta:TA):TI:=fun σ H R=>ta σ H fun vs H1=>∃i j:Int,vs=[.int i,.int j]/\(-(2^62)≤i/\i<2^62/\ -(2^62)≤j/\j<2^62)/\R (Uh i (j-i).toNat) H1
theorem GN{a:Expr}{ta:TA}{p pos:Pos}(hg:Gl X "range")(hm:X.mg "range"=none)(ha:PA X [a] ta)(hs:starEach [a] X.env=[(false,eval a X.env)]:=by rfl):PI X tg (.Call (.Name "range" p) [a] [] pos) (VP ta):=by
 intro pins s σ H R I h
 refine Call_ (qO I hg hm boot_range (PyProof.Rows.callWith_type1 (ig (ha pos pins s σ H _ I h) fun us s1 ⟨vs,H1,I1,r1,q1⟩=>?_) hs rfl))
 obtain⟨j,e,q1,q2,q⟩:=q1
 subst e
 cases r1 with
 |cons r rr=>
  cases rr
  obtain⟨t,rfl⟩:=r
  exact call_range_1 (Jw I1 (by omega) (by omega) q1 q2 (by simpa using q))
theorem N3{a b:Expr}{ta:TA}{p pos:Pos}(hg:Gl X "range")(hm:X.mg "range"=none)(ha:PA X [a,b] ta)(hs:starEach [a,b] X.env=[(false,eval a X.env),(false,eval b X.env)]:=by rfl)(hs2:starEach [b] X.env=[(false,eval b X.env)]:=by rfl):
  PI X tg (.Call (.Name "range" p) [a,b] [] pos) (VQ ta):=by
 intro pins s σ H R I h
 refine Call_ (qO I hg hm boot_range (PyProof.Rows.callWith_type1 (ig (ha pos pins s σ H _ I h) fun us s1 ⟨vs,H1,I1,r1,q1⟩=>?_) (by rw[hs,hs2]) (by rw[hs2];rfl)))
 obtain⟨i,j,e,⟨q1,q2,q3,q4⟩,q⟩:=q1
 subst e
 cases r1 with
 |cons r rr=>
  cases rr with
  |cons r' rr=>
   cases rr
   obtain⟨t,rfl⟩:=r
   obtain⟨t',rfl⟩:=r'
   exact call_range_2 (Jw I1 q1 q2 q3 q4 q)
def X4(wi:TI)(g:TG)(tb:TS):TS:=fun D σ H=>wi σ H fun J H1=>∃W:Nat->Nat->St->Hp->Prop,(∃m,W 0 m σ H1)/\ ∀i m σ H,W i m σ H->
 (J.stop i H/\D.nx σ H)∨(J.go i H/\ ∃N:St->Hp->Prop,(∀σ' H',N σ' H'-> ∃m',m'<m/\W (i+1) m' σ' H')/\ ∀x H',J.RM i H x H'->g x σ H' fun σ2 H2=>tb { D with nx:=N,ct:=N,bk:=D.nx } σ2 H2)
def El(fp:List Addr)(h:Heap):List (Addr×Obj):=fp.filterMap fun b=>(h.get? b).map fun o=>(b,o)
theorem zO{fp:List Addr}{h:Heap}{b:Addr}{o:Obj}(hb:b∈fp)(e:h.get? b=some o):(b,o)∈El fp h:=List.mem_filterMap.mpr ⟨b,hb,by rw[e];rfl⟩
theorem N4{fp:List Addr}{h:Heap}{p:Addr×Obj}(hp:p∈El fp h):p.1∈fp/\h.get? p.1=some p.2:=by
 obtain⟨b,hb,e⟩:=List.mem_filterMap.mp hp
 cases q:h.get? b with
 |none=>rw[q]at e;cases e
 |some o=>
  rw[q]at e
  have e':(b,o)=p:=az e
  subst e'
  exact⟨hb,q⟩
theorem Inv.pinned{pins:List (Addr×Obj)}{σ:St}{H:Hp}{s:Shared}{fp:List Addr}(I:Inv X pins σ H s)(hf:∀b∈fp,Dz X pins H b)(ho:∀b∈fp,∃o,s.heap.get? b=some o/\ ∀v,o.data≠ .cell v):Inv X (pins++El fp s.heap) σ H s:=
 I.MP fun p hp=>(bh.mp hp).elim (fun z=>I.pin p (List.mem_append_right _ z)) fun z=>by
  obtain⟨hb,e⟩:=N4 z
  obtain⟨f0,f1,f2,_⟩:=hf p.1 hb
  obtain⟨o,e',d⟩:=ho p.1 hb
  rw[e]at e';cases e'
  exact⟨e,f0,f1,f2,d⟩
theorem Inv.AH{pins pl:List (Addr×Obj)}{σ:St}{H:Hp}{s:Shared}(I:Inv X (pins++pl) σ H s):Inv X pins σ H s:=I.MP fun p hp=>I.pin p (List.mem_append_right _ (List.mem_append_left _ hp))
theorem iJ{iter:Expr}{body:List Stmt}{wi:TI}{g:TG}{tb:TS}{pos:Pos}(hp:PassesOwn (model X.prog X.w) X.A X.env X.xe)(hc:X.calm=true)(hi:PI X tg iter wi)(hg:PG X tg g)(hb:Lq X body tb)
  (hs:∀x,foldedSetIterable iter X.env x=pure x:=by intro _;rfl):PS X (.For tg iter body [] pos) (X4 wi g tb):=by
 intro pins s σ H D I h
 refine wpAny_For (ig (hi pins s σ H _ I h) fun v s1 h1=>ig h1 fun itv s2 h2=>?_) hs
 obtain⟨it,fp,tn,J,H2,e,I2,T,st2,f2,W,⟨m0,w0⟩,turn⟩:=h2
 subst e
 have Lu:∀{H':Hp},(∀b∈fp,H' b=none)-> ∀b∈fp,Dz X pins H' b:=fun hn b hb=>⟨hn b hb,(f2 b hb).2⟩
 refine codeAny_forLoop_any (fun n s'=>∃i σ' H',Inv X pins σ' H' s'/\tn i s'.heap/\(∀b∈fp,H' b=none)/\W i n σ' H') ?_ m0 ⟨0,σ,H2,I2,st2,fun b hb=>(f2 b hb).1,w0⟩
 rintro n s3 ⟨i,σ3,H3,I3,st3,ZH,w3⟩
 rcases turn i n σ3 H3 w3 with ⟨stop,qn⟩ | ⟨go,N,hN,step⟩
 ·refine wpAny_passesOwn hp (ig (T.done X rfl rfl rfl hc i pins s3 σ3 H3 X.xe I3 (Lu ZH) st3 stop) fun r s4 ⟨hr,I4⟩=>?_)
  subst hr
  exact wpAny_execs_nil ⟨σ3,H3,I4,qn⟩
 ·refine wpAny_passesOwn hp (ig (T.item X rfl rfl rfl hc i pins s3 σ3 H3 X.xe I3 (Lu ZH) st3 go) fun r s4 ⟨u,hr,h4⟩=>?_)
  subst hr
  refine wpAny_passesOwn hp (ig h4 fun _ s5 ⟨x,H5,I5,r5,y5,st5,fr5⟩=>?_)
  have I5':=I5.pinned (Lu fr5) (T.obj _ _ st5)
  refine wpAny_passesOwn hp (ig (hg _ s5 σ3 H5 x u _ I5' r5 (step x H5 y5)) fun _ s6 ⟨σ6,H6,I6,q6⟩=>?_)
  refine wpAny_passesOwn hp (ig (hb _ s6 σ6 H6 _ I6 q6) fun f s7 q7=>?_)
  have again:∀{σ7:St}{H7:Hp},Inv X (pins++El fp s5.heap) σ7 H7 s7->N σ7 H7-> ∃m,m<n/\ ∃i σ' H',Inv X pins σ' H' s7/\tn i s7.heap/\(∀b∈fp,H' b=none)/\W i m σ' H':=fun{σ7 H7} I7 n7=>by
   obtain⟨m',hm,w7⟩:=hN σ7 H7 n7
   refine⟨m',hm,i+1,σ7,H7,I7.AH,T.keep _ _ _ st5 fun b hb o e=>(I7.pin (b,o) (List.mem_append_right _ (List.mem_append_right _ (zO hb e)))).1,fun b hb=>?_,w7⟩
   obtain⟨o,e,d⟩:=T.obj _ _ st5 b hb
   exact(I7.pin (b,o) (List.mem_append_right _ (List.mem_append_right _ (zO hb e)))).2.1
  cases f with
  |next=>obtain⟨σ7,H7,I7,n7⟩:=q7;exact again I7 n7
  |cont=>obtain⟨σ7,H7,I7,n7⟩:=q7;exact again I7 n7
  |brk=>obtain⟨σ7,H7,I7,q7⟩:=q7;exact⟨σ7,H7,I7.AH,q7⟩
  |ret v=>obtain⟨x7,σ7,H7,I7,r7,q7⟩:=q7;exact⟨x7,σ7,H7,I7.AH,r7,q7⟩
end
theorem j8{K:PySem.W.Frag}{a:Addr}{xs:List V}{g:TG}{tb:TS}{D:Ends}{σ:St}{H:Hp}(Pv:Nat->St->Hp->Prop)(h0:Pv 0 σ H)(hl:∀i σ H,i≤xs.length->Pv i σ H->dG K H a xs)
  (hs:∀i x σ H,xs[i]?=some x->Pv i σ H->g x σ H fun σ2 H2=>tb { D with nx:=Pv (i+1),ct:=Pv (i+1),bk:=D.nx } σ2 H2)(hd:∀σ H,Pv xs.length σ H->D.nx σ H):
  ∃W:Nat->Nat->St->Hp->Prop,(∃m,W 0 m σ H)/\ ∀i m σ H,W i m σ H->
   ((S9 K a).stop i H/\D.nx σ H)∨((S9 K a).go i H/\ ∃N:St->Hp->Prop,(∀σ' H',N σ' H'-> ∃m',m'<m/\W (i+1) m' σ' H')/\ ∀x H',(S9 K a).RM i H x H'->g x σ H' fun σ2 H2=>tb { D with nx:=N,ct:=N,bk:=D.nx } σ2 H2):=by
 refine⟨fun i m σ H=>m=xs.length-i/\i≤xs.length/\Pv i σ H,⟨xs.length,by simp,Nat.zero_le _,h0⟩,?_⟩
 rintro i m σ H ⟨rfl,hi,p⟩
 have q:=hl i σ H hi p
 by_cases hlt:i<xs.length
 ·refine .inr ⟨⟨xs,xs[i],q,by simp[hlt]⟩,Pv (i+1),fun σ' H' p'=>⟨xs.length-(i+1),by omega,rfl,hlt,p'⟩,fun x H' y=>?_⟩
  obtain⟨e,y⟩:=y
  subst e
  exact hs i x σ _ (y xs q) p
 ·have e:i=xs.length:=by omega
  subst e
  exact .inl ⟨⟨xs,q,aA _⟩,hd σ H p⟩
theorem BY{lo:Int}{n:Nat}{g:TG}{tb:TS}{D:Ends}{σ:St}{H:Hp}(Pv:Nat->St->Hp->Prop)(h0:Pv 0 σ H)
  (hs:∀i σ H,i<n->Pv i σ H->g (.int (lo+i)) σ H fun σ2 H2=>tb { D with nx:=Pv (i+1),ct:=Pv (i+1),bk:=D.nx } σ2 H2)(hd:∀σ H,Pv n σ H->D.nx σ H):
  ∃W:Nat->Nat->St->Hp->Prop,(∃m,W 0 m σ H)/\ ∀i m σ H,W i m σ H->
   ((Uh lo n).stop i H/\D.nx σ H)∨((Uh lo n).go i H/\ ∃N:St->Hp->Prop,(∀σ' H',N σ' H'-> ∃m',m'<m/\W (i+1) m' σ' H')/\ ∀x H',(Uh lo n).RM i H x H'->g x σ H' fun σ2 H2=>tb { D with nx:=N,ct:=N,bk:=D.nx } σ2 H2):=by
 refine⟨fun i m σ H=>m=n-i/\i≤n/\Pv i σ H,⟨n,by simp,Nat.zero_le _,h0⟩,?_⟩
 rintro i m σ H ⟨rfl,hi,p⟩
 by_cases hlt:i<n
 ·refine .inr ⟨hlt,Pv (i+1),fun σ' H' p'=>⟨n-(i+1),by omega,rfl,hlt,p'⟩,fun x H' y=>?_⟩
  obtain⟨e,y⟩:=y
  subst e y
  exact hs i σ _ hlt p
 ·have e:i=n:=by omega
  subst e
  exact .inl ⟨aA _,hd σ H p⟩
end L2
namespace L2
open PySem PySem.Spec PyProof.Rows
abbrev R2:=V->V->Hp->VK->Prop
def AI(X:Cx)(f:Value->Value->Sem Value)(r:R2):Prop:=
 ∀(pins:List (Addr×Obj))(s:Shared)(σ:St)(H:Hp)(x y:V)(v u:Value)(Q:VK),Inv X pins σ H s->RelV x v->RelV y u->r x y H Q->
  wpAny (model X.prog X.w) X.A (f v u) (EP X pins σ Q) X.xe s
def X5(X:Cx)(f:Value->Sem Value)(r:V->Hp->VK->Prop):Prop:=
 ∀(pins:List (Addr×Obj))(s:Shared)(σ:St)(H:Hp)(x:V)(v:Value)(Q:VK),Inv X pins σ H s->RelV x v->r x H Q->
  wpAny (model X.prog X.w) X.A (f v) (EP X pins σ Q) X.xe s
def AJ(X:Cx)(f:Value)(r:List V->Hp->VK->Prop):Prop:=
 ∀(pins:List (Addr×Obj))(s:Shared)(σ:St)(H:Hp)(xs:List V)(us:List Value)(Q:VK),Inv X pins σ H s->Vals xs us->r xs H Q->
  wpAny (model X.prog X.w) X.A (call f us) (EP X pins σ Q) X.xe s
def Xh(r:R2)(ta tb:TE):TE:=fun σ H Q=>ta σ H fun x H1=>tb σ H1 fun y H2=>r x y H2 Q
def tUn(r:V->Hp->VK->Prop)(ta:TE):TE:=fun σ H Q=>ta σ H fun x H1=>r x H1 Q
def rI(C:Int->Int->Prop)(g:Int->Int->V):R2:=fun x y H Q=>∃i j,x= .int i/\y= .int j/\C i j/\Q (g i j) H
def Tc(g:Int->Int->V):R2:=fun x y H Q=>∃i j,x= .int i/\y= .int j/\Q (g i j) H
def rU(g:Int->V):V->Hp->VK->Prop:=fun x H Q=>∃i,x= .int i/\Q (g i) H
section
variable {X:Cx} {a b c:Expr} {ta tb tc:TE} {pos:Pos}
theorem Ui(ha:PE X a ta)(hb:PE X b tb){pins:List (Addr×Obj)}{s:Shared}{σ:St}{H:Hp}{R:V->V->Hp->Prop}(I:Inv X pins σ H s)
  (h:ta σ H fun x H1=>tb σ H1 fun y H2=>R x y H2){Q:Value->Shared->Prop}{f:Value->Value->Sem Value}
  (hf:∀v u s2 x y H2,Inv X pins σ H2 s2->RelV x v->RelV y u->R x y H2->wpAny (model X.prog X.w) X.A (f v u) Q X.xe s2):
  wpAny (model X.prog X.w) X.A (eval a X.env) (fun v s₁=>wpAny (model X.prog X.w) X.A (eval b X.env) (fun u s₂=>wpAny (model X.prog X.w) X.A (f v u) Q X.xe s₂) X.xe s₁) X.xe s:=by
 refine ig (ha pins s σ H _ I h) fun v s1 ⟨x,H1,I1,r1,q1⟩=>?_
 refine ig (hb pins s1 σ H1 _ I1 q1) fun u s2 ⟨y,H2,I2,r2,q2⟩=>?_
 exact hf v u s2 x y H2 I2 r1 r2 q2
theorem dJ{op:Operator}{r:R2}(ho:AI X (binaryOp op) r)(ha:PE X a ta)(hb:PE X b tb):PE X (.BinOp a op b pos) (Xh r ta tb):=by
 intro pins s σ H Q I h
 exact wpAny_BinOp (Ui ha hb I h fun v u s2 x y H2 I2 rx ry q=>ho pins s2 σ H2 x y v u Q I2 rx ry q)
theorem CP{op:UnaryOp}{r:V->Hp->VK->Prop}(ho:X5 X (unaryOp op) r)(ha:PE X a ta):PE X (.UnaryOp op a pos) (tUn r ta):=by
 intro pins s σ H Q I h
 exact UnaryOp_ (ig (ha pins s σ H _ I h) fun v s1 ⟨x,H1,I1,r1,q1⟩=>ho pins s1 σ H1 x v Q I1 r1 q1)
theorem X6{f:Value->Value->Sem Value}{C:Int->Int->Prop}{g:Int->Int->Int}
  (rule:∀(i j:Int)(t u:Tok)(s:Shared)(Q:Value->Shared->Prop)(E:Value->Shared->Prop),C i j->Q (.int (g i j) s.toks) { s with toks:=s.toks+1 }->wpAny (model X.prog X.w) X.A (f (.int i t) (.int j u)) Q E s):
  AI X f (rI C fun i j=>.int (g i j)):=by
 intro pins s σ H x y v u Q I rx ry h
 obtain⟨i,j,rfl,rfl,hc,q⟩:=h
 obtain⟨t,rfl⟩:=rx
 obtain⟨t',rfl⟩:=ry
 exact rule i j t t' s _ _ hc ⟨.int (g i j),H,I.tok _,⟨_,rfl⟩,q⟩
theorem VR{f:Value->Value->Sem Value}{g:Int->Int->Int}
  (rule:∀(i j:Int)(t u:Tok)(s:Shared)(Q:Value->Shared->Prop)(E:Value->Shared->Prop),Q (.int (g i j) s.toks) { s with toks:=s.toks+1 }->wpAny (model X.prog X.w) X.A (f (.int i t) (.int j u)) Q E s):
  AI X f (Tc fun i j=>.int (g i j)):=by
 intro pins s σ H x y v u Q I rx ry h
 obtain⟨i,j,rfl,rfl,q⟩:=h
 obtain⟨t,rfl⟩:=rx
 obtain⟨t',rfl⟩:=ry
 exact rule i j t t' s _ _ ⟨.int (g i j),H,I.tok _,⟨_,rfl⟩,q⟩
theorem RN{f:Value->Value->Sem Value}{g:Int->Int->Bool}
  (rule:∀(i j:Int)(t u:Tok)(s:Shared)(Q:Value->Shared->Prop)(E:Value->Shared->Prop),Q (.bool (g i j)) s->wpAny (model X.prog X.w) X.A (f (.int i t) (.int j u)) Q E s):
  AI X f (Tc fun i j=>.bl (g i j)):=by
 intro pins s σ H x y v u Q I rx ry h
 obtain⟨i,j,rfl,rfl,q⟩:=h
 obtain⟨t,rfl⟩:=rx
 obtain⟨t',rfl⟩:=ry
 exact rule i j t t' s _ _ ⟨.bl (g i j),H,I,rfl,q⟩
theorem iN:AI X (binaryOp .Add) (Tc fun i j=>.int (i+j)):=VR fun _ _ _ _ _ _ _ q=>add_int q
theorem oS:AI X (binaryOp .Sub) (Tc fun i j=>.int (i-j)):=VR fun _ _ _ _ _ _ _ q=>sub_int q
theorem Uj:AI X (binaryOp .Mod) (rI (fun _ j=>0<j) fun i j=>.int (i%j)):=X6 fun i j _ _ _ _ _ hc q=>by
 have h1:(0:Int)<j:=hc
 exact mod_int' (by omega) (by rw[Int.fmod_eq_emod_of_nonneg i (by omega)];exact q)
theorem unI{f:Value->Sem Value}{g:Int->Int}
  (rule:∀(i:Int)(t:Tok)(s:Shared)(Q:Value->Shared->Prop)(E:Value->Shared->Prop),Q (.int (g i) s.toks) { s with toks:=s.toks+1 }->wpAny (model X.prog X.w) X.A (f (.int i t)) Q E s):
  X5 X f (rU fun i=>.int (g i)):=by
 intro pins s σ H x v Q I rx h
 obtain⟨i,rfl,q⟩:=h
 obtain⟨t,rfl⟩:=rx
 exact rule i t s _ _ ⟨.int (g i),H,I.tok _,⟨_,rfl⟩,q⟩
theorem vz:X5 X (unaryOp .USub) (rU fun i=>.int (-i)):=unI fun _ _ _ _ _ q=>neg_int q
end
def VS:V->V->Bool
 |.f6,.f6=>true | .f6,.int _=>true | .int _,.f6=>true | .f6,.bl _=>true | .bl _,.f6=>true | .f6,.str _=>true | .str _,.f6=>true
 |.int _,.int _=>true | .bl _,.bl _=>true | .str _,.str _=>true | .Ln _,.Ln _=>true
 |.int _,.str _=>true | .str _,.int _=>true | .bl _,.str _=>true | .str _,.bl _=>true
 |_,_=>false
def rEq:R2:=fun x y H Q=>VS x y=true/\Q (.bl (decide (x=y))) H
def rNe:R2:=fun x y H Q=>VS x y=true/\Q (.bl (!decide (x=y))) H
theorem MR{i j:Int}:decide (V.int i=V.int j)=(i==j):=by
 rw[Bool.eq_iff_iff]
 simp
theorem Pb{i j:Bool}:decide (V.bl i=V.bl j)=(i==j):=by
 rw[Bool.eq_iff_iff]
 simp
theorem MS{i j:Str}:decide (V.str i=V.str j)=(i==j):=by
 rw[Bool.eq_iff_iff]
 simp
theorem MT{i j:Array UInt8}:decide (V.Ln i=V.Ln j)=(i.toList==j.toList):=by
 rw[Bool.eq_iff_iff]
 cases i
 cases j
 simp
section
variable {X:Cx} {a b c:Expr} {ta tb tc:TE} {pos:Pos}
theorem fP{pins:List (Addr×Obj)}{σ:St}{H:Hp}{s:Shared}{Q:VK}{k k':Bool}(I:Inv X pins σ H s)(q:Q (.bl k) H)(e:k=k'):EP X pins σ Q (.bool k') s:=by
 subst e
 exact⟨.bl k,H,I,rfl,q⟩
theorem kZ:AI X (compareOp .Eq) rEq:=by
 intro pins s σ H x y v u Q I rx ry h
 obtain⟨hs,q⟩:=h
 cases x with
 |f6=>
  cases rx
  cases y with
  |f6=>cases ry;exact PySem.EqNone.eq_none_none (fP I q (by simp))
  |bl j=>cases ry;exact PySem.EqNone.eq_none_bool (fP I q (by simp))
  |int j=>obtain⟨t',rfl⟩:=ry;exact PySem.EqNone.eq_none_int (fP I q (by simp))
  |str j=>obtain⟨t',rfl⟩:=ry;exact PySem.EqNone.eq_none_str (fP I q (by simp))
  |_=>exact absurd (show false=true from hs) aN
 |bl i=>
  cases rx
  cases y with
  |f6=>cases ry;exact PySem.EqNone.eq_bool_none (fP I q (by simp))
  |bl j=>cases ry;exact eq_bool (fP I q Pb)
  |str j=>obtain⟨t',rfl⟩:=ry;exact PySem.EqMixed.eq_bool_str (fP I q (by simp))
  |_=>exact absurd (show false=true from hs) aN
 |int i=>
  obtain⟨t,rfl⟩:=rx
  cases y with
  |f6=>cases ry;exact PySem.EqNone.eq_int_none (fP I q (by simp))
  |int j=>obtain⟨t',rfl⟩:=ry;exact eq_int (fP I q MR)
  |str j=>obtain⟨t',rfl⟩:=ry;exact PySem.EqMixed.eq_int_str (fP I q (by simp))
  |_=>exact absurd (show false=true from hs) aN
 |str i=>
  obtain⟨t,rfl⟩:=rx
  cases y with
  |f6=>cases ry;exact PySem.EqNone.eq_str_none (fP I q (by simp))
  |bl j=>cases ry;exact PySem.EqMixed.eq_str_bool (fP I q (by simp))
  |int j=>obtain⟨t',rfl⟩:=ry;exact PySem.EqMixed.eq_str_int (fP I q (by simp))
  |str j=>obtain⟨t',rfl⟩:=ry;exact eq_str (fP I q MS)
  |_=>exact absurd (show false=true from hs) aN
 |Ln i=>
  obtain⟨t,rfl⟩:=rx
  cases y with
  |Ln j=>obtain⟨t',rfl⟩:=ry;exact PySem.W.eq_bytes (fP I q MT)
  |_=>exact absurd (show false=true from hs) aN
 |_=>cases y <;> exact absurd (show false=true from hs) aN
theorem Pc:AI X (compareOp .NotEq) rNe:=by
 intro pins s σ H x y v u Q I rx ry h
 obtain⟨hs,q⟩:=h
 cases x with
 |f6=>
  cases rx
  cases y with
  |f6=>cases ry;exact PySem.EqNone.ne_none_none (fP I q (by simp))
  |bl j=>cases ry;exact PySem.EqNone.ne_none_bool (fP I q (by simp))
  |int j=>obtain⟨t',rfl⟩:=ry;exact PySem.EqNone.ne_none_int (fP I q (by simp))
  |str j=>obtain⟨t',rfl⟩:=ry;exact PySem.EqNone.ne_none_str (fP I q (by simp))
  |_=>exact absurd (show false=true from hs) aN
 |bl i=>
  cases rx
  cases y with
  |f6=>cases ry;exact PySem.EqNone.ne_bool_none (fP I q (by simp))
  |bl j=>cases ry;exact ne_bool (fP I q (congrArg not Pb))
  |str j=>obtain⟨t',rfl⟩:=ry;exact PySem.EqMixed.ne_bool_str (fP I q (by simp))
  |_=>exact absurd (show false=true from hs) aN
 |int i=>
  obtain⟨t,rfl⟩:=rx
  cases y with
  |f6=>cases ry;exact PySem.EqNone.ne_int_none (fP I q (by simp))
  |int j=>obtain⟨t',rfl⟩:=ry;exact ne_int (fP I q (congrArg not MR))
  |str j=>obtain⟨t',rfl⟩:=ry;exact PySem.EqMixed.ne_int_str (fP I q (by simp))
  |_=>exact absurd (show false=true from hs) aN
 |str i=>
  obtain⟨t,rfl⟩:=rx
  cases y with
  |f6=>cases ry;exact PySem.EqNone.ne_str_none (fP I q (by simp))
  |bl j=>cases ry;exact PySem.EqMixed.ne_str_bool (fP I q (by simp))
  |int j=>obtain⟨t',rfl⟩:=ry;exact PySem.EqMixed.ne_str_int (fP I q (by simp))
  |str j=>obtain⟨t',rfl⟩:=ry;exact ne_str (fP I q (congrArg not MS))
  |_=>exact absurd (show false=true from hs) aN
 |Ln i=>
  obtain⟨t,rfl⟩:=rx
  cases y with
  |Ln j=>obtain⟨t',rfl⟩:=ry;exact PySem.W.ne_bytes (fP I q (congrArg not MT))
  |_=>exact absurd (show false=true from hs) aN
 |_=>cases y <;> exact absurd (show false=true from hs) aN
theorem vA:AI X (compareOp .Lt) (Tc fun i j=>.bl (decide (i<j))):=RN fun _ _ _ _ _ _ _ q=>lt_int q
theorem gU:AI X (compareOp .LtE) (Tc fun i j=>.bl (decide (i≤j))):=RN fun _ _ _ _ _ _ _ q=>le_int q
theorem MU:AI X (compareOp .Gt) (Tc fun i j=>.bl (decide (j<i))):=RN fun _ _ _ _ _ _ _ q=>gt_int q
theorem MV:AI X (compareOp .GtE) (Tc fun i j=>.bl (decide (j≤i))):=RN fun _ _ _ _ _ _ _ q=>ge_int q
theorem nD:AI X (compareOp .Is) (fun x y H Q=>y= .f6/\Q (.bl (decide (x= .f6))) H):=by
 intro pins s σ H x y v u Q I rx ry h
 obtain⟨rfl,q⟩:=h
 cases ry
 refine is_none_gen (fP I q ?_)
 cases x <;> first
  |(cases rx;rfl)
  |(obtain⟨t,rfl⟩:=rx;rfl)
theorem xV:AI X (compareOp .IsNot) (fun x y H Q=>y= .f6/\Q (.bl (!decide (x= .f6))) H):=by
 intro pins s σ H x y v u Q I rx ry h
 obtain⟨rfl,q⟩:=h
 cases ry
 refine isnot_none_gen (fP I q ?_)
 cases x <;> first
  |(cases rx;rfl)
  |(obtain⟨t,rfl⟩:=rx;rfl)
theorem dQ(b:Expr){op:CmpOp}(h:op≠ .In:=by decide)(h2:op≠ .NotIn:=by decide):behindInMarks op b=false:=by
 have e1:(op==CmpOp.In)=false:=by cases op <;> first | rfl | exact absurd rfl h
 have e2:(op==CmpOp.NotIn)=false:=by cases op <;> first | rfl | exact absurd rfl h2
 cases b <;> simp[behindInMarks,e1,e2]
theorem DV{op:CmpOp}{r:R2}(ho:AI X (compareOp op) r)(ha:PE X a ta)(hb:PE X b tb)(hm:behindInMarks op b=false):PE X (.Compare a [op] [b] pos) (Xh r ta tb):=by
 intro pins s σ H Q I h
 exact wpAny_Compare1 (Ui ha hb I h fun v u s2 x y H2 I2 rx ry q=>ho pins s2 σ H2 x y v u Q I2 rx ry q) hm
def Pd(t:TE):TT:=fun σ H Q=>t σ H fun x H'=>∃k,x= .bl k/\Q k H'
theorem dw{op:CmpOp}{r:R2}(ho:AI X (compareOp op) r)(ha:PE X a ta)(hb:PE X b tb)(hm:behindInMarks op b=false):PT X (.Compare a [op] [b] pos) (Pd (Xh r ta tb)):=by
 intro pins s σ H Q I h
 refine wpAny_isTrue_Compare1 (ig (ha pins s σ H _ I h) fun v s1 ⟨x,H1,I1,r1,q1⟩=>ig (hb pins s1 σ H1 _ I1 q1) fun u s2 ⟨y,H2,I2,r2,q2⟩=>
  ig (ho pins s2 σ H2 x y v u _ I2 r1 r2 q2) fun c s3 ⟨z,H3,I3,r3,k,e,q3⟩=>?_) hm
 subst e
 cases r3
 exact bE ⟨H3,I3,q3⟩
def Pe(r r':R2)(ta tb tc:TE):TE:=fun σ H Q=>ta σ H fun x H1=>tb σ H1 fun y H2=>r x y H2 fun z H3=>∃k,z= .bl k/\
 (if k=true then tc σ H3 fun w' H4=>r' y w' H4 Q else Q (.bl false) H3)
theorem mZ{op op':CmpOp}{r r':R2}(ho:AI X (compareOp op) r)(ho':AI X (compareOp op') r')(ha:PE X a ta)(hb:PE X b tb)(hc:PE X c tc)
  (hm:lastMarks [op,op'] [b,c]=false:=by with_unfolding_all rfl):PE X (.Compare a [op,op'] [b,c] pos) (Pe r r' ta tb tc):=by
 intro pins s σ H Q I h
 refine Compare_chain (ig (ha pins s σ H _ I h) fun v s1 ⟨x,H1,I1,r1,q1⟩=>chain_link (ig (hb pins s1 σ H1 _ I1 q1) fun u s2 ⟨y,H2,I2,r2,q2⟩=>
  ig (ho pins s2 σ H2 x y v u _ I2 r1 r2 q2) fun d s3 ⟨z,H3,I3,r3,k,e,q3⟩=>?_)) hm
 subst e
 cases r3
 refine bE ?_
 cases k with
 |false=>exact ite_ff ⟨.bl false,H3,I3,rfl,q3⟩
 |true=>exact ite_tt (chain_last (ig (hc pins s3 σ H3 _ I3 q3) fun w' s4 ⟨z',H4,I4,r4,q4⟩=>ho' pins s4 σ H4 y z' u w' Q I4 r2 r4 q4))
theorem oU{op op':CmpOp}{r r':R2}(ho:AI X (compareOp op) r)(ho':AI X (compareOp op') r')(ha:PE X a ta)(hb:PE X b tb)(hc:PE X c tc)
  (hm:lastMarks [op,op'] [b,c]=false:=by with_unfolding_all rfl):PT X (.Compare a [op,op'] [b,c] pos) (Pd (Pe r r' ta tb tc)):=by
 intro pins s σ H Q I h
 refine isTrue_chain (ig (ha pins s σ H _ I h) fun v s1 ⟨x,H1,I1,r1,q1⟩=>test_link (ig (hb pins s1 σ H1 _ I1 q1) fun u s2 ⟨y,H2,I2,r2,q2⟩=>
  ig (ho pins s2 σ H2 x y v u _ I2 r1 r2 q2) fun d s3 ⟨z,H3,I3,r3,k,e,q3⟩=>?_)) hm
 subst e
 cases r3
 refine bE ?_
 cases k with
 |false=>
  obtain⟨k',e',q'⟩:=q3
  cases e'
  exact ite_ff ⟨H3,I3,q'⟩
 |true=>
  refine ite_tt (test_last (ig (hc pins s3 σ H3 _ I3 q3) fun w' s4 ⟨z',H4,I4,r4,q4⟩=>ig (ho' pins s4 σ H4 y z' u w' _ I4 r2 r4 q4) fun d' s5 ⟨z2,H5,I5,r5,k2,e2,q5⟩=>?_))
  subst e2
  cases r5
  exact bE ⟨H5,I5,q5⟩
theorem Pf:(sizeLine:Nat)<2^63:=by rw[sizeLine_eq];decide
theorem vals1{x:V}{us:List Value}(r:Vals [x] us):∃u,us=[u]/\RelV x u:=by
 cases r with
 |cons r1 r2=>cases r2;exact⟨_,rfl,r1⟩
theorem Jx:AJ X (.builtin "abs") (fun xs H Q=>∃i,xs=[.int i]/\Q (.int (if i<0 then -i else i)) H):=by
 intro pins s σ H xs us Q I r h
 obtain⟨i,rfl,q⟩:=h
 obtain⟨u,rfl,t,rfl⟩:=vals1 r
 exact call_abs_int fun u tk=>⟨.int (if i<0 then -i else i),H,I.tok _,⟨_,rfl⟩,q⟩
end
end L2
namespace L2
open PySem PySem.Spec PyProof.Rows
structure N5(h:Heap)(x dx C:Addr)(mA:Str->Option Value):Prop where
 obj:h.get? x=some (PySem.W.instObj C dx)
 ns:h.Ns1 dx mA
 ne:dx≠x
theorem N6{h:Heap}{dx:Addr}{mA:Str->Option Value}(n:h.Ns1 dx mA):∃od,h.get? dx=some od/\ ∀name,PySem.W.lookIn name od=some (mA name):=by
 obtain⟨o,es,ep,ho,hd,hk,_,hm⟩:=n
 refine⟨o,ho,fun name=>?_⟩
 have e:=hm name
 unfold nsFind findBy at e
 rw[<-Array.find?_toList]at e
 unfold PySem.W.lookIn
 rw[hd]
 dsimp only
 split
 ·rename_i y q
  rw[q]at e
  exact congrArg some e
 ·rename_i q
  rw[q]at e
  have a:es.toList.any (·.refKey)=false:=by
   rw[List.any_eq_false]
   intro y hy
   obtain⟨z,t,hkey⟩:=hk y (Array.mem_toList_iff.mp hy)
   simp[DictEntry.refKey,hkey]
  have a':¬es.toList.any (·.refKey)=true:=by rw[a];exact aN
  rw[bz a']
  exact congrArg some e
theorem N5.look{h:Heap}{x dx C:Addr}{mA:Str->Option Value}(I:N5 h x dx C mA):∃od,PySem.W.InstAt h x (PySem.W.instObj C dx) C (some od)/\ ∀name,PySem.W.lookIn name od=some (mA name):=
 let ⟨od,ho,hl⟩:=N6 I.ns
 ⟨od,⟨I.obj,rfl,rfl,ho⟩,hl⟩
section
variable {prog:Program} {w:World} {A:Around} {E:Value->Shared->Prop} {s:Shared} {K:PySem.W.Frag} {x dx C f:Addr} {mA:Str->Option Value} {name:Str} {v:Value}
theorem get_map{expr:Bool}{Q:Value->Shared->Prop}(X:K.In s.heap)(I:N5 s.heap x dx C mA)(hg:PySem.W.plainGet K C name=true)(hh:PySem.W.hasDictIn K C=true)
  (ha:PySem.W.findIn K (.ref C) name=some none)(hv:mA name=some v)(hv':PySem.W.handedIn v=true)(h:Q v { s with toks:=s.toks+1 }):
  wpAny (model prog w) A (getAttr (.ref x) name expr) Q E s:=by
 obtain⟨od,J,hl⟩:=I.look
 exact PySem.W.get_value X J (PySem.W.plainGet_of hg).1 (PySem.W.findObj_own hh ha rfl (by rw[hl,hv])) hv' h
theorem RO{ns:List Str}{Q:Unit->Shared->Prop}(X:K.In s.heap)(I:N5 s.heap x dx C mA)
  (hs:PySem.W.findIn K (.ref C) "__setattr__"=some (some (.builtin "object.__setattr__")))(hp:PySem.W.plainOver K C=true)(ht:PySem.W.takerIn K C name=some none)(hh:PySem.W.hasDictIn K C=true)
  (hw:PySem.Within mA ns)(hsz:ns.length≤sizeLine)
  (h:∀h',N5 h' x dx C (fun y=>if y=name then some v else mA y)->Heap.SameBut dx s.heap h'->Q () { s with heap:=h',toks:=s.toks+2 }):
  wpAny (model prog w) A (setAttr (.ref x) name v) Q E s:=by
 obtain⟨od,J,hl⟩:=I.look
 refine PySem.W.set_plain X J hs (PySem.W.osa_open (s:={ s with toks:=s.toks+1 }) (r:=none) X J hp ht fun b=>?_)
 obtain⟨cd,hc,hd'⟩:=PySem.W.any_some hh
 have hx:s.heap.get? x=some ⟨.ref C,some dx,.plain,#[]⟩:=I.obj
 refine aU (aV (aU (aU (wpAny_loadPart hx (aU (PySem.W.Looks.here (s:={ s with toks:=s.toks+1 }) (PySem.W.looks_clsIn X hc) ?_))))))
 rw[hd']
 refine aV (a:=some dx) (aU (aV (aU ?_)))
 refine wpAny_nsSet1 (s:={ s with toks:=s.toks+1 }) I.ns fun h' hn2 hs2=>?_
 obtain⟨oD,esD,epD,hoD,hdD,hcD⟩:=hn2.count (PySem.Within.cons name v hw)
 refine aU (wpAny_lookBehind hoD (by rw[hdD];exact pastItsLine_dict (aS hcD (by rw[aj];omega))) ?_)
 exact aV (h _ ⟨(hs2.2 _ (Ne.symm I.ne)).trans I.obj,hn2,I.ne⟩ hs2)
theorem Pg{R:Result->Shared->Prop}{vs:List Value}{kw:List (Str×Value)}(X:K.In s.heap)(hm:PySem.W.makesIn K C=true)
  (hi:PySem.W.findIn K (.ref C) "__init__"=some (some (.ref f)))(hf:PySem.W.typeIn K (.ref f)=some (.type "function"))
  (h:codeAny (model prog w) (A.under (.builtin "type.__call__" ⟨.ref C::vs,kw⟩)) (.call (.ref f) ⟨.ref (s.heap.objs.size+1)::vs,kw⟩) (PySem.W.InitBack (s.heap.objs.size+1) R)
   { s with heap:=(s.heap.push PySem.W.emptyDict).push (PySem.W.instObj C s.heap.objs.size) }):
  codeAny (model prog w) A (.call (.ref C) ⟨vs,kw⟩) R s:=by
 obtain⟨hh,g,d,t,os⟩:=s
 exact PySem.W.make_core (PySem.W.makes_of X hm) (PySem.W.looks_findIn X hi) (fun self=>PySem.W.bind_fn X self hf) (.inl rfl) h
end
def dX(f:Str)(v:V):List (Str×V)->List (Str×V)
 |[]=>[(f,v)]
 |(g,x)::r=>if g=f then (g,v)::r else (g,x)::dX f v r
theorem cI(f g:Str)(v:V):∀fs:List (Str×V),(dX f v fs).lookup g=if g=f then some v else fs.lookup g
 |[]=>by
  show List.lookup g [(f,v)]=_
  by_cases h:g=f
  ·have hb:(g==f)=true:=beq_iff_eq.mpr h
   simp only[List.lookup,hb,bA h]
  ·have hb:(g==f)=false:=bZ.mpr h
   simp only[List.lookup,hb,bz h]
 |(k,x)::r=>by
  have ih:=cI f g v r
  rw[show dX f v ((k,x)::r)=(if k=f then (k,v)::r else (k,x)::dX f v r)from rfl]
  by_cases hk:k=f
  ·rw[bA hk]
   by_cases h:g=k
   ·have hb:(g==k)=true:=beq_iff_eq.mpr h
    simp only[List.lookup,hb,bA (h.trans hk)]
   ·have hb:(g==k)=false:=bZ.mpr h
    simp only[List.lookup,hb,bz (fun e:g=f=>h (e.trans hk.symm))]
  ·rw[bz hk]
   by_cases h:g=k
   ·have hb:(g==k)=true:=beq_iff_eq.mpr h
    simp only[List.lookup,hb,bz (fun e:g=f=>hk (h.symm.trans e))]
   ·have hb:(g==k)=false:=bZ.mpr h
    simp only[List.lookup,hb]
    exact ih
theorem BZ(f:Str)(v:V):∀fs:List (Str×V),f∈(dX f v fs).map (·.1)/\ ∀g,g∈fs.map (·.1)->g∈(dX f v fs).map (·.1)
 |[]=>⟨by simp[dX],fun g h=>by simp at h⟩
 |(k,x)::r=>by
  obtain⟨i1,i2⟩:=BZ f v r
  rw[show dX f v ((k,x)::r)=(if k=f then (k,v)::r else (k,x)::dX f v r)from rfl]
  by_cases hk:k=f
  ·rw[bA hk]
   subst hk
   exact⟨by simp,fun g h=>by simpa using h⟩
  ·rw[bz hk]
   refine⟨?_,fun g h=>?_⟩
   ·rw[aL]
    exact au _ i1
   ·rw[aL]at h ⊢
    rcases aB.mp h with e | e
    ·exact aB.mpr (.inl e)
    ·exact au _ (i2 g e)
theorem CQ(f:Str)(v:V):∀fs:List (Str×V),(dX f v fs).length≤fs.length+1
 |[]=>by simp[dX]
 |(k,x)::r=>by
  have ih:=CQ f v r
  rw[show dX f v ((k,x)::r)=(if k=f then (k,v)::r else (k,x)::dX f v r)from rfl]
  by_cases hk:k=f
  ·rw[bA hk,aj,aj];omega
  ·rw[bz hk,aj,aj];omega
theorem zM.some_of{v:V}{o:Option Value}(r:zM (some v) o):∃u,o=some u/\RelV v u:=by
 cases o with
 |none=>exact(show False from r).elim
 |some u=>exact⟨u,rfl,r⟩
theorem N7{v:V}{u:Value}(r:RelV v u):PySem.W.handedIn u=true:=by
 cases v with
 |f6=>cases (show u=Value.none from r);rfl
 |bl b=>cases (show u=Value.bool b from r);rfl
 |int i=>obtain⟨t,e⟩:=(show ∃t,u=Value.int i t from r);cases e;rfl
 |str x=>obtain⟨t,e⟩:=(show ∃t,u=Value.str x t from r);cases e;rfl
 |Ln b=>obtain⟨t,e⟩:=(show ∃t,u=Value.bytes b t from r);cases e;rfl
 |Xb b=>obtain⟨t,e⟩:=(show ∃t,u=Value.float b t from r);cases e;rfl
 |ref a=>cases (show u=Value.ref a from r);rfl
 |ty n=>cases (show u=Value.type n from r);rfl
section
variable {P:Program} {w:World} {H H':Hp} {h h':Heap} {a C dx:Addr} {fs fs':List (Str×V)}
theorem MW(hok:vq P w H h)(e:H a=some (.ins C dx fs)):∃mA,N5 h a dx C mA/\(∀f,zM (fs.lookup f) (mA f))/\PySem.Within mA (fs.map (·.1))/\fs.length≤1000/\H dx=some (.own a):=by
 obtain⟨d,z,ne,ob,mA,n,r,q⟩:=(show iW P w H h a (.ins C dx fs)from hok a _ e)
 exact⟨mA,⟨ob,n,ne⟩,r,q,z,d⟩
end
structure Jy(K:PySem.W.Frag)(C:Addr):Prop where
 pg:PySem.W.plainGet K C Str.empty=true
 hd:PySem.W.hasDictIn K C=true
 po:PySem.W.plainOver K C=true
 sa:PySem.W.findIn K (.ref C) "__setattr__"=some (some (.builtin "object.__setattr__"))
theorem Jy.get{K:PySem.W.Frag}{C:Addr}(c:Jy K C)(f:Str):PySem.W.plainGet K C f=true:=c.pg
def eZ(K:PySem.W.Frag)(C:Addr)(f:Str):Prop:=PySem.W.findIn K (.ref C) f=some none
theorem eZ.VT{K:PySem.W.Frag}{C:Addr}{f:Str}(n:eZ K C f):PySem.W.takerIn K C f=some none:=by
 unfold PySem.W.takerIn
 rw[show PySem.W.findIn K (.ref C) f=some none from n]
 rfl
section
variable {X:Cx} {pins:List (Addr×Obj)} {σ:St} {H:Hp} {s:Shared} {a C dx:Addr} {fs:List (Str×V)} {f:Str} {v:V} {A:Around} {E:Value->Shared->Prop}
theorem Lv{b:Bool}{Q:Value->Shared->Prop}(I:Inv X pins σ H s)(e:H a=some (.ins C dx fs))(c:Jy X.K C)(n:eZ X.K C f)(l:fs.lookup f=some v)
  (h:∀u s',Inv X pins σ H s'->RelV v u->Q u s'):wpAny (model X.prog X.w) A (getAttr (.ref a) f b) Q E s:=by
 obtain⟨mA,O,r,_,_,_⟩:=MW I.hok e
 obtain⟨u,hu,ru⟩:=zM.some_of (v:=v) (o:=mA f) (by rw[<-l];exact r f)
 exact get_map I.MM O (c.get f) c.hd n hu (N7 ru) (h u _ (I.tok _) ru)
theorem Lw{y:V}{u:Value}{Q:Unit->Shared->Prop}(I:Inv X pins σ H s)(e:H a=some (.ins C dx fs))(c:Jy X.K C)(n:eZ X.K C f)(hl:fs.length<1000)(ry:RelV y u)
  (h:∀s',Inv X pins σ (upd H a (.ins C dx (dX f y fs))) s'->Q () s'):wpAny (model X.prog X.w) A (setAttr (.ref a) f u) Q E s:=by
 obtain⟨mA,O,r,wi,_,ho⟩:=MW I.hok e
 have hz:(fs.map (·.1)).length≤sizeLine:=by rw[aa,sizeLine_eq];omega
 refine RO I.MM O c.sa c.po n.VT c.hd wi hz fun h' O' sb=>h _ ?_
 have hd:∃o,h'.get? dx=some o:=let ⟨o,_,_,e',_⟩:=O'.ns;⟨o,e'⟩
 refine I.write (x:=a) (e:=dx) (by rw[e];exact True.intro) (.inr ho) (fun b q hb z=>(sb.2 b hb).trans z) hd ?_
 refine⟨by rw[cV O.ne];exact ho,?_,O.ne,O'.obj,_,O'.ns,fun g=>?_,fun g hg=>?_⟩
 ·have:=CQ f y fs;omega
 ·show zM ((dX f y fs).lookup g) (if g=f then some u else mA g)
  rw[cI]
  by_cases q:g=f
  ·rw[bA q,bA q];exact ry
  ·rw[bz q,bz q];exact r g
 ·by_cases q:g=f
  ·rw[q];exact(BZ f y fs).1
  ·refine(BZ f y fs).2 g (wi g fun z=>hg ?_)
   show (if g=f then some u else mA g)=none
   rw[bz q];exact z
theorem Inv.made(I:Inv X pins σ H s):Inv X pins σ (upd (upd H s.heap.objs.size (.own (s.heap.objs.size+1))) (s.heap.objs.size+1) (.ins C s.heap.objs.size []))
  { s with heap:=(s.heap.push PySem.W.emptyDict).push (PySem.W.instObj C s.heap.objs.size) }:=by
 have e1:(s.heap.push PySem.W.emptyDict).get? s.heap.objs.size=some PySem.W.emptyDict:=aF s.heap rfl
 have e2:((s.heap.push PySem.W.emptyDict).push (PySem.W.instObj C s.heap.objs.size)).get? (s.heap.objs.size+1)=some (PySem.W.instObj C s.heap.objs.size):=by
  have:=aF (s.heap.push PySem.W.emptyDict) (o:=PySem.W.instObj C s.heap.objs.size) rfl
  rwa [Heap.size_push]at this
 have e3:(s.heap.push PySem.W.emptyDict).Ns s.heap.objs.size (fun _=>none):=⟨PySem.W.emptyDict,#[],_,e1,rfl,(fun e he=>absurd he (by simp)),fun _=>rfl⟩
 have I1:=I.laid (a:=s.heap.objs.size) (o:=.own (s.heap.objs.size+1)) (h':=s.heap.push PySem.W.emptyDict) (t':=s.toks) (fun b u q=>ai _ q) (aA _) ⟨_,e1⟩
 refine I1.laid (a:=s.heap.objs.size+1) (o:=.ins C s.heap.objs.size []) (t':=s.toks) (fun b u q=>ai _ q) (Nat.le_of_eq (Heap.size_push _ _)) ?_
 have ne:s.heap.objs.size≠s.heap.objs.size+1:=aT (Nat.lt_succ_self _)
 refine⟨by rw[cV ne,cA],Nat.zero_le _,ne,e2,fun _=>none,(Heap.Ns1.of_empty e3).at fun o q=>ai _ q,fun _=>True.intro,fun y hy=>absurd rfl hy⟩
theorem RP{prog:Program}{w:World}{env:Env}{e:Expr}{f:Str}{pos:Pos}{s:Shared}{Q:Value->Shared->Prop}(hb:attributeBase e f env (eval e env)=eval e env)
  (h:wpAny (model prog w) A (eval e env) (fun o s₁=>wpAny (model prog w) A (getAttr o f true) Q E s₁) E s):wpAny (model prog w) A (eval (.Attribute e f pos) env) Q E s:=
 Attribute_any_ h (by rw[arm_eval_Attribute,hb])
end
def Uk(K:PySem.W.Frag)(ta:TE)(f:Str):TE:=fun σ H Q=>ta σ H fun x H1=>∃a C dx fs v,x= .ref a/\H1 a=some (.ins C dx fs)/\Jy K C/\eZ K C f/\fs.lookup f=some v/\Q v H1
def X7(K:PySem.W.Frag)(ta tv:TE)(f:Str):TS:=fun D σ H=>tv σ H fun y H1=>ta σ H1 fun x H2=>∃a C dx fs,x= .ref a/\H2 a=some (.ins C dx fs)/\Jy K C/\eZ K C f/\fs.length<1000/\
 D.nx σ (upd H2 a (.ins C dx (dX f y fs)))
section
variable {X:Cx} {o e value:Expr} {f:Str} {pos pos' tpos:Pos} {ta tv:TE}
theorem cH(he:PE X e ta)(hb:attributeBase e f X.env (eval e X.env)=eval e X.env):PE X (.Attribute e f pos) (Uk X.K ta f):=by
 intro pins s σ H Q I h
 refine RP hb (ig (he pins s σ H _ I h) fun u s1 ⟨x,H1,I1,rx,a,C,dx,fs,v,ex,ea,c,n,l,q⟩=>?_)
 subst ex
 obtain rfl:u=Value.ref a:=rx
 exact Lv I1 ea c n l fun u' s2 I2 ru=>⟨v,H1,I2,ru,q⟩
theorem e8(ha:PE X o ta)(hv:PE X value tv)(hs:swapsWith value (some (.Attribute o f pos')) pos.line X.env=pure false):PS X (.Assign [.Attribute o f pos'] value pos) (X7 X.K ta tv f):=by
 intro pins s σ H D I h
 refine plainObj_wpAny_Assign_Attribute (ig (hv pins s σ H _ I h) fun u s1 ⟨y,H1,I1,ry,q⟩=>ig (ha pins s1 σ H1 _ I1 q) fun ov s2 ⟨x,H2,I2,rx,a,C,dx,fs,ex,ea,c,n,l,q2⟩=>?_) hs
 subst ex
 obtain rfl:ov=Value.ref a:=rx
 exact Lw I2 ea c n l ry fun s3 I3=>⟨σ,_,I3,q2⟩
end
section
variable {X:Cx} {pins:List (Addr×Obj)} {σ:St} {H:Hp} {s:Shared} {A:Around} {E:Value->Shared->Prop} {Q:Value->Shared->Prop} {c:Value} {b:Bool}
end
end L2
namespace L2
open PySem PySem.Spec PyProof.Rows
structure jW(k:Nat)(A:Around):Prop where
 hd:A.handled=none
 dp:A.depth+3*k+5<recursionLimit
 un:A.units+16*k+200<cLine
theorem jW.mono{j k:Nat}{A:Around}(r:jW k A)(h:j≤k):jW j A:=⟨r.hd,by have:=r.dp;omega,by have:=r.un;omega⟩
theorem jW.deeper{k:Nat}{A:Around}(r:jW (k+1) A)(env:Env):jW k (A.deeper env):=
 ⟨r.hd,by have:=r.dp;show A.depth+1+3*k+5<_;omega,by have:=r.un;show A.units+3+16*k+200<_;omega⟩
theorem Lx{A:Around}{C:Addr}{us:List Value}{kw:List (Str×Value)}:(A.under (.builtin "type.__call__" ⟨.ref C::us,kw⟩)).depth=A.depth+1:=by
 first | rfl | simp[Around.under,Code.weight,Code.isCreation,Code.isGuard,Code.isCaller,Code.frames,Code.isFrame,guardIds]
theorem Ly{A:Around}{C:Addr}{us:List Value}{kw:List (Str×Value)}:(A.under (.builtin "type.__call__" ⟨.ref C::us,kw⟩)).units=A.units+1:=by
 first | rfl | simp[Around.under,Code.cUnits,Code.frames,Code.isFrame]
theorem jW.make{k:Nat}{A:Around}(r:jW (k+1) A)(C:Addr)(us:List Value)(kw:List (Str×Value)):jW k (A.under (.builtin "type.__call__" ⟨.ref C::us,kw⟩)):=
 ⟨r.hd,by have:=r.dp;rw[Lx];omega,by have:=r.un;rw[Ly];omega⟩
theorem jW.depth{k:Nat}{A:Around}(r:jW k A):A.depth<recursionLimit:=by have:=r.dp;omega
theorem jW.units{k:Nat}{A:Around}(r:jW k A):A.units+64<cLine:=by have:=r.un;omega
def Ul:TA:=fun _ H Q=>Q [] H
def VU(ta:TE)(tr:TA):TA:=fun σ H Q=>ta σ H fun x H1=>tr σ H1 fun xs H2=>Q (x::xs) H2
section
variable {X:Cx} {e:Expr} {es:List Expr} {te:TE} {t:TA} {pos:Pos}
theorem cz:PA X [] Ul:=fun _ _ _ _ H Q I h=>Calls.spliced_nil ⟨[],H,I,.nil,h⟩
theorem b9(ha:PE X e te)(hr:PA X es t)(hs:starEach (e::es) X.env=(false,eval e X.env)::starEach es X.env:=by rfl):PA X (e::es) (VU te t):=by
 intro pos pins s σ H Q I h
 rw[hs]
 show wpAny _ _ (spliced ((false,eval e X.env)::backTo pos (starEach es X.env))) _ _ s
 refine Calls.spliced_cons (ig (ha pins s σ H _ I h) fun u s1 ⟨x,H1,I1,r1,q1⟩=>?_)
 exact ig (hr pos pins s1 σ H1 _ I1 q1) fun us s2 ⟨xs,H2,I2,r2,q2⟩=>⟨x::xs,H2,I2,.cons r1 r2,q2⟩
def X8(t:TA):TE:=fun σ H Q=>t σ H fun xs H1=>xs.length≤sizeLine/\ ∀p,H1 p=none->Q (.ref p) (upd H1 p (.lst xs))
theorem dc(h:PA X es t):PE X (.List es pos) (X8 t):=by
 intro pins s σ H Q I hq
 refine wpAny_List_spliced (ig (h pos pins s σ H _ I hq) fun us s1 ⟨xs,H1,I1,r,z,q⟩=>⟨by rw[<-r.length];exact z,?_⟩)
 have hf:H1 s1.heap.objs.size=none:=I1.hok.fresh (aA _)
 refine⟨.ref s1.heap.objs.size,upd H1 s1.heap.objs.size (.lst xs),I1.laid (t':=s1.toks) (fun b u e=>ai _ e) (aA _) ?_,rfl,q _ hf⟩
 exact⟨z,us,0,r,aF _ rfl⟩
end
abbrev Sp:=List V->Hp->VK->XK->Prop
abbrev O1:=List Env->Hp->Shared->XK->Value->Shared->Prop
structure Lz(P:Program)(w:World)(K:PySem.W.Frag)(mg:Str->Option Value)(base:Heap)(A:Around)(outer:List Env)(s:Shared)(H:Hp):Prop where
 frames:A.frames=some outer
 mod:Mod K mg base
 bs:∀b o,base.get? b=some o->s.heap.get? b=some o/\H b=none
 RI:base.objs.size≤s.heap.objs.size
 Dy:s.heap.FunFrames base outer
 Ub:∀b∈frs outer,H b=none
 hok:vq P w H s.heap
 bare:AllBare s.gens
def CE(outer:List Env)(P:Program)(w:World)(H:Hp)(s:Shared)(Q:VK)(u:Value)(s':Shared):Prop:=
 ∃v H',s'.os=s.os/\AllBare s'.gens/\Un (frs outer) [] H H' s.heap s'.heap/\vq P w H' s'.heap/\RelV v u/\Q v H'
def CR(CX:O1)(outer:List Env)(P:Program)(w:World)(H:Hp)(s:Shared)(Q:VK)(E:XK)(r:Result)(s':Shared):Prop:=
 match r with
 |.ok (.ret u)=>CE outer P w H s Q u s'
 |.ok _=>False
 |.error e=>CX outer H s E e s'
structure yu(P:Program)(w:World)(K:PySem.W.Frag)(mg:Str->Option Value)(base:Heap)(CX:O1)(k:Nat)(f:Addr)(fd:FuncData)(ps:List Str)(sp:Sp):Prop where
 len:∀vs H Q E,sp vs H Q E->vs.length=ps.length
 run:∀(A:Around)(outer:List Env)(s:Shared)(H:Hp)(args:Args)(us:List Value)(vs:List V)(Q:VK)(E:XK),jW k A->Lz P w K mg base A outer s H->BindsTo s fd args (ps.zip us)->Vals vs us->sp vs H Q E->
  codeAny (model P w) A (.call (.ref f) args) (CR CX outer P w H s Q E) s
theorem Lz.make{P:Program}{w:World}{K:PySem.W.Frag}{mg:Str->Option Value}{base:Heap}{A:Around}{outer:List Env}{s:Shared}{H:Hp}(e:Lz P w K mg base A outer s H)(C:Addr)(us:List Value)(kw:List (Str×Value)):
 Lz P w K mg base (A.under (.builtin "type.__call__" ⟨.ref C::us,kw⟩)) outer s H:=⟨by first | exact e.frames | (simpa [Around.under,Code.envs,Code.isFrame,pushEnvs] using e.frames),e.mod,e.bs,e.RI,e.Dy,e.Ub,e.hok,e.bare⟩
section
variable {X:Cx} {pins:List (Addr×Obj)} {σ:St} {H:Hp} {s s':Shared}
theorem Inv.VV(I:Inv X pins σ H s):Lz X.prog X.w X.K X.mg X.base X.A X.stack s H:=
 ⟨I.ok.frames,I.ok.mod,I.bs,aS I.ok.RI I.sz,I.stack,I.MN,I.hok,I.bare⟩
theorem Inv.after{Q:VK}{u:Value}(I:Inv X pins σ H s)(h:CE X.stack X.prog X.w H s Q u s'):EP X pins σ Q u s':=by
 obtain⟨v,H',os,bare,un,hok,r,q⟩:=h
 obtain⟨hh,g,d,t,os'⟩:=s'
 obtain rfl:os'=s.os:=os
 exact⟨v,H',I.call (h':=hh) (g':=g) (d':=d) (t':=t) (ch:=[]) un hok bare (fun b z=>absurd z (by simp)),r,q⟩
end
def Ph(sp:Sp)(Jz:List V)(E:XK)(t:TA):TE:=fun σ H Q=>t σ H fun vs H1=>sp (vs++Jz) H1 Q E
def JA(C:Addr)(sp:Sp)(Jz:List V)(E:XK)(t:TA):TE:=fun σ H Q=>t σ H fun vs H1=>∀x dx,H1 x=none->H1 dx=none->dx≠x->
 sp (.ref x::(vs++Jz)) (upd (upd H1 dx (.own x)) x (.ins C dx [])) (fun v H2=>v= .f6/\Q (.ref x) H2) E
def Binds(K:PySem.W.Frag)(fd:FuncData)(ps:List Str)(ds:List Value):Prop:=
 ∀(s:Shared)(us:List Value),K.In s.heap->(us++ds).length=ps.length->BindsTo s fd ⟨us,[]⟩ (ps.zip (us++ds))
theorem Binds.all{K:PySem.W.Frag}{fd:FuncData}{ps:List Str}(h:∀us:List Value,us.length=ps.length->bindArgs fd ⟨us,[]⟩=pure (ps.zip us)):Binds K fd ps []:=fun s us _ hl=>by
 rw[List.append_nil]at hl ⊢
 exact .of_eq (h us hl)
def Passes(CX:O1)(X:Cx)(E:XK):Prop:=∀(pins:List (Addr×Obj))(σ:St)(H:Hp)(s:Shared)(e:Value)(s':Shared),Inv X pins σ H s->CX X.stack H s E e s'->X.xe e s'
section
variable {X:Cx} {CX:O1} {k:Nat} {f C:Addr} {fd:FuncData} {ps:List Str} {sp:Sp} {Jz:List V} {ds:List Value} {E:XK} {x m:Str} {p pos apos:Pos} {e o:Expr} {es:List Expr} {ta:TE} {t:TA}
theorem Pj{pins:List (Addr×Obj)}{σ:St}{H:Hp}{s:Shared}{Q:VK}{us:List Value}{vs:List V}(F:yu X.prog X.w X.K X.mg X.base CX k f fd ps sp)(hr:jW k X.A)(hb:Binds X.K fd ps ds)(hd:Vals Jz ds)(hx:Passes CX X E)
  (I:Inv X pins σ H s)(r:Vals vs us)(h:sp (vs++Jz) H Q E):wpAny (model X.prog X.w) X.A (call (.ref f) us) (EP X pins σ Q) X.xe s:=by
 have r2:Vals (vs++Jz) (us++ds):=r.append hd
 have hl:(us++ds).length=ps.length:=by rw[<-r2.length];exact F.len _ _ _ _ h
 refine wpAny_call (codeAny_mono (F.run X.A X.stack s H ⟨us,[]⟩ (us++ds) (vs++Jz) Q E hr I.VV (hb s us I.MM hl) r2 h) fun r s' hq=>?_)
 cases r with
 |error e=>exact hx pins σ H s e s' I hq
 |ok fl=>
  cases fl with
  |ret u=>exact I.after hq
  |next=>exact False.elim hq
  |brk=>exact False.elim hq
  |cont=>exact False.elim hq
theorem RQ(F:yu X.prog X.w X.K X.mg X.base CX k f fd ps sp)(hr:jW k X.A)(hg:Gl X x)(hm:X.mg x=some (.ref f))(hk:PySem.W.keepIn X.K (.ref f)=true)(hb:Binds X.K fd ps ds)(hd:Vals Jz ds)(hx:Passes CX X E)
  (ha:PA X (e::es) t)(hdb:(x==("__debug__":Str))=false:=by decide)(he:starEach (e::es) X.env=(false,eval e X.env)::starEach es X.env:=by rfl)(hpl:(backTo pos (starEach es X.env)).any (·.1)=false:=by rfl):
  PE X (.Call (.Name x p) (e::es) [] pos) (Ph sp Jz E t):=by
 intro pins s σ H Q I h
 refine wpAny_Call_Name_kw (AF I hg hm ?_ hdb)
 refine PySem.W.callWith_K (h₀:=X.base) I.ok.mod.VD hk (ig (ha pos pins s σ H _ I h) fun us s1 ⟨vs,H1,I1,r,q⟩=>⟨I1.MM,?_⟩) he hpl
 exact Pj F hr hb hd hx I1 r q
structure Mk(K:PySem.W.Frag)(C f:Addr):Prop where
 makes:PySem.W.makesIn K C=true
 init:PySem.W.findIn K (.ref C) "__init__"=some (some (.ref f))
 fn:PySem.W.isFn K (.ref f)=true
 kp:PySem.W.keepIn K (.ref C)=true
theorem JB{pins:List (Addr×Obj)}{σ:St}{H:Hp}{s:Shared}{Q:VK}{us:List Value}{vs:List V}(M:Mk X.K C f)(F:yu X.prog X.w X.K X.mg X.base CX k f fd ps sp)(hr:jW (k+1) X.A)(hb:Binds X.K fd ps ds)(hd:Vals Jz ds)
  (hx:Passes CX X E)(I:Inv X pins σ H s)(r:Vals vs us)
  (h:∀x dx,H x=none->H dx=none->dx≠x->sp (.ref x::(vs++Jz)) (upd (upd H dx (.own x)) x (.ins C dx [])) (fun v H2=>v= .f6/\Q (.ref x) H2) E):
  wpAny (model X.prog X.w) X.A (call (.ref C) us) (EP X pins σ Q) X.xe s:=by
 have hq:=h (s.heap.objs.size+1) s.heap.objs.size (I.hok.fresh (Nat.le_succ _)) (I.hok.fresh (aA _)) (aT (Nat.lt_succ_self _))
 have I2:=Inv.made (C:=C) I
 have r2:Vals (V.ref (s.heap.objs.size+1)::(vs++Jz)) (Value.ref (s.heap.objs.size+1)::(us++ds)):=.cons rfl (r.append hd)
 have hl:(Value.ref (s.heap.objs.size+1)::us++ds).length=ps.length:=by
  have e:=r2.length
  rw[F.len _ _ _ _ hq]at e
  exact e.symm
 refine wpAny_call (Pg (f:=f) I.MM M.makes M.init (beq_iff_eq.mp M.fn) (codeAny_mono (F.run _ X.stack _ _ ⟨Value.ref (s.heap.objs.size+1)::us,[]⟩ (Value.ref (s.heap.objs.size+1)::(us++ds)) _ _ E (hr.make C us [])
  (I2.VV.make C us []) (hb _ (Value.ref (s.heap.objs.size+1)::us) I2.MM hl) r2 hq) fun r s' hq'=>?_))
 cases r with
 |error e=>exact hx pins σ _ _ e s' I2 hq'
 |ok fl=>
  cases fl with
  |ret u=>
   obtain⟨v,H',I3,rv,ev,q3⟩:=I2.after hq'
   subst ev
   exact⟨rv,⟨V.ref (s.heap.objs.size+1),H',I3,rfl,q3⟩⟩
  |next=>exact False.elim hq'
  |brk=>exact False.elim hq'
  |cont=>exact False.elim hq'
theorem RS(M:Mk X.K C f)(F:yu X.prog X.w X.K X.mg X.base CX k f fd ps sp)(hr:jW (k+1) X.A)(hg:Gl X x)(hm:X.mg x=some (.ref C))(hb:Binds X.K fd ps ds)(hd:Vals Jz ds)(hx:Passes CX X E)
  (ha:PA X (e::es) t)(hdb:(x==("__debug__":Str))=false:=by decide)(he:starEach (e::es) X.env=(false,eval e X.env)::starEach es X.env:=by rfl)(hpl:(backTo pos (starEach es X.env)).any (·.1)=false:=by rfl):
  PE X (.Call (.Name x p) (e::es) [] pos) (JA C sp Jz E t):=by
 intro pins s σ H Q I h
 refine wpAny_Call_Name_kw (AF I hg hm ?_ hdb)
 refine PySem.W.callWith_K (h₀:=X.base) I.ok.mod.VD M.kp (ig (ha pos pins s σ H _ I h) fun us s1 ⟨vs,H1,I1,r,q⟩=>⟨I1.MM,?_⟩) he hpl
 exact JB M F hr hb hd hx I1 r q
theorem Pk(M:Mk X.K C f)(F:yu X.prog X.w X.K X.mg X.base CX k f fd ps sp)(hr:jW (k+1) X.A)(hg:Gl X x)(hm:X.mg x=some (.ref C))(hb:Binds X.K fd ps ds)(hd:Vals Jz ds)(hx:Passes CX X E)
  (hdb:(x==("__debug__":Str))=false:=by decide):PE X (.Call (.Name x p) [] [] pos) (JA C sp Jz E Ul):=by
 intro pins s σ H Q I h
 refine wpAny_Call_Name_kw (AF I hg hm ?_ hdb)
 exact PySem.W.callWith_K0 I.MM M.kp (JB (us:=[]) M F hr hb hd hx I .nil h)
end
section
variable {X:Cx} {CX:O1} {k:Nat} {f C:Addr} {fd:FuncData} {ps ks:List Str} {sp:Sp} {E:XK} {x m:Str} {p pos apos kpos:Pos} {e o:Expr} {es:List Expr} {kws:List Keyword} {te ta:TE} {t tk:TA} {nm:Option Str}
variable {g:List Value->List Value->List Value} {gV:List V->List V->List V}
end
structure cT(N P:List Str)(sc:Scope):Prop where
 kind:sc.kind= .function
 co:sc.isCoroutine=false
 gen:sc.isGenerator=false
 nd:N.Nodup
 pre:N.take P.length=P
 par:∀x∈P,sc.names.lookup x=some .local∨sc.names.lookup x=some .cell
 Um:∀y∈sc.names,y.2≠ .free
theorem GO{kindOf:Str->Option NameKind}{x:Str}:∀{binds:List (Str×Value)}{m:Str->Option Value},(∀v,(x,v)∉binds)->bindL kindOf binds m x=m x
 |[],_,_=>rfl
 |(n,v)::r,m,h=>by
  unfold bindL
  rw[GO fun w hw=>h w (au _ hw)]
  split
  ·have:x≠n:=by rintro rfl;exact h v aH
   simp[this]
  ·rfl
theorem GP{kindOf:Str->Option NameKind}{x:Str}:∀{binds:List (Str×Value)}{m:Str->Option Value},(∀v,(x,v)∉binds)->bindC kindOf binds m x=m x
 |[],_,_=>rfl
 |(n,v)::r,m,h=>by
  unfold bindC
  rw[GP fun w hw=>h w (au _ hw)]
  split
  ·rfl
  ·have:x≠n:=by rintro rfl;exact h v aH
   simp[this]
theorem GQ{kindOf:Str->Option NameKind}{x:Str}{v:Value}:∀{P:List Str}{vs:List Value}{i:Nat}{m:Str->Option Value},P.Nodup->P[i]?=some x->vs[i]?=some v->kindOf x=some .local->
  bindL kindOf (P.zip vs) m x=some v
 |[],_,_,_,_,h,_,_=>by simp at h
 |_::_,[],_,_,_,_,h,_=>by simp at h
 |p::P,w::vs,0,m,nd,h1,h2,hk=>by
  simp at h1 h2;subst h1;subst h2
  show bindL kindOf ((p,w)::P.zip vs) m p=_
  unfold bindL
  rw[GO fun v hv=>(bQ.mp nd).1 (List.of_mem_zip hv).1,bA hk]
  simp
 |p::P,w::vs,i+1,m,nd,h1,h2,hk=>by
  show bindL kindOf ((p,w)::P.zip vs) m x=_
  unfold bindL
  exact GQ (i:=i) (bQ.mp nd).2 (by simpa using h1) (by simpa using h2) hk
theorem GR{kindOf:Str->Option NameKind}{x:Str}{v:Value}:∀{P:List Str}{vs:List Value}{i:Nat}{m:Str->Option Value},P.Nodup->P[i]?=some x->vs[i]?=some v->kindOf x≠some .local->
  bindC kindOf (P.zip vs) m x=some v
 |[],_,_,_,_,h,_,_=>by simp at h
 |_::_,[],_,_,_,_,h,_=>by simp at h
 |p::P,w::vs,0,m,nd,h1,h2,hk=>by
  simp at h1 h2;subst h1;subst h2
  show bindC kindOf ((p,w)::P.zip vs) m p=_
  unfold bindC
  rw[GP fun v hv=>(bQ.mp nd).1 (List.of_mem_zip hv).1,bz hk]
  simp
 |p::P,w::vs,i+1,m,nd,h1,h2,hk=>by
  show bindC kindOf ((p,w)::P.zip vs) m x=_
  unfold bindC
  exact GR (i:=i) (bQ.mp nd).2 (by simpa using h1) (by simpa using h2) hk
def start(N:List Str)(vs:List V):St:=vs.map some++List.replicate (N.length-vs.length) none
def JC(CX:O1)(P:Program)(w:World)(K:PySem.W.Frag)(mg:Str->Option Value)(base:Heap)(N:List Str)(qual:Str)(scope:Scope)(f:Addr)(cd:Value)(A:Around)(outer:List Env)(s:Shared)(H:Hp)(E:XK):Cx where
 prog:=P
 w:=w
 K:=K
 mg:=mg
 base:=base
 A:=A.deeper (envOfC qual scope s.heap.objs.size f cd)
 N:=N
 GI:=s
 Ua:=H
 env:=envOfC qual scope s.heap.objs.size f cd
 outer:=outer
 stack:=envOfC qual scope s.heap.objs.size f cd::outer
 ex:=[]
 calm:=true
 fn:=fun _=>true
 pn:=[]
 xe:=fun e s'=>wpAny (model P w) (A.deeper (envOfC qual scope s.heap.objs.size f cd)) (leaving (envOfC qual scope s.heap.objs.size f cd) e) (fun _ s''=>CX outer H s E e s'') (fun e' s''=>CX outer H s E e' s'') s'
theorem JD{sc:Scope}{n:Nat}{x:Str}(h:sc.names.lookup x=some .cell):∃c,(cellsFrom n sc.names []).lookup x=some c:=by
 have q:=PySem.W.cellsFrom_some sc.names n [] (.inl h)
 exact Option.isSome_iff_exists.mp q
theorem N8{CX:O1}{P:Program}{w:World}{K:PySem.W.Frag}{mg:Str->Option Value}{base:Heap}{N ps:List Str}{qual:Str}{scope:Scope}{f:Addr}{cd:Value}{A:Around}{outer:List Env}{s s1:Shared}{H:Hp}{E:XK}{us:List Value}{vs:List V}
  (S:cT N ps scope)(hd:A.handled=none)(e0:Lz P w K mg base A outer s H)(hl:vs.length=ps.length)(r:Vals vs us)
  (x:InCallC s s.heap.objs.size (bindL (envOfC qual scope s.heap.objs.size f cd).kindOf (ps.zip us) fun _=>none) (cellsFrom (s.heap.objs.size+1) scope.names []) (bindC (envOfC qual scope s.heap.objs.size f cd).kindOf (ps.zip us) fun _=>none) s1):
  Inv (JC CX P w K mg base N qual scope f cd A outer s H E) [] (start N vs) H s1:=by
 have hpl:ps.length≤N.length:=by have:=congrArg List.length S.pre;rw[aJ]at this;omega
 obtain⟨h1,tk,rfl,hk⟩:=x.done
 have Vm:∀b:Addr,b∉(JC CX P w K mg base N qual scope f cd A outer s H E).ex:=fun b z=>absurd (show b∈([]:List Addr)from z) (by simp)
 refine⟨⟨e0.mod,S.kind,rfl,rfl,aA _,fun y z c h1 h2=>?_,fun y hy=>?_,fun y c _ h=>?_,fun _=>hd,Around.frames_deeper e0.frames,.inr ⟨rfl,rfl⟩,fun b z=>absurd z (Vm b),e0.bs,e0.RI,fun b _ _=>Vm b,fun b z=>absurd z (Vm b),e0.Dy,e0.Ub⟩,
  rfl,e0.bare,Un.kept hk,⟨_,x.toInCall.ns,fun i y v h1 h2 h3=>?_⟩,fun y c h=>⟨_,x.cell y c h⟩,e0.hok.fresh (aA _),fun y c h=>?_,fun p hp=>absurd (show p∈([]:List (Addr×Obj))from hp) (by simp),e0.hok.kept hk,?_⟩
 ·exact name_of_addr x.apart (bu h1) (bu h2)
 ·have hy:scope.names.lookup y=some .cell∨scope.names.lookup y=some .free:=hy
  rcases hy with hy | hy
  ·exact JD hy
  ·exact absurd rfl (S.Um _ (bu hy))
 ·exact Nat.le_of_lt (x.above y c (bu h))
 ·have hi:i<vs.length:=by
   unfold start at h2
   by_cases hi:i<vs.length
   ·exact hi
   ·rw[bP (by simpa using hi)]at h2
    rw[List.getElem?_replicate]at h2
    split at h2 <;> cases h2
  have ha:vs[i]?=some v:=by
   unfold start at h2
   rw[bO (by simpa using hi),aE]at h2
   cases e:vs[i]? with
   |none=>rw[e]at h2;cases h2
   |some a=>rw[e]at h2;cases h2;rfl
  obtain⟨u,hu,rv⟩:=r.get ha
  have hp:ps[i]?=some y:=by
   rw[<-S.pre,List.getElem?_take_of_lt (by omega)];exact h1
  have ZI:ps.Nodup:=by rw[<-S.pre];exact S.nd.sublist (List.take_sublist _ _)
  refine⟨u,rv,?_⟩
  rcases S.par y (ak hp)with k | k
  ·exact .inl ⟨k,GQ ZI hp hu k⟩
  ·obtain⟨c,e⟩:=JD (n:=s.heap.objs.size+1) k
   refine .inr ⟨.inl k,c,e,?_⟩
   have q:=x.cell y c e
   rw[GR ZI hp hu (by show scope.names.lookup y≠_;rw[k];decide)]at q
   exact q
 ·exact e0.hok.fresh (Nat.le_of_lt (x.above y c (bu h)))
 ·unfold start
  show _=N.length
  rw[ao,aa,List.length_replicate]
  omega
theorem VW{CX:O1}{P:Program}{w:World}{K:PySem.W.Frag}{mg:Str->Option Value}{base:Heap}{k:Nat}{f:Addr}{name qual:Str}{params:Arguments}{body:List Stmt}{scope:Scope}{dV kV doc pm cdv ct oc:Value}{an od:Option Addr}
  {osl:Array (Option Value)}{N ps:List Str}{sp:Sp}(lk:K.lookup f=some ⟨oc,od,.func (PySem.W.fnOf name qual params body scope dV kV doc pm an cdv ct),osl⟩)(hcd:PySem.W.codeIn K cdv qual=true)(S:cT N ps scope)
  (len:∀vs H Q E,sp vs H Q E->vs.length=ps.length)
  (hbody:∀(A:Around)(outer:List Env)(s:Shared)(H:Hp)(vs:List V)(Q:VK)(E:XK),jW k (A.deeper (envOfC qual scope s.heap.objs.size f cdv))->sp vs H Q E->
   ∃t,Lq (JC CX P w K mg base N qual scope f cdv A outer s H E) body t/\t { nx:=fun _ H'=>Q .f6 H',rt:=Q } (start N vs) H):
  yu P w K mg base CX (k+1) f (PySem.W.fnOf name qual params body scope dV kV doc pm an cdv ct) ps sp:=by
 refine⟨len,fun A outer s H args us vs Q E hr e0 hb r Ru=>?_⟩
 have hl:=len _ _ _ _ Ru
 have KX:K.In s.heap:=e0.mod.VD.keeps fun b o e=>(e0.bs b o e).1
 have lim:s.heap.NoLimit:=e0.mod.nolimit.keeps fun b o e=>(e0.bs b o e).1
 have hkind:∀y∈ps.zip us,scope.names.lookup y.1=some .local∨(scope.names.lookup y.1=some .cell/\((cellsFrom (s.heap.objs.size+1) scope.names []).lookup y.1).isSome=true):=fun⟨n,v⟩ hy=>by
  rcases S.par n (List.of_mem_zip hy).1 with q | q
  ·exact .inl q
  ·exact .inr ⟨q,PySem.W.cellsFrom_some _ _ _ (.inl q)⟩
 refine codeAny_call_function hr.depth (KX _ _ lk) rfl S.co S.gen rfl (PySem.W.codeRec_of KX hcd) (hb _ _ _ _ ?_)
 refine wpAny_newFunctionEnv_cells S.kind hkind fun env he s1 x=>?_
 subst he
 refine⟨lim.keeps x.toInCall.keep,codeAny_func ?_⟩
 obtain⟨t,ht,hq⟩:=hbody A outer s H vs Q E (hr.deeper _) Ru
 have I:Inv (JC CX P w K mg base N qual scope f cdv A outer s H E) [] (start N vs) H s1:=N8 S hr.hd e0 hl r x
 refine wpAny_mono (ht [] s1 (start N vs) H _ I hq) (fun fl s' hs=>?_) fun e s' hs=>hs
 have fin:∀{σ':St}{H':Hp}{v:V}{u:Value},Inv (JC CX P w K mg base N qual scope f cdv A outer s H E) [] σ' H' s'->RelV v u->Q v H'->CE outer P w H s Q u s':=
  fun{σ' H' v u} J rv q=>⟨v,H',J.os,J.bare,J.base,J.hok,rv,q⟩
 cases fl with
 |ret u=>
  obtain⟨v,σ',H',J,rv,q⟩:=hs
  exact fin J rv q
 |next=>
  obtain⟨σ',H',J,q⟩:=hs
  exact fin (v:=V.f6) (u:=Value.none) J rfl q
 |brk=>
  obtain⟨_,_,_,q⟩:=hs
  exact False.elim q
 |cont=>
  obtain⟨_,_,_,q⟩:=hs
  exact False.elim q
end L2
namespace L2
open PySem PySem.Spec PyProof.Rows
section
variable {X:Cx} {x:Str} {p pos:Pos} {e:Expr} {es:List Expr} {t:TA} {id T:String} {r:List V->Hp->VK->Prop}
def Xi(r:List V->Hp->VK->Prop)(t:TA):TE:=fun σ H Q=>t σ H fun vs H1=>r vs H1 Q
theorem dD(hc:AJ X (.builtin id) r)(hg:Gl X x)(hm:X.mg x=none)(hv:bootBuiltins x=some (.builtin id))(ha:PA X (e::es) t)(hn:x≠"__name__":=by decide)(hdb:(x==("__debug__":Str))=false:=by decide)
  (he:starEach (e::es) X.env=(false,eval e X.env)::starEach es X.env:=by rfl)(hpl:(backTo pos (starEach es X.env)).any (·.1)=false:=by rfl):PE X (.Call (.Name x p) (e::es) [] pos) (Xi r t):=by
 intro pins s σ H Q I h
 refine wpAny_Call_Name_kw (qO I hg hm hv ?_ hn hdb)
 exact PyProof.Rows.callWith_builtin1 (ig (ha pos pins s σ H _ I h) fun us s1 ⟨vs,H1,I1,r1,q1⟩=>hc pins s1 σ H1 vs us Q I1 r1 q1) he hpl
theorem N9(hc:AJ X (.type T) r)(hg:Gl X x)(hm:X.mg x=none)(hv:bootBuiltins x=some (.type T))(ha:PA X (e::es) t)(hn:x≠"__name__":=by decide)(hdb:(x==("__debug__":Str))=false:=by decide)
  (he:starEach (e::es) X.env=(false,eval e X.env)::starEach es X.env:=by rfl)(hpl:(backTo pos (starEach es X.env)).any (·.1)=false:=by rfl):PE X (.Call (.Name x p) (e::es) [] pos) (Xi r t):=by
 intro pins s σ H Q I h
 refine wpAny_Call_Name_kw (qO I hg hm hv ?_ hn hdb)
 exact PyProof.Rows.callWith_type1 (ig (ha pos pins s σ H _ I h) fun us s1 ⟨vs,H1,I1,r1,q1⟩=>hc pins s1 σ H1 vs us Q I1 r1 q1) he hpl
end
end L2
namespace HT
open PySem PyProof.Rows
section
open PySem.SeqAt
open PySem.AutoSeq1 (wpAny_loadPart')
open PySem.MeetsSeq PySem.MeetsSeq2 PySem.MeetsSeq3
end
section
variable {prog:Program} {w:World} {A:Around} {E:Value->Shared->Prop} {s:Shared}
def Gg(n d:Nat):Option Int->Nat
 |none=>d
 |some v=>if v<0 then (v+(n:Int)).toNat else min v.toNat n
theorem Pn(n d:Nat):Gg n d none=d:=rfl
theorem DW(n d k:Nat):Gg n d (some (k:Int))=min k n:=by
 show (if (k:Int)<0 then ((k:Int)+(n:Int)).toNat else min (k:Int).toNat n)=min k n
 rw[bz (by omega),bw]
end
end HT
namespace L2
open PySem PySem.Spec PyProof.Rows
abbrev TO:=St->Hp->(Option Int->Hp->Prop)->Prop
def PO(X:Cx)(e:Option Expr)(t:TO):Prop:=
 ∀(pins:List (Addr×Obj))(s:Shared)(σ:St)(H:Hp)(Q:Option Int->Hp->Prop),Inv X pins σ H s->t σ H Q->
  wpAny (model X.prog X.w) X.A (evalPart e X.env) (fun u s'=>∃o H',Inv X pins σ H' s'/\IsPart u o/\Q o H') X.xe s
def RT:TO:=fun _ H Q=>Q none H
def VX(t:TE):TO:=fun σ H Q=>t σ H fun x H1=>∃i,x= .int i/\Q (some i) H1
section
variable {X:Cx} {e:Expr} {te:TE} {lo hi:Option Expr} {tl th:TO} {pos p2:Pos}
theorem Ia:PO X none RT:=by
 intro pins s σ H Q I h
 rw[evalPart_none]
 exact aV ⟨none,H,I,.none,h⟩
theorem AK(h:PE X e te):PO X (some e) (VX te):=by
 intro pins s σ H Q I hw
 rw[evalPart_some]
 refine ig (h pins s σ H _ I hw) fun u s1 ⟨x,H1,I1,r1,q1⟩=>?_
 obtain⟨i,rfl,q⟩:=q1
 obtain⟨t,rfl⟩:=r1
 exact⟨some i,H1,I1,.int i t,q⟩
def ZJ(X:Cx)(r:V->Option Int->Option Int->Hp->VK->Prop):Prop:=
 ∀(pins:List (Addr×Obj))(s:Shared)(σ:St)(H:Hp)(x:V)(v vl vu:Value)(lo hi:Option Int)(sl:Addr)(Q:VK),Inv X pins σ H s->RelV x v->s.heap.IsSliceOf sl vl vu .none->IsPart vl lo->IsPart vu hi->r x lo hi H Q->
  ∃T id,typeLookup (.type T) "__getitem__"=pure (some (.builtin id))/\s.TypeIs v T/\wpAny (model X.prog X.w) X.A (getItem v (.ref sl)) (EP X pins σ Q) X.xe s
def tSl(r:V->Option Int->Option Int->Hp->VK->Prop)(te:TE)(tl th:TO):TE:=fun σ H Q=>te σ H fun x H1=>tl σ H1 fun l H2=>th σ H2 fun u H3=>r x l u H3 Q
theorem AL{r:V->Option Int->Option Int->Hp->VK->Prop}(hr:ZJ X r)(he:PE X e te)(hl:PO X lo tl)(hu:PO X hi th):PE X (.Subscript e (.Slice lo hi none p2) pos) (tSl r te tl th):=by
 intro pins s σ H Q I h
 refine Subscript_ (ig (he pins s σ H _ I h) fun v s1 ⟨x,H1,I1,r1,q1⟩=>?_)
 refine wpAny_Slice (ig (hl pins s1 σ H1 _ I1 q1) fun vl s2 ⟨l,H2,I2,pl,q2⟩=>ig (hu pins s2 σ H2 _ I2 q2) fun vu s3 ⟨u,H3,I3,pu,q3⟩=>?_)
 rw[evalPart_none]
 refine aV ?_
 have I4:Inv X pins σ H3 { s3 with heap:=s3.heap.push { cls:=.type "slice",data:=.fields #[vl,vu,.none] } }:=I3.kept (t':=s3.toks) fun b ob q=>ai _ q
 obtain⟨T,id,hT,ht,hg⟩:=hr pins { s3 with heap:=s3.heap.push { cls:=.type "slice",data:=.fields #[vl,vu,.none] } } σ H3 x v vl vu l u s3.heap.objs.size Q I4 r1 (Heap.IsSliceOf.new ..) pl pu q3
 show wpAny (model X.prog X.w) X.A (subscriptTail e (.Slice lo hi none p2) v (.ref s3.heap.objs.size)) (EP X pins σ Q) X.xe { s3 with heap:=s3.heap.push { cls:=.type "slice",data:=.fields #[vl,vu,.none] } }
 exact tail_any (ops:=[.ref s3.heap.objs.size,v]) ht hT hg (by with_unfolding_all rfl)
def Em(xs:List V)(lo hi:Option Int):List V:=(xs.drop (HT.Gg xs.length 0 lo)).take (HT.Gg xs.length xs.length hi-HT.Gg xs.length 0 lo)
theorem JE(xs:List V)(lo hi:Option Int):(Em xs lo hi).length≤xs.length:=by
 unfold Em
 rw[aJ,List.length_drop]
 omega
end
end L2
namespace L2
open PySem PySem.Spec PyProof.Rows
def Td(n:Nat)(i:Int):Option Nat:=if 0≤i then (if i<n then some i.toNat else none) else if -(n:Int)≤i then some (i+n).toNat else none
def RU{α:Type}(xs:List α)(i:Int):Option α:=(Td xs.length i).bind fun j=>xs[j]?
theorem RV{n:Nat}{i:Int}{j:Nat}(h:Td n i=some j):seqIndex? i n=some j/\j<n/\ -(n:Int)≤i/\i<n:=by
 unfold Td at h
 by_cases h0:0≤i
 ·rw[bA h0]at h
  by_cases h1:i<n
  ·rw[bA h1]at h
   have e:i.toNat=j:=az h
   exact⟨by rw[seqIndex_of h0 h1,e],by omega,by omega,h1⟩
  ·rw[bz h1]at h;cases h
 ·rw[bz h0]at h
  by_cases h1: -(n:Int)≤i
  ·rw[bA h1]at h
   have e:(i+n).toNat=j:=az h
   exact⟨by rw[seqIndex_neg (by omega) h1,e],by omega,h1,by omega⟩
  ·rw[bz h1]at h;cases h
theorem RW{α:Type}{xs:List α}{i:Int}{v:α}(h:RU xs i=some v):∃j,seqIndex? i xs.length=some j/\xs[j]?=some v/\j<xs.length/\ -(xs.length:Int)≤i/\i<xs.length:=by
 unfold RU at h
 cases e:Td xs.length i with
 |none=>rw[e]at h;cases h
 |some j=>
  rw[e]at h
  obtain⟨h1,h2,h3,h4⟩:=RV e
  exact⟨j,h1,h,h2,h3,h4⟩
theorem kJ{α:Type}{xs:List α}{j:Nat}{v:α}(h:xs[j]?=some v):RU xs (j:Int)=some v:=by
 have hj:j<xs.length:=(af.mp h).1
 have e:Td xs.length (j:Int)=some j:=by
  unfold Td
  rw[bA (by omega),bA (by omega)];simp
 unfold RU;rw[e];exact h
theorem JF{α:Type}(xs:List α)(v:α):RU (xs++[v]) (-1)=some v:=by
 have hl:(xs++[v]).length=xs.length+1:=by simp
 have e:Td (xs++[v]).length (-1)=some xs.length:=by
  unfold Td
  rw[hl,bz (by decide),bA (by omega)]
  congr 1
  omega
 unfold RU
 rw[e]
 show (xs++[v])[xs.length]?=some v
 simp
def RX(b:Expr):Prop:=∀o i,subscripted b false o i=operate [o,i] (getItem o i)
def ZK(X:Cx)(r:R2):Prop:=
 ∀(value slice:Expr)(pins:List (Addr×Obj))(s:Shared)(σ:St)(H:Hp)(x y:V)(v u:Value)(Q:VK),Inv X pins σ H s->RelV x v->RelV y u->r x y H Q->
  subscripted slice false v u=operate [v,u] (getItem v u)->wpAny (model X.prog X.w) X.A (subscriptTail value slice v u) (EP X pins σ Q) X.xe s
def ZL(X:Cx)(id:String)(r:V->List V->Hp->VK->Prop):Prop:=
 ∀(pins:List (Addr×Obj))(s:Shared)(σ:St)(H:Hp)(x:V)(xs:List V)(v:Value)(us:List Value)(Q:VK),Inv X pins σ H s->RelV x v->Vals xs us->r x xs H Q->
  wpAny (model X.prog X.w) X.A (call (.builtin id) (v::us)) (EP X pins σ Q) X.xe s
section
variable {X:Cx} {a b:Expr} {ta tb:TE} {pos:Pos}
theorem dN{r:R2}(hr:ZK X r)(ha:PE X a ta)(hb:PE X b tb)(hs:RX b):PE X (.Subscript a b pos) (Xh r ta tb):=by
 intro pins s σ H Q I h
 exact Subscript_ (Ui ha hb I h fun v u s2 x y H2 I2 rx ry q=>hr a b pins s2 σ H2 x y v u Q I2 rx ry q (hs _ _))
def X9(K:PySem.W.Frag):R2:=fun x y H Q=>∃p xs i v,x= .ref p/\y= .int i/\dG K H p xs/\RU xs i=some v/\Q v H
theorem cW:ZK X (X9 X.K):=by
 intro value slice pins s σ H x y v u Q I rx ry h hs
 obtain⟨p,xs,i,z,rfl,rfl,hq,he,q⟩:=h
 cases rx
 obtain⟨t,rfl⟩:=ry
 obtain⟨its,r,pl,hz⟩:=I.list hq
 obtain⟨j,h1,h2,h3,h4,h5⟩:=RW he
 obtain⟨w,ew,rw'⟩:=r.get h2
 have hl:=r.length
 have hn:=Pf
 have fin:EP X pins σ Q w s:=⟨z,H,I,rw',q⟩
 by_cases h0:0≤i
 ·have hj:i.toNat=j:=by
   rw[seqIndex_of h0 h5]at h1
   exact az h1
  exact item_listR pl.isList h0 (by omega) (by rw[hj];simpa using ew) fin hs
 ·have hj:(i+(its.toArray.size:Int)).toNat=j:=by
   rw[seqIndex_neg (by omega) h4]at h1
   rw[aR,<-hl]
   exact az h1
  exact subscriptTail_builtinR (x:=w) pl.isList.typeIs slot_list_getitem.lookup
   (wpAny_getItem_list_neg (Q:=fun r s'=>r=w/\EP X pins σ Q r s') pl.isList (by omega) (by rw[aR] <;> omega) (by omega) (by rw[hj];simpa using ew) ⟨rfl,fin⟩) hs
theorem Ib(lo hi:Option Int)(n:Nat):(sliceBounds lo hi none n).1=((HT.Gg n 0 lo:Nat):Int)/\(sliceBounds lo hi none n).2.1=((HT.Gg n n hi:Nat):Int)/\(sliceBounds lo hi none n).2.2=1:=by
 refine⟨?_,?_,rfl⟩
 ·cases lo with
  |none=>simp[sliceBounds,HT.Gg]
  |some i=>
   simp only[sliceBounds,HT.Gg,Option.getD_none,show (1:Int) > 0 by decide,if_true]
   by_cases h:i<0
   ·simp only[h,if_true] <;> omega
   ·simp only[h,if_false] <;> omega
 ·cases hi with
  |none=>simp[sliceBounds,HT.Gg]
  |some i=>
   simp only[sliceBounds,HT.Gg,Option.getD_none,show (1:Int) > 0 by decide,if_true]
   by_cases h:i<0
   ·simp only[h,if_true] <;> omega
   ·simp only[h,if_false] <;> omega
theorem Gj(its:List Value)(lo hi:Option Int):slicePick its.toArray lo hi none=((its.drop (HT.Gg its.length 0 lo)).take (HT.Gg its.length its.length hi-HT.Gg its.length 0 lo)).toArray:=by
 obtain⟨h1,h2,h3⟩:=Ib lo hi its.toArray.size
 unfold slicePick
 rw[h1,h2,h3]
 simp only[sliceRange_one,pick_run,aR] <;> rfl
def Yb(K:PySem.W.Frag):V->Option Int->Option Int->Hp->VK->Prop:=fun x lo hi H Q=>∃a xs,x= .ref a/\dG K H a xs/\ ∀p,H p=none->Q (.ref p) (upd H p (.lst (Em xs lo hi)))
theorem DX:ZJ X (Yb X.K):=by
 intro pins s σ H x v vl vu lo hi sl Q I rx hs pl pu h
 obtain⟨a,xs,rfl,hx,q⟩:=h
 cases rx
 obtain⟨its,r,ht,hz⟩:=I.list hx
 have hlen:=r.length
 refine⟨"list",_,slot_list_getitem.lookup,ht.isList.typeIs,?_⟩
 refine wpAny_getItem_list_slice ht.isList hs pl pu .none (by simp) ?_ (by rw[aR] <;> omega)
 rw[Gj,<-hlen]
 refine⟨.ref s.heap.objs.size,_,I.laid (t':=s.toks) (o:=.lst (Em xs lo hi)) (fun b ob q=>ai _ q) (aA _) ?_,rfl,q _ (I.hok.fresh (aA _))⟩
 exact⟨aS (JE xs lo hi) hz,_,0,(r.drop (HT.Gg xs.length 0 lo)).take (HT.Gg xs.length xs.length hi-HT.Gg xs.length 0 lo),aF _ rfl⟩
def AM:V->Bool
 |.f6=>true
 |.bl _=>true
 |.int _=>true
 |.str _=>true
 |_=>false
def RY:V->V->Bool
 |.f6,.f6=>true
 |.bl a,.bl b=>a==b
 |.bl a,.int b=>(if a then 1 else 0)==b
 |.int a,.bl b=>a==(if b then 1 else 0)
 |.int a,.int b=>a==b
 |.str a,.str b=>a==b
 |_,_=>false
theorem Uo{A:Around}{s:Shared}{y x:V}{u v:Value}(ry:RelV y u)(rx:RelV x v)(fy:AM y=true)(fx:AM x=true):SeqAt.EqAt A s u v (RY y x):=by
 cases y with
 |f6=>
  cases ry
  cases x with
  |f6=>cases rx;exact SeqAt.EqAt.same _
  |bl b=>cases rx;exact SeqAt.EqAt.none_bool b
  |int b=>obtain⟨t,rfl⟩:=rx;exact SeqAt.EqAt.none_int b t
  |str b=>obtain⟨t,rfl⟩:=rx;exact SeqAt.EqAt.none_str b t
  |_=>exact absurd (show false=true from fx) aN
 |bl a=>
  cases ry
  cases x with
  |f6=>cases rx;exact SeqAt.EqAt.bool_none a
  |bl b=>cases rx;exact SeqAt.EqAt.bool_bool a b
  |int b=>obtain⟨t,rfl⟩:=rx;exact SeqAt.EqAt.bool_int a b t
  |str b=>obtain⟨t,rfl⟩:=rx;exact SeqAt.EqAt.bool_str a b t
  |_=>exact absurd (show false=true from fx) aN
 |int a=>
  obtain⟨t',rfl⟩:=ry
  cases x with
  |f6=>cases rx;exact SeqAt.EqAt.int_none a t'
  |bl b=>cases rx;exact SeqAt.EqAt.int_bool a t' b
  |int b=>obtain⟨t,rfl⟩:=rx;exact SeqAt.EqAt.int_int a t' b t
  |str b=>obtain⟨t,rfl⟩:=rx;exact SeqAt.EqAt.int_str a t' b t
  |_=>exact absurd (show false=true from fx) aN
 |str a=>
  obtain⟨t',rfl⟩:=ry
  cases x with
  |f6=>cases rx;exact SeqAt.EqAt.str_none a t'
  |bl b=>cases rx;exact SeqAt.EqAt.str_bool a t' b
  |int b=>obtain⟨t,rfl⟩:=rx;exact SeqAt.EqAt.str_int a t' b t
  |str b=>obtain⟨t,rfl⟩:=rx;exact SeqAt.EqAt.str_str a t' b t
  |_=>exact absurd (show false=true from fx) aN
 |_=>exact absurd (show false=true from fy) aN
def RZ(x:V)(u:Value):Bool:=match u with
 |.none=>RY .f6 x
 |.bool b=>RY (.bl b) x
 |.int i _=>RY (.int i) x
 |.str z _=>RY (.str z) x
 |_=>false
theorem Po{x y:V}{u:Value}(r:RelV y u)(f:AM y=true):RZ x u=RY y x:=by
 cases y with
 |f6=>cases r;rfl
 |bl b=>cases r;rfl
 |int i=>obtain⟨t,rfl⟩:=r;rfl
 |str z=>obtain⟨t,rfl⟩:=r;rfl
 |_=>exact absurd (show false=true from f) aN
theorem Ic{x:V}:∀{xs:List V}{us:List Value},Vals xs us->xs.all AM=true->us.any (RZ x)=xs.any fun y=>RY y x
 |_,_,.nil,_=>rfl
 |y::xs,u::us,.cons r t,f=>by
  rw[List.all_cons,aZ]at f
  rw[List.any_cons,List.any_cons,Po r f.1,Ic t f.2]
theorem En{A:Around}{s:Shared}{x:V}{v:Value}(rx:RelV x v)(fx:AM x=true):∀{xs:List V}{us:List Value},Vals xs us->xs.all AM=true-> ∀u∈us,SeqAt.EqAt A s u v (RZ x u)
 |_,_,.nil,_=>fun u hu=>by cases hu
 |y::xs,u::us,.cons r t,f=>fun u' hu=>by
  rw[List.all_cons,aZ]at f
  rcases aB.mp hu with rfl | hu
  ·rw[Po r f.1];exact Uo r rx f.1 fx
  ·exact En rx fx t f.2 u' hu
def R0(x:V)(xs:List V):Bool:=xs.any fun y=>RY y x
def rIn(K:PySem.W.Frag)(neg:Bool):R2:=fun x y H Q=>∃p xs,y= .ref p/\(dG K H p xs∨Jr K H p xs)/\AM x=true/\xs.all AM=true/\Q (.bl (if neg then !R0 x xs else R0 x xs)) H
theorem rX:AI X (compareOp .In) (rIn X.K false):=by
 intro pins s σ H x y v u Q I rx ry h
 obtain⟨p,xs,rfl,hq,fx,fs,q⟩:=h
 cases ry
 rcases hq with hq | hq
 ·obtain⟨its,r,pl,hz⟩:=I.list hq
  refine SeqAt.in_listAt (RZ x) pl.isList (fun w hw=>En rx fx r fs w (by simpa using hw)) ⟨.bl _,H,I,rfl,?_⟩
  rw[show its.toArray.any (RZ x)=its.any (RZ x) by simp,Ic r fs]
  exact q
 ·obtain⟨its,r,pl,hz⟩:=I.tuple hq
  refine SeqAt.in_tupleAt (RZ x) pl (fun w hw=>En rx fx r fs w (by simpa using hw)) ⟨.bl _,H,I,rfl,?_⟩
  rw[show its.toArray.any (RZ x)=its.any (RZ x) by simp,Ic r fs]
  exact q
theorem cX:AJ X (.builtin "len") (fun xs H Q=>∃p ys,xs=[.ref p]/\(dG X.K H p ys∨Jr X.K H p ys)/\Q (.int ys.length) H):=by
 intro pins s σ H xs us Q I r h
 obtain⟨p,ys,rfl,hq,q⟩:=h
 obtain⟨u,rfl,rx⟩:=vals1 r
 cases rx
 have hn:=Pf
 rcases hq with hq | hq
 ·obtain⟨its,r',pl,hz⟩:=I.list hq
  have hlen:=r'.length
  exact Calls.call_len_list pl.isList (by simp only[aR] <;> omega) ⟨.int ys.length,H,I.tok _,⟨s.toks+1,by rw[aR,hlen]⟩,q⟩
 ·obtain⟨its,r',pl,hz⟩:=I.tuple hq
  have hlen:=r'.length
  exact len_tuple pl (by simp only[aR] <;> omega) ⟨.int ys.length,H,I.tok _,⟨s.toks+1,by rw[aR,hlen]⟩,q⟩
def Yc(K:PySem.W.Frag)(T:String)(x:V)(H:Hp):Prop:=match x with
 |.str _=>T="str"
 |.int _=>T="int"
 |.ref p=>(T="list"/\ ∃xs,dG K H p xs)∨(T="tuple"/\ ∃o,K.lookup p=some o/\o.cls= .type "tuple"/\o.dict=none)∨
  (T="dict"/\((∃kvs,H p=some (.dK kvs))∨ ∃kvs,H p=some (.dT kvs)))∨(T="set"/\ ∃S n,H p=some (.set S n))
 |_=>False
theorem Pp{pins:List (Addr×Obj)}{σ:St}{H:Hp}{s:Shared}{T:String}{x:V}{v:Value}(I:Inv X pins σ H s)(r:RelV x v)(ty:Yc X.K T x H):
  s.TypeIs v T/\ ∀a,v= .ref a-> ∃ob,s.heap.get? a=some ob/\ob.dict=none:=by
 cases x with
 |str z=>
  obtain⟨t,rfl⟩:=r
  cases (show T="str" from ty)
  exact⟨typeIs_str s z t,fun _ e=>nomatch e⟩
 |int i=>
  obtain⟨t,rfl⟩:=r
  cases (show T="int" from ty)
  exact⟨typeIs_int s i t,fun _ e=>nomatch e⟩
 |ref p=>
  cases r
  rcases ty with ⟨rfl,xs,hq⟩ | ⟨rfl,o,hk,hc,hd⟩ | ⟨rfl,hk⟩ | ⟨rfl,S,n,hk⟩
  ·obtain⟨its,_,pl,_⟩:=I.list hq
   refine⟨pl.isList.typeIs,fun a e=>?_⟩
   cases e
   obtain⟨o,n,e,c,hd,_⟩:=pl
   exact⟨o,e,hd⟩
  ·refine⟨⟨o,I.MM p o hk,hc⟩,fun a e=>?_⟩
   cases e
   exact⟨o,I.MM _ o hk,hd⟩
  ·have z:∃o,s.heap.get? p=some o/\o.ExactDict:=by
    rcases hk with ⟨kvs,hk⟩ | ⟨kvs,hk⟩
    ·obtain⟨_,_,_,_,o,_,_,e,ex,_⟩:=I.hok p _ hk
     exact⟨o,e,ex⟩
    ·obtain⟨_,_,_,_,o,_,_,e,ex,_⟩:=I.hok p _ hk
     exact⟨o,e,ex⟩
   obtain⟨o,e,ex⟩:=z
   refine⟨⟨o,e,ex.1⟩,fun a e2=>?_⟩
   cases e2
   exact⟨o,e,ex.2.1⟩
  ·obtain⟨o,_,_,_,e,ex,_⟩:=I.hok p _ hk
   refine⟨⟨o,e,ex.1⟩,fun a e2=>?_⟩
   cases e2
   exact⟨o,e,ex.2.1⟩
 |_=>exact False.elim ty
def Yd(K:PySem.W.Frag)(T:String)(r:V->List V->Hp->VK->Prop)(to:TE):TE:=fun σ H Q=>to σ H fun x H1=>Yc K T x H1/\r x [] H1 Q
def tBM(K:PySem.W.Frag)(T:String)(r:V->List V->Hp->VK->Prop)(to:TE)(t:TA):TE:=fun σ H Q=>to σ H fun x H1=>Yc K T x H1/\t σ H1 fun xs H2=>r x xs H2 Q
variable {o e:Expr} {es:List Expr} {to:TE} {t:TA} {name:Str} {apos cpos:Pos} {T id:String} {r:V->List V->Hp->VK->Prop}
theorem Up(pa:PlainAttrs T)(slot:Slot T name id)(hty:typeOf (.builtin id)=pure (.type "method_descriptor"))(hm:ZL X id r)(ho:PE X o to)
  (hbase:attributeBase o name X.env (eval o X.env)=eval o X.env:=by rfl)(hline:(apos.endLine==cpos.line)=true:=by rfl):PE X (.Call (.Attribute o name apos) [] [] cpos) (Yd X.K T r to):=by
 intro pins s σ H Q I h
 refine wpAny_Call_method0_late hbase hline (ig (ho pins s σ H _ I h) fun v s1 ⟨x,H1,I1,r1,ty,q1⟩=>?_)
 obtain⟨h1,h2⟩:=Pp I1 r1 ty
 exact⟨T,id,pa,slot,hty,h1,h2,Calls.callWith_builtin rfl (PySem.evalArgs_none (hm pins s1 σ H1 x [] v [] Q I1 r1 .nil q1))⟩
theorem nV(pa:PlainAttrs T)(slot:Slot T name id)(hty:typeOf (.builtin id)=pure (.type "method_descriptor"))(hm:ZL X id r)(ho:PE X o to)(ha:PA X (e::es) t)
  (hbase:attributeBase o name X.env (eval o X.env)=eval o X.env:=by rfl)
  (hfew:((backTo cpos (starEach (e::es) X.env)).all (fun x=> !x.1)&&(backToKw cpos (keywordEach [] X.env)).all (fun x=>x.1.isSome)
   &&decide ((e::es).length+([]:List Keyword).length+(if ([]:List Keyword).isEmpty then 0 else 1)<30))=true:=by rfl)
  (hline:(apos.endLine==cpos.line)=true:=by rfl)(hs:starEach (e::es) X.env=(false,eval e X.env)::starEach es X.env:=by rfl)(hplain:(backTo cpos (starEach es X.env)).any (·.1)=false:=by rfl):
  PE X (.Call (.Attribute o name apos) (e::es) [] cpos) (tBM X.K T r to t):=by
 intro pins s σ H Q I h
 refine wpAny_Call_method_late hbase hfew hline rfl (ig (ho pins s σ H _ I h) fun v s1 ⟨x,H1,I1,r1,ty,q1⟩=>?_)
 obtain⟨h1,h2⟩:=Pp I1 r1 ty
 refine⟨T,id,pa,slot,hty,h1,h2,?_⟩
 have hA:=ha cpos pins s1 σ H1 _ I1 q1
 rw[hs]at hA ⊢
 refine Calls.callWith_builtin (by show (false || (backTo cpos (starEach es X.env)).any (·.1))=false;rw[hplain] <;> rfl) (Calls.evalArgs_plain ?_)
 exact ig hA fun us s2 ⟨vs,H2,I2,r2,q2⟩=>hm pins s2 σ H2 x vs v us Q I2 r1 r2 q2
end
end L2
namespace L2
open PySem PySem.Spec PyProof.Rows
def Xj(X:Cx)(id:String)(r:V->List V->Hp->VK->Prop):Prop:=
 ∀(pins:List (Addr×Obj))(s:Shared)(σ:St)(H:Hp)(x:V)(xs:List V)(v:Value)(us:List Value)(Q:VK),Inv X pins σ H s->RelV x v->Vals xs us->r x xs H Q->
  wpAny (model X.prog X.w) X.A (call (.builtin id) (v::us)) (EP X pins σ Q) X.xe s
theorem Vals.one:∀{x:V}{us:List Value},Vals [x] us-> ∃u,us=[u]/\RelV x u
 |_,_,.cons r .nil=>⟨_,rfl,r⟩
theorem Vals.zero:∀{us:List Value},Vals [] us->us=[]
 |_,.nil=>rfl
theorem Vals.dropLast{xs:List V}{us:List Value}(h:Vals xs us):Vals xs.dropLast us.dropLast:=by
 induction h with
 |nil=>exact .nil
 |cons r t ih=>
  cases t with
  |nil=>exact .nil
  |cons q t'=>exact .cons r ih
theorem Vals.eraseIdx:∀{xs:List V}{us:List Value}(i:Nat),Vals xs us->Vals (xs.eraseIdx i) (us.eraseIdx i)
 |_,_,_,.nil=>.nil
 |_,_,0,.cons _ t=>t
 |_,_,i+1,.cons r t=>.cons r (Vals.eraseIdx i t)
theorem LA{α:Type}(l:List α):l.eraseIdx (l.length-1)=l.dropLast:=by
 induction l with
 |nil=>rfl
 |cons a r ih=>
  cases r with
  |nil=>rfl
  |cons b r=>
   have e:(a::b::r).length-1=((b::r).length-1)+1:=by
    have h1:(a::b::r).length=r.length+2:=rfl
    have h2:(b::r).length=r.length+1:=rfl
    omega
   rw[e,List.eraseIdx_cons_succ,ih]
   all_goals rfl
theorem GS{α:Type}:∀(l:List α)(i:Nat),(l.eraseIdx i).length≤l.length
 |[],_=>aA _
 |_::_,0=>Nat.le_succ _
 |_::r,i+1=>Nat.succ_le_succ (GS r i)
section
variable {X:Cx} {pins:List (Addr×Obj)} {σ:St} {H:Hp} {s:Shared} {l b:Addr} {xs ys zs:List V}
theorem Inv.R1{its its':List Value}{n:Nat}{f:Array Value->Array Value}{t':Nat}(I:Inv X pins σ H s)(hH:H l=some (.lst xs))
  (e:s.heap.get? l=some { cls:=.type "list",data:=.seq its.toArray n })(hf:f its.toArray=its'.toArray)(hv:Vals ys its')(hz:ys.length≤sizeLine):
  Inv X pins σ (upd H l (.lst ys)) { s with heap:=s.heap.update l (Obj.mapSeq f),toks:=t' }:=by
 have q:=PySem.IsL.update e f
 rw[hf]at q
 refine I.write (x:=l) (e:=l) (by rw[hH];exact trivial) (.inl rfl) (fun b' u hb hu=>(bg s.heap (Obj.mapSeq f) (Ne.symm hb)).trans hu) ⟨_,q⟩ ?_
 exact⟨hz,its',_,hv,q⟩
theorem Inv.Ye{its:List Value}{t':Nat}(I:Inv X pins σ H s)(hv:Vals ys its)(hz:ys.length≤sizeLine):
  Inv X pins σ (upd H s.heap.objs.size (.lst ys)) { s with heap:=s.heap.push { cls:=.type "list",data:=.seq its.toArray },toks:=t' }:=
 I.laid (fun _ _ q=>ai _ q) (aA _) ⟨hz,its,0,hv,aF _ rfl⟩
theorem Inv.fresh(I:Inv X pins σ H s):H s.heap.objs.size=none:=I.hok.fresh (aA _)
theorem Inv.LB(I:Inv X pins σ H s)(hH:H l=some (.lst xs)):xs.length≤sizeLine/\ ∃(its:List Value)(n:Nat),Vals xs its/\xs.length=its.length/\s.heap.get? l=some { cls:=.type "list",data:=.seq its.toArray n }:=by
 obtain⟨z,its,n,r,e⟩:=I.hok l _ hH
 exact⟨z,its,n,r,r.length,e⟩
theorem Pq{n:Nat}(h:n≤sizeLine):Builtin.List.listTooLong n=false:=by
 unfold Builtin.List.listTooLong
 exact aW (by omega)
end
section
variable {X:Cx}
def R3:V->List V->Hp->VK->Prop:=fun x vs H Q=>∃l xs y,x= .ref l/\vs=[y]/\H l=some (.lst xs)/\xs.length<sizeLine/\Q .f6 (upd H l (.lst (xs++[y])))
theorem k8:Xj X "list.append" R3:=by
 intro pins s σ H x vs v us Q I rx rv h
 obtain⟨l,xs,y,rfl,rfl,hH,hz,q⟩:=h
 cases rx
 obtain⟨u,rfl,ru⟩:=rv.one
 obtain⟨z,its,n,r,hl,e⟩:=I.LB hH
 refine call_meets F.slot_list_append ⟨_,e,rfl⟩ F.entry_list_append (F.args_list_append_2 _ _) (PySem.list_append l its.toArray n u (by rw[aR];omega)) ⟨e,?_⟩
 refine⟨.f6,_,I.R1 (its':=its++[u]) hH e (by simp) (r.append (.cons ru .nil)) ?_,rfl,q⟩
 rw[ao,List.length_singleton]
 omega
def R4:V->List V->Hp->VK->Prop:=fun x vs H Q=>∃l b xs zs,x= .ref l/\vs=[.ref b]/\H l=some (.lst xs)/\H b=some (.lst zs)/\xs.length+zs.length≤sizeLine/\Q .f6 (upd H l (.lst (xs++zs)))
theorem lW:Xj X "list.extend" R4:=by
 intro pins s σ H x vs v us Q I rx rv h
 obtain⟨l,b,xs,zs,rfl,rfl,hH,hB,hz,q⟩:=h
 cases rx
 obtain⟨u,rfl,ru⟩:=rv.one
 cases ru
 obtain⟨z,its,n,r,hl,e⟩:=I.LB hH
 obtain⟨z2,its2,n2,r2,hl2,e2⟩:=I.LB hB
 have hsz:its.toArray.size+its2.toArray.size≤sizeLine:=by rw[aR,aR];omega
 have VY:¬(!its.toArray.isEmpty&&Builtin.List.listTooLong (its.toArray.size+its2.toArray.size))=true:=by
  rw[Pq hsz,Bool.and_false]
  exact aN
 refine call_meets F.slot_list_extend ⟨_,e,rfl⟩ F.entry_list_extend (F.args_list_extend_2 _ _)
  (AutoSeq1.list_extend_list_list_0 l its.toArray n b its2.toArray n2 VY (by rw[aR];omega) (by omega)) ⟨e,e2,?_⟩
 refine⟨.f6,_,I.R1 (its':=its++its2) hH e (by simp) (r.append r2) ?_,rfl,q⟩
 rw[ao]
 omega
def Yg:V->List V->Hp->VK->Prop:=fun x vs H Q=>∃l xs y,x= .ref l/\vs=[]/\H l=some (.lst xs)/\xs[xs.length-1]?=some y/\Q y (upd H l (.lst xs.dropLast))
theorem Uq:Xj X "list.pop" Yg:=by
 intro pins s σ H x vs v us Q I rx rv h
 obtain⟨l,xs,y,rfl,rfl,hH,hy,q⟩:=h
 cases rx
 have hus:=rv.zero
 subst hus
 obtain⟨z,its,n,r,hl,e⟩:=I.LB hH
 obtain⟨u,hu,ru⟩:=r.get hy
 have hy':its.toArray[its.toArray.size-1]?=some u:=by
  show its.toArray[its.length-1]?=some u
  rw[<-Array.getElem?_toList,<-hl]
  exact hu
 refine call_meets F.slot_list_pop ⟨_,e,rfl⟩ F.entry_list_pop (F.args_list_pop_1 _) (MeetsSeq.list_pop_last l its.toArray n u hy' (by rw[aR];omega)) ⟨e,?_⟩
 refine⟨y,_,I.R1 (its':=its.dropLast) hH e ?_ r.dropLast ?_,ru,q⟩
 ·show its.toArray.eraseIdxIfInBounds (its.toArray.size-1)=its.dropLast.toArray
  rw[aR,List.eraseIdxIfInBounds_toArray,LA]
 ·rw[List.length_dropLast]
  omega
def Ur:V->List V->Hp->VK->Prop:=fun x vs H Q=>∃l xs i k y,x= .ref l/\vs=[.int i]/\H l=some (.lst xs)/\ -(2^63)≤i/\i<2^63/\seqIndex? i xs.length=some k/\xs[k]?=some y/\Q y (upd H l (.lst (xs.eraseIdx k)))
theorem Pr:Xj X "list.pop" Ur:=by
 intro pins s σ H x vs v us Q I rx rv h
 obtain⟨l,xs,i,k,y,rfl,rfl,hH,h1,h2,hk,hy,q⟩:=h
 cases rx
 obtain⟨u,rfl,ru⟩:=rv.one
 obtain⟨t,rfl⟩:=ru
 obtain⟨z,its,n,r,hl,e⟩:=I.LB hH
 obtain⟨w,hw,rw'⟩:=r.get hy
 refine call_meets F.slot_list_pop ⟨_,e,rfl⟩ F.entry_list_pop (F.args_list_pop_2 _ _)
  (MeetsSeq.list_pop_at l its.toArray n i t k w (fitsIndex_both h1 h2) (by rw[aR,<-hl];exact hk) (by rw[<-Array.getElem?_toList];exact hw) (by rw[aR];omega)) ⟨e,?_⟩
 refine⟨y,_,I.R1 (its':=its.eraseIdx k) hH e ?_ (r.eraseIdx k) ?_,rw',q⟩
 ·show its.toArray.eraseIdxIfInBounds k=(its.eraseIdx k).toArray
  rw[List.eraseIdxIfInBounds_toArray]
 ·have:=GS xs k
  omega
def VZ:R2:=fun x y H Q=>∃l b xs zs,x= .ref l/\y= .ref b/\H l=some (.lst xs)/\H b=some (.lst zs)/\xs.length+zs.length≤sizeLine/\ ∀p,H p=none->Q (.ref p) (upd H p (.lst (xs++zs)))
theorem jo:AI X (binaryOp .Add) VZ:=by
 intro pins s σ H x y v u Q I rx ry h
 obtain⟨l,b,xs,zs,rfl,rfl,hH,hB,hz,q⟩:=h
 cases rx
 cases ry
 obtain⟨z,its,n,r,hl,e⟩:=I.LB hH
 obtain⟨z2,its2,n2,r2,hl2,e2⟩:=I.LB hB
 refine PySem.P.add_list e e2 ?_ (by rw[aR,aR];omega)
 have ea:its.toArray++its2.toArray=(its++its2).toArray:=by simp
 rw[ea]
 exact⟨.ref _,_,I.Ye (t':=s.toks) (r.append r2) (by rw[ao];omega),rfl,q _ I.fresh⟩
end
section
variable {prog:Program} {w:World} {A:Around} {E:Value->Shared->Prop} {s:Shared}
set_option maxRecDepth 100000 in
end
section
variable {X:Cx}
end
end L2
namespace L2
open PySem PySem.Spec PyProof.Rows
theorem Vals.ints:∀{ns:List Int}{us:List Value},Vals (ns.map V.int) us->IntsAre us ns
 |[],us,h=>by
  rw[bV]at h
  cases h
  exact IntsAre.nil
 |n::ns,us,h=>by
  rw[aL]at h
  cases h with
  |cons r t=>
   obtain⟨k,rfl⟩:=r
   exact IntsAre.cons n k (Vals.ints t)
theorem tO:∀{us:List Value}{ns:List Int},IntsAre us ns->Vals (ns.map V.int) us
 |_,_,.nil=>by rw[bV];exact Paired.nil
 |_,_,.cons n t h=>by rw[aL];exact Paired.cons (show RelV (V.int n) (Value.int n t)from⟨t,rfl⟩) (tO h)
theorem Vals.ZM:∀{bs:List Bool}{us:List Value},Vals (bs.map V.bl) us->us=bs.map Value.bool
 |[],us,h=>by
  rw[bV]at h
  cases h
  rfl
 |b::bs,us,h=>by
  rw[aL]at h
  cases h with
  |cons r t=>
   cases r
   rw[Vals.ZM t,aL]
theorem Vals.LC{a:Addr}{us:List Value}(r:Vals [V.ref a] us):us=[Value.ref a]:=by
 cases r with
 |cons r t=>
  cases t
  cases r
  rfl
section
variable {prog:Program} {w:World} {A:Around} {E:Value->Shared->Prop} {s:Shared} {l:Addr} {its:List Value} {ns:List Int} {Q:Value->Shared->Prop}
theorem R5(hh:A.handled=none)(hl:s.heap.IsList l its.toArray)(hi:IntsAre its ns)
  (h:∀h' tk t',(∀b o,s.heap.get? b=some o->h'.get? b=some o)->Q (.int ns.sum t') { s with heap:=h',toks:=tk }):wpAny (model prog w) A (call (.builtin "sum") [.ref l]) Q E s:=by
 obtain⟨xs,e⟩:=hi.allInts.items
 have hn:numsOf (intItems xs).toList=ns:=by rw[<-e];exact hi.numsOf
 rw[nums_intItems]at hn
 rw[e]at hl
 refine PySem.sum_intListG hh hl fun h' tk t' hk=>?_
 have:=h h' tk t' hk
 rw[preSum_eq,List.take_of_length_le (by simp),hn];exact this
end
section
variable {X:Cx}
def Yh(K:PySem.W.Frag):List V->Hp->VK->Prop:=fun vs H Q=>∃(a:Addr)(ns:List Int),vs=[V.ref a]/\dG K H a (ns.map V.int)/\Q (.int ns.sum) H
theorem Us(hc:X.calm=true):AJ X (.builtin "sum") (Yh X.K):=by
 intro pins s σ H vs us Q I r h
 obtain⟨a,ns,rfl,hs,q⟩:=h
 obtain⟨its,rv,hl,_⟩:=I.list hs
 rw[Vals.LC r]
 exact R5 (I.ok.hd hc) hl.isList rv.ints fun h' tk t' hk=>⟨.int _,H,I.kept hk,⟨_,rfl⟩,q⟩
theorem Ie{n:Nat}(h:n<64):n≤sizeLine:=by rw[sizeLine_eq];omega
end
section
variable {X:Cx}
end
section
variable {X:Cx}
end
theorem Pu{prog:Program}{w:World}{A:Around}{E:Value->Shared->Prop}{s:Shared}{l:Addr}{items:Array Value}{Q:Value->Shared->Prop}(hl:s.heap.IsList l items)
  (h:∀s₂:Shared,s₂={ s with heap:=s.heap.push { cls:=.type "list_iterator",data:=.fields #[.ref l,.int 0 0] } }->
   (s₂.heap.IsListIter s.heap.objs.size l 0/\s₂.heap.IsList l items)->l≠s.heap.objs.size->Q (.ref s.heap.objs.size) s₂):wpAny (model prog w) A (pyIter (.ref l)) Q E s:=by
 have hlt:l<s.heap.objs.size:=by obtain⟨_,e,_⟩:=hl;exact aC e
 exact wpAny_pyIter_list hl (h _ rfl ⟨⟨_,aF _ rfl,rfl,rfl⟩,hl.push _⟩ (aT hlt))
theorem JG{prog:Program}{w:World}{A:Around}{bs:List Bool}{its:List Value}(e:its=bs.map Value.bool):
  TruthOf prog w A (fun i v=>its.toArray[i]?=some v) (fun i=>bs.getD i false):=fun i v s Q E hv hq=>by
 have hv':its[i]?=some v:=by simpa using hv
 rw[e,aE]at hv'
 obtain⟨b,hb,rfl⟩:=aI.mp hv'
 have hg:bs.getD i false=b:=by rw[List.getD_eq_getElem?_getD,hb] <;> rfl
 have hq':Q (bs.getD i false) s:=hq
 rw[hg]at hq'
 exact bE hq'
theorem all_range:∀bs:List Bool,(List.range bs.length).all (fun i=>bs.getD i false)=bs.all id
 |[]=>rfl
 |b::bs=>by
  rw[aj,List.range_succ_eq_map,List.all_cons,List.all_map,List.all_cons,<-all_range bs]
  all_goals rfl
section
variable {X:Cx}
def Yi(K:PySem.W.Frag):List V->Hp->VK->Prop:=fun vs H Q=>∃(a:Addr)(bs:List Bool),vs=[V.ref a]/\dG K H a (bs.map V.bl)/\Q (.bl (bs.all id)) H
theorem Ig(hc:X.calm=true):AJ X (.builtin "all") (Yi X.K):=by
 intro pins s σ H vs us Q I r h
 obtain⟨a,bs,rfl,hs,q⟩:=h
 obtain⟨its,rv,hl,_⟩:=I.list hs
 rw[Vals.LC r]
 have hb:=rv.ZM
 refine call_all_walk (Pu hl.isList fun s₂ e2 st hne=>?_)
 subst e2
 refine⟨_,_,_,_,_,_,_,rfl,Walks.list (A:=X.A.in1) (I.ok.hd hc) _ a hne its.toArray,st,JG hb,fun h' tk hk=>?_⟩
 refine⟨.bl _,H,I.kept fun b o eo=>hk b o (fun hmem=>?_) (ai _ eo),?_,q⟩
 ·rcases aB.mp hmem with e1 | hmem
  ·exact absurd (e1▸aC eo) (bX _)
  ·cases hmem
 ·show Value.bool _=Value.bool _
  rw[<-all_range,hb,aR,aa]
end
mutual
inductive Dp(K:PySem.W.Frag)(H:Hp):V->PyData->Prop
 |f6:Dp K H .f6 .none
 |bl (b:Bool):Dp K H (.bl b) (.bool b)
 |int (i:Int):Dp K H (.int i) (.int i)
 |str (x:Str):Dp K H (.str x) (.str x)
 |lst {a:Addr} {xs:List V} {ds:List PyData}:dG K H a xs->Eo K H xs ds->Dp K H (.ref a) (.list ds)
 |tup {a:Addr} {xs:List V} {ds:List PyData}:Jr K H a xs->Eo K H xs ds->Dp K H (.ref a) (.tuple ds)
inductive Eo(K:PySem.W.Frag)(H:Hp):List V->List PyData->Prop
 |nil:Eo K H [] []
 |cons {v:V} {vs:List V} {d:PyData} {ds:List PyData}:Dp K H v d->Eo K H vs ds->Eo K H (v::vs) (d::ds)
end
section
variable {X:Cx} {pins:List (Addr×Obj)} {σ:St} {H:Hp} {s:Shared}
mutual
theorem Dp.reads(I:Inv X pins σ H s):∀(d:PyData)(v:V)(u:Value),Dp X.K H v d->RelV v u-> ∃as,Reads s.heap u d as
 |.none,_,_,h,r=>by
  cases h
  cases r
  exact⟨_,Reads.none⟩
 |.bool b,_,_,h,r=>by
  cases h
  cases r
  exact⟨_,Reads.bool b⟩
 |.int i,_,_,h,r=>by
  cases h
  obtain⟨t,rfl⟩:=r
  exact⟨_,Reads.int i t⟩
 |.str x,_,_,h,r=>by
  cases h
  obtain⟨t,rfl⟩:=r
  exact⟨_,Reads.str x t⟩
 |.list ds,_,_,h,r=>by
  cases h with
  |lst hs ha=>
   cases r
   obtain⟨its,rv,⟨o,n,ho,hc,_,hd⟩,_⟩:=I.list hs
   obtain⟨as,hr⟩:=Dp.readsAll I ds _ its ha rv
   exact⟨_,Reads.list ho hc hd hr⟩
 |.tuple ds,_,_,h,r=>by
  cases h with
  |tup hs ha=>
   cases r
   obtain⟨its,rv,⟨o,ho,hc,n,hd⟩,_⟩:=I.tuple hs
   obtain⟨as,hr⟩:=Dp.readsAll I ds _ its ha rv
   exact⟨_,Reads.tuple ho hc hd hr⟩
 |.dict _,_,_,h,_=>by cases h
theorem Dp.readsAll(I:Inv X pins σ H s):∀(ds:List PyData)(vs:List V)(us:List Value),Eo X.K H vs ds->Vals vs us-> ∃as,ReadsAll s.heap us ds as
 |[],_,_,h,r=>by
  cases h
  cases r
  exact⟨_,ReadsAll.nil⟩
 |d::ds,_,_,h,r=>by
  cases h with
  |cons h1 h2=>
   cases r with
   |cons r1 r2=>
    obtain⟨as,q1⟩:=Dp.reads I d _ _ h1 r1
    obtain⟨bs,q2⟩:=Dp.readsAll I ds _ _ h2 r2
    exact⟨_,ReadsAll.cons q1 q2⟩
end
end
section
variable {X:Cx}
def Yj(K:PySem.W.Frag):R2:=fun x y H Q=>∃d e,Dp K H x d/\Dp K H y e/\SeqAt.shaped d=true/\SeqAt.shaped e=true/\Q (.bl (!PyData.eqv d e)) H
theorem Ut(hu:X.A.units+64<cLine):AI X (compareOp .NotEq) (Yj X.K):=by
 intro pins s σ H x y v u Q I rx ry h
 obtain⟨d,e,hd,he,sd,se,q⟩:=h
 obtain⟨as,r1⟩:=Dp.reads I d x v hd rx
 obtain⟨bs,r2⟩:=Dp.reads I e y u he ry
 exact SeqAt.compareNe_shaped r1 r2 sd se hu ⟨.bl _,H,I,rfl,q⟩
end
end L2
namespace L2
open PySem PySem.Spec PyProof.Rows
abbrev Pw(h:Heap)(c:Addr)(v:Option Value):Prop:=h.IsCell c v
def Yk(scope sc:Scope):Scope:=
 { scope with names:=scope.names.map fun(n,k)=>if (k== .free&&sc.kind== .function&&sc.names.lookup n==some .cell) then (n,.cell) else (n,k) }
def gh(cells:List (Str×Addr)):List (Str×NameKind)->List (Str×Addr)->List (Str×Addr)
 |[],acc=>acc
 |(n,k)::r,acc=>if k== .free then gh cells r ((n,(cells.lookup n).getD 0)::acc) else gh cells r acc
theorem AN(env:Env)(f:Str×NameKind->List (Str×Addr)->Sem (ForInStep (List (Str×Addr))))
  (hf:∀n k c,f (n,k) c=if k== .free then (do let a <-cellOf env n;pure (.yield ((n,a)::c))) else pure (.yield c)):
  ∀(names:List (Str×NameKind))(acc:List (Str×Addr)),(∀y∈names,y.2= .free-> ∃c,env.cells.lookup y.1=some c)->forIn names acc f=pure (gh env.cells names acc)
 |[],acc,_=>by rw[List.forIn_nil];rfl
 |(n,k)::r,acc,h=>by
  rw[List.forIn_cons,hf]
  have ih:=fun acc=>AN env f hf r acc fun y hy=>h y (au _ hy)
  unfold gh
  by_cases hk:(k==NameKind.free)=true
  ·rw[bA hk,bA hk]
   obtain⟨c,hc⟩:=h (n,k) aH (by simpa using hk)
   have e:cellOf env n=pure c:=by unfold cellOf;rw[hc]
   rw[e]
   have e2:(env.cells.lookup n).getD 0=c:=by rw[hc];rfl
   rw[e2]
   exact ih _
  ·rw[bz hk,bz hk]
   exact ih _
theorem LD{scope:Scope}{env:Env}(h:∀y∈scope.names,y.2= .free-> ∃c,env.cells.lookup y.1=some c):closureFor scope env=pure (gh env.cells scope.names []):=by
 simp only[closureFor]
 rw[AN env _ (fun n k c=>rfl) scope.names [] h]
 rfl
theorem mem_lookup{α:Type}:∀{l:List (Str×α)}{n:Str}{c:α},(n,c)∈l-> ∃c',l.lookup n=some c'
 |(k,v)::r,n,c,h=>by
  rw[List.lookup_cons]
  cases hb:n==k with
  |true=>exact⟨_,rfl⟩
  |false=>
   rcases aB.mp h with e | h
   ·cases e;simp at hb
   ·exact mem_lookup h
theorem ql{cells:List (Str×Addr)}:∀{names:List (Str×NameKind)}{acc:List (Str×Addr)}{n:Str}{c:Addr},(n,c)∈gh cells names acc->(n,c)∈acc∨((n,.free)∈names/\c=(cells.lookup n).getD 0)
 |[],_,_,_,h=>.inl h
 |(m,k)::r,acc,n,c,h=>by
  unfold gh at h
  split at h
  ·rename_i hk
   have hk:k= .free:=by simpa using hk
   rcases ql h with h | ⟨h1,h2⟩
   ·rcases aB.mp h with e | h
    ·cases e;exact .inr ⟨hk▸aH,rfl⟩
    ·exact .inl h
   ·exact .inr ⟨au _ h1,h2⟩
  ·rcases ql h with h | ⟨h1,h2⟩
   ·exact .inl h
   ·exact .inr ⟨au _ h1,h2⟩
theorem vB{cells:List (Str×Addr)}:∀{names:List (Str×NameKind)}{acc:List (Str×Addr)}{p:Str×Addr},p∈acc->p∈gh cells names acc
 |[],_,_,h=>h
 |(m,k)::r,acc,p,h=>by
  unfold gh
  split
  ·exact vB (au _ h)
  ·exact vB h
theorem vC{cells:List (Str×Addr)}:∀{names:List (Str×NameKind)}{acc:List (Str×Addr)}{n:Str},(n,.free)∈names->(n,(cells.lookup n).getD 0)∈gh cells names acc
 |(m,k)::r,acc,n,h=>by
  unfold gh
  rcases aB.mp h with e | h
  ·cases e
   exact vB aH
  ·split
   ·exact vC h
   ·exact vC h
theorem rY:∀{names:List (Str×NameKind)}{h:Heap}{acc:List (Str×Addr)}{x:Str}{c:Addr},(x,c)∈cellsFrom h.objs.size names acc->
  (x,c)∈acc∨((x,.cell)∈names/\h.objs.size≤c/\Pw (pushCells h names) c none)
 |[],_,_,_,_,h=>.inl h
 |(n,k)::r,h,acc,x,c,hm=>by
  unfold cellsFrom at hm
  unfold pushCells
  split at hm
  ·rename_i hk
   rw[bA hk]
   have hk:k= .cell:=by simpa using hk
   rw[<-Heap.size_push h { cls:=.type "cell",data:=.cell none }]at hm
   rcases rY hm with hm | ⟨h1,h2,h3⟩
   ·rcases aB.mp hm with e | hm
    ·cases e
     exact .inr ⟨hk▸aH,aA _,_,pushCells_keeps r _ _ _ (aF _ rfl),rfl⟩
    ·exact .inl hm
   ·rw[Heap.size_push]at h2
    exact .inr ⟨au _ h1,Nat.le_of_succ_le h2,h3⟩
  ·rename_i hk
   rw[bz hk]
   rcases rY hm with hm | ⟨h1,h2,h3⟩
   ·exact .inl hm
   ·exact .inr ⟨au _ h1,h2,h3⟩
theorem xW:∀{names:List (Str×NameKind)}{n:Nat}{acc:List (Str×Addr)}{p:Str×Addr},p∈acc->p∈cellsFrom n names acc
 |[],_,_,_,h=>h
 |(m,k)::r,n,acc,p,h=>by
  unfold cellsFrom
  split
  ·exact xW (au _ h)
  ·exact xW h
theorem B0:∀{names:List (Str×NameKind)}{n:Nat}{acc:List (Str×Addr)}{x:Str},(x,.cell)∈names-> ∃c,(x,c)∈cellsFrom n names acc
 |(m,k)::r,n,acc,x,h=>by
  unfold cellsFrom
  rcases aB.mp h with e | h
  ·cases e
   exact⟨n,xW aH⟩
  ·split
   ·exact B0 h
   ·exact B0 h
theorem B3:∀{names:List (Str×NameKind)}{h:Heap}{acc:List (Str×Addr)}{x y:Str}{c:Addr},(∀p∈acc,p.2<h.objs.size)->(∀x y c,(x,c)∈acc->(y,c)∈acc->x=y)->
  (x,c)∈cellsFrom h.objs.size names acc->(y,c)∈cellsFrom h.objs.size names acc->x=y
 |[],_,_,_,_,_,_,hi,h1,h2=>hi _ _ _ h1 h2
 |(n,k)::r,h,acc,x,y,c,hl,hi,h1,h2=>by
  unfold cellsFrom at h1 h2
  split at h1
  ·rename_i hk
   rw[bA hk]at h2
   rw[<-Heap.size_push h { cls:=.type "cell",data:=.cell none }]at h1 h2
   refine B3 (h:=h.push _) (fun p hp=>?_) (fun x y c a b=>?_) h1 h2
   ·rw[Heap.size_push]
    rcases aB.mp hp with rfl | hp
    ·exact Nat.lt_succ_self _
    ·exact Nat.lt_succ_of_lt (hl p hp)
   ·rcases aB.mp a with e | a <;> rcases aB.mp b with e' | b
    ·cases e;cases e';rfl
    ·cases e;exact absurd (hl _ b) (bX _)
    ·cases e';exact absurd (hl _ a) (bX _)
    ·exact hi _ _ _ a b
  ·rename_i hk
   rw[bz hk]at h2
   exact B3 hl hi h1 h2
theorem JH{M:Model}{A:Around}{E:Value->Shared->Prop}{s:Shared}{scope:Scope}{globals:Addr}{closure:List (Str×Addr)}{qual:Str}{func:Option Addr}{code:Value}{around:Env}{builtins:Addr}{Q:Env->Shared->Prop}
  (h:Q (newEnv scope s.heap.objs.size globals (cellsFrom (s.heap.objs.size+1) scope.names closure) qual func code (some around) builtins)
   { s with heap:=pushCells (s.heap.push { cls:=.type "dict",data:=.dict #[] }) scope.names }):
  wpAny M A (newFunctionEnv scope globals closure [] qual func code (some around) builtins) Q E s:=by
 simp only[newFunctionEnv,Option.isSome_some,if_true]
 refine aU (wpAny_alloc ?_)
 refine aU (wpAny_layCells _ (fun n k c=>rfl) scope.names closure _ _ ?_)
 rw[show ({ s with heap:=s.heap.push { cls:=.type "dict",data:=.dict #[] } }:Shared).heap.objs.size=s.heap.objs.size+1 from Heap.size_push ..]
 rw[List.forIn_nil]
 exact aU (aV (aV h))
theorem vD{sc:Scope}:∀{names:List (Str×NameKind)}{x:Str}{k:NameKind},
  (names.map fun(n,k)=>if (k==NameKind.free&&sc.kind== .function&&sc.names.lookup n==some .cell) then (n,NameKind.cell) else (n,k)).lookup x=some k->
  ∃k',names.lookup x=some k'/\(k=k'∨(k'= .free/\k= .cell))
 |[],_,_,h=>by simp at h
 |(n,k₀)::r,x,k,h=>by
  have ih:= @vD sc r x k
  have h':List.lookup x ((if (k₀==NameKind.free&&sc.kind== .function&&sc.names.lookup n==some .cell)=true then (n,NameKind.cell) else (n,k₀))::(r.map _))=some k:=h
  cases hx:x==n with
  |true=>
   simp only[List.lookup_cons,hx]
   by_cases hc:(k₀==NameKind.free&&sc.kind== .function&&sc.names.lookup n==some .cell)=true
   ·rw[bA hc]at h'
    simp only[List.lookup_cons,hx]at h'
    cases h'
    simp only[aZ,beq_iff_eq]at hc
    exact⟨k₀,rfl,.inr ⟨hc.1.1,rfl⟩⟩
   ·rw[bz hc]at h'
    simp only[List.lookup_cons,hx]at h'
    cases h'
    exact⟨_,rfl,.inl rfl⟩
  |false=>
   simp only[List.lookup_cons,hx]
   by_cases hc:(k₀==NameKind.free&&sc.kind== .function&&sc.names.lookup n==some .cell)=true
   ·rw[bA hc]at h'
    simp only[List.lookup_cons,hx]at h'
    exact ih h'
   ·rw[bz hc]at h'
    simp only[List.lookup_cons,hx]at h'
    exact ih h'
structure JI(N:List Str)(sc scope:Scope)(own:List (Str×Nat)):Prop where
 kind:scope.kind= .function
 uniq:∀y∈scope.names,scope.names.lookup y.1=some y.2
 ix:∀p∈own,N[p.2]?=some p.1
 free:∀y∈scope.names,y.2= .free->sc.names.lookup y.1=some .cell∨sc.names.lookup y.1=some .free
 own:∀y∈scope.names,y.2= .local∨y.2= .cell->y.1∈own.map (·.1)∨y.1∉N
def wipe(σ:St):List Nat->St
 |[]=>σ
 |v::vs=>(wipe σ vs).set v none
theorem vE(σ:St):∀vs:List Nat,(wipe σ vs).length=σ.length
 |[]=>rfl
 |v::vs=>by unfold wipe;rw[List.length_set,vE σ vs]
theorem B4{σ:St}{i:Nat}{x:V}:∀{vs:List Nat},(wipe σ vs)[i]?=some (some x)->σ[i]?=some (some x)/\i∉vs
 |[],h=>⟨h,by simp⟩
 |v::vs,h=>by
  unfold wipe at h
  by_cases hi:v=i
  ·subst hi
   by_cases hv:v<(wipe σ vs).length
   ·rw[List.getElem?_set_self hv]at h;cases h
   ·rw[bf (by simpa using hv)]at h;cases h
  ·rw[List.getElem?_set_ne hi]at h
   obtain⟨h1,h2⟩:=B4 h
   exact⟨h1,by simp only[aB,not_or];exact⟨fun e=>hi e.symm,h2⟩⟩
abbrev Cx.Ih(X:Cx)(s:Shared)(H:Hp)(scope:Scope)(cenv:Env)(fp:List Addr):Cx:={ X with GI:=s,Ua:=H,env:=cenv,outer:=X.stack,ex:=fp,fn:=fun x=>scope.names.lookup x==some .cell,pn:=[],xe:=fun _ _=>False }
section
variable {X:Cx} {pins:List (Addr×Obj)} {σ:St} {H:Hp} {s:Shared}
theorem JJ{scope:Scope}{own:List (Str×Nat)}{fp:List Addr}(I:Inv X pins σ H s)(ok:JI X.N X.env.scope scope own)(hN:X.N.Nodup)(hfp:∀b∈fp,Dz X pins H b/\b<s.heap.objs.size):
  Inv (X.Ih s H scope (compEnvC scope (cellsFrom (s.heap.objs.size+1) scope.names (gh X.env.cells scope.names [])) s.heap.objs.size X.env) fp) [] (wipe σ (own.map (·.2))) H { s with heap:=pushCells (s.heap.push { cls:=.type "dict",data:=.dict #[] }) scope.names }:=by
 have hfree:∀y∈scope.names,y.2= .free-> ∃c,X.env.cells.lookup y.1=some c:=fun y hy e=>by
  rcases ok.free y hy e with k | k
  ·exact I.ok.has _ (.inl k)
  ·exact I.ok.has _ (.inr k)
 generalize JK:compEnvC scope (cellsFrom (s.heap.objs.size+1) scope.names (gh X.env.cells scope.names [])) s.heap.objs.size X.env=cenv
 have kp:∀b o,s.heap.get? b=some o->(pushCells (s.heap.push { cls:=.type "dict",data:=.dict #[] }) scope.names).get? b=some o:=fun b o e=>pushCells_keeps _ _ _ _ (ai _ e)
 have hL:cenv.locals=s.heap.objs.size:=by rw[<-JK];rfl
 have hcl:cenv.cells=cellsFrom (s.heap.objs.size+1) scope.names (gh X.env.cells scope.names []):=by rw[<-JK];rfl
 have hsc:cenv.scope=Yk scope X.env.scope:=by rw[<-JK];rfl
 rw[<-Heap.size_push s.heap { cls:=.type "dict",data:=.dict #[] }]at hcl
 have cm:∀{y c},(y,c)∈gh X.env.cells scope.names []->X.env.cells.lookup y=some c/\c<s.heap.objs.size:=fun{y c} hm=>by
  rcases ql hm with hm | ⟨h1,rfl⟩
  ·cases hm
  ·obtain⟨c,hc⟩:=hfree _ h1 rfl
   rw[hc]
   obtain⟨w,z⟩:=I.cell _ _ hc
   exact⟨rfl,z.lt⟩
 have mem:∀{y c},cenv.cells.lookup y=some c->(X.env.cells.lookup y=some c/\c<s.heap.objs.size)∨(s.heap.objs.size+1≤c/\Pw (pushCells (s.heap.push { cls:=.type "dict",data:=.dict #[] }) scope.names) c none):=fun{y c} e=>by
  rw[hcl]at e
  rcases rY (bu e)with hm | ⟨_,h2,h3⟩
  ·exact .inl (cm hm)
  ·rw[Heap.size_push]at h2;exact .inr ⟨h2,h3⟩
 have look:∀{y},scope.names.lookup y=some .free-> ∃c,cenv.cells.lookup y=some c/\X.env.cells.lookup y=some c:=fun{y} hl=>by
  have hy:(y,NameKind.free)∈scope.names:=bu hl
  obtain⟨c',e'⟩:=mem_lookup (xW (names:=scope.names) (n:=(s.heap.push { cls:=.type "dict",data:=.dict #[] }).objs.size) (vC (cells:=X.env.cells) (acc:=[]) hy))
  rw[<-hcl]at e'
  refine⟨c',e',?_⟩
  rw[hcl]at e'
  rcases rY (bu e')with hm | ⟨h1,_,_⟩
  ·exact(cm hm).1
  ·have:=ok.uniq _ h1
   rw[hl]at this;cases this
 have okB:(X.Ih s H scope cenv fp).Ok:=by
  refine⟨I.ok.mod,by show cenv.scope.kind=_;rw[hsc];exact ok.kind,by show cenv.globals=_;rw[<-JK];exact I.ok.glob,by show cenv.builtins=_;rw[<-JK];exact I.ok.blt,by show s.heap.objs.size≤cenv.locals;rw[hL];exact aA _,
   fun y z c e1 e2=>?_,fun y hy=>?_,fun y c z e=>?_,I.ok.hd,I.ok.frames,.inl rfl,fun b hb=>⟨?_,fun y c e z=>?_⟩,I.bs,aS I.ok.RI I.sz,fun b o e hb=>?_,fun b hb z=>?_,I.stack,I.MN⟩
  ·have e1:cenv.cells.lookup y=some c:=e1
   have e2:cenv.cells.lookup z=some c:=e2
   rw[hcl]at e1 e2
   refine B3 (fun p hp=>?_) (fun y z c a b=>I.ok.inj y z c (cm a).1 (cm b).1) (bu e1) (bu e2)
   rw[Heap.size_push]
   exact Nat.lt_succ_of_lt (cm (y:=p.1) (c:=p.2) hp).2
  ·show ∃c,cenv.cells.lookup y=some c
   have key:∀k,cenv.kindOf y=some k->(k= .cell∨k= .free)-> ∃c,cenv.cells.lookup y=some c:=fun k hk hk'=>by
    unfold Env.kindOf at hk
    rw[hsc]at hk
    obtain⟨k',e,r⟩:=vD hk
    have:k'= .cell∨k'= .free:=by
     rcases r with rfl | ⟨rfl,_⟩
     ·exact hk'
     ·exact .inr rfl
    rcases this with rfl | rfl
    ·obtain⟨c,hm⟩:=B0 (n:=(s.heap.push { cls:=.type "dict",data:=.dict #[] }).objs.size) (acc:=gh X.env.cells scope.names []) (bu e)
     obtain⟨c',e'⟩:=mem_lookup hm
     exact⟨c',by rw[hcl];exact e'⟩
    ·obtain⟨c,h1,_⟩:=look e
     exact⟨c,h1⟩
   rcases hy with hy | hy
   ·exact key _ hy (.inl rfl)
   ·exact key _ hy (.inr rfl)
  ·have z:(scope.names.lookup y==some NameKind.cell)=true:=z
   have z:scope.names.lookup y=some .cell:=by simpa using z
   have e:cenv.cells.lookup y=some c:=e
   rw[hcl]at e
   rcases rY (bu e)with hm | ⟨_,h2,_⟩
   ·rcases ql hm with hm | ⟨h1,_⟩
    ·cases hm
    ·have q:=ok.uniq _ h1
     rw[z]at q;cases q
   ·rw[Heap.size_push]at h2
    exact Nat.le_of_succ_le h2
  ·show b≠cenv.locals
   rw[hL];exact aT (hfp b hb).2
  ·have e:cenv.cells.lookup y=some c:=e
   rcases mem e with ⟨h1,_⟩ | ⟨h1,_⟩
   ·exact(hfp b hb).1.2.2.2.2.1 y c h1 z
   ·have h2:s.heap.objs.size+1≤b:=by rw[<-z];exact h1
    exact absurd (aM (hfp b hb).2 (Nat.le_of_succ_le h2)) (bX _)
  ·rcases(hfp b hb).1.2.2.2.1 with z | z
   ·exact I.ok.O6 b o e z
   ·exact absurd (aM (aC e) (aS I.ok.RI z)) (bX _)
  ·rcases aB.mp (I.Lp b z)with z | z
   ·exact(hfp b hb).1.2.1 z
   ·exact(hfp b hb).1.2.2.1 z
 refine⟨okB,rfl,I.bare,Un.kept kp,⟨fun _=>none,?_,fun i y av e1 e2 e3=>?_⟩,fun y c e=>?_,?_,fun y c e=>?_,fun p hp=>?_,I.hok.kept kp,by rw[vE];exact I.len⟩
 ·show Heap.Ns _ cenv.locals _
  rw[hL]
  exact Heap.Ns.keeps (Heap.Ns.new ..) fun b o e=>pushCells_keeps _ _ _ _ e
 ·obtain⟨e2,hne⟩:=B4 e2
  have hfr:scope.names.lookup y=some .free/\(cenv.kindOf y=some .cell∨cenv.kindOf y=some .free):=by
   have key:∀k,cenv.scope.names.lookup y=some k->k= .local∨k= .cell∨k= .free->scope.names.lookup y=some .free/\(cenv.kindOf y=some .cell∨cenv.kindOf y=some .free):=fun k hk hk'=>by
    have hk0:=hk
    rw[hsc]at hk
    obtain⟨k',e,r⟩:=vD hk
    have no:¬(k'= .local∨k'= .cell):=fun hh=>by
     rcases ok.own _ (bu e) hh with e' | e'
     ·obtain⟨p,hp,hpy⟩:=aQ.mp e'
      have e3:=ok.ix p hp
      have:p.1=y:=hpy
      rw[this]at e3
      exact hne (aQ.mpr ⟨p,hp,Ei hN e3 e1⟩)
     ·exact e' (ak e1)
    rcases r with rfl | ⟨rfl,rfl⟩
    ·rcases hk' with rfl | rfl | rfl
     ·exact absurd (.inl rfl) no
     ·exact absurd (.inr rfl) no
     ·exact⟨e,.inr hk0⟩
    ·exact⟨e,.inl hk0⟩
   have e3:VE cenv.scope y:=e3
   rcases e3 with e3 | e3 | e3
   ·exact key _ e3 (.inl rfl)
   ·exact key _ e3 (.inr (.inl rfl))
   ·exact key _ e3 (.inr (.inr rfl))
  obtain⟨m,hn,hl⟩:=I.loc
  have Yl:VE X.env.scope y:=(ok.free _ (bu hfr.1) rfl).elim (fun k=>.inr (.inl k)) (fun k=>.inr (.inr k))
  obtain⟨w,r,q⟩:=hl i y av e1 e2 Yl
  refine⟨w,r,.inr ⟨hfr.2,?_⟩⟩
  obtain⟨c,h1,h2⟩:=look hfr.1
  rcases q with ⟨k,_⟩ | ⟨_,c',e',z⟩
  ·have k:X.env.scope.names.lookup y=some .local:=k
   rcases ok.free _ (bu hfr.1) rfl with k' | k' <;> rw[show X.env.scope.names.lookup y=_ from k']at k <;> cases k
  ·rw[h2]at e';cases e'
   exact⟨c,h1,z.keeps kp⟩
 ·have e:cenv.cells.lookup y=some c:=e
  rcases mem e with ⟨h1,_⟩ | ⟨_,z⟩
  ·obtain⟨w,z⟩:=I.cell y c h1
   exact⟨w,z.keeps kp⟩
  ·exact⟨_,z⟩
 ·show H cenv.locals=none
  rw[hL];exact I.hok.fresh (aA _)
 ·have e:cenv.cells.lookup y=some c:=e
  rcases mem e with ⟨h1,_⟩ | ⟨h1,_⟩
  ·exact I.qk y c h1
  ·exact I.hok.fresh (Nat.le_of_succ_le h1)
 ·exact absurd (show p∈([]:List (Addr×Obj))++[]from hp) (by simp)
theorem Uu{E:Value->Shared->Prop}{D:Addr}{xs:List V}{y:V}{v:Value}{Q:Value->Shared->Prop}(I:Inv X pins σ H s)(hD:H D=some (.lst xs))(hz:xs.length<sizeLine)(r:RelV y v)
  (h:∀s',Inv X pins σ (upd H D (.lst (xs++[y]))) s'->Q .none s'):wpAny (model X.prog X.w) X.A (call (.builtin "list.append") [.ref D,v]) Q E s:=by
 obtain⟨hz',its,n,ri,e⟩:=I.hok D _ hD
 have hl:=ri.length
 refine append_at (hsz:=by rw[aR];omega) e fun h' sb ho'=>?_
 refine h { s with heap:=h' } (I.write (t':=s.toks) (by rw[hD];trivial) (.inl rfl) (fun b u hb q=>(sb.2 b hb).trans q) ⟨_,ho'⟩ ⟨by rw[ao];exact hz,its++[v],n+1,ri.append (.cons r .nil),?_⟩)
 rw[ho']
 simp
def V0(X:Cx)(ifs:List Expr)(t:TT):Prop:=
 ∀(pins:List (Addr×Obj))(s:Shared)(σ:St)(H:Hp)(Q:Bool->Hp->Prop),Inv X pins σ H s->t σ H Q->
  wpAny (model X.prog X.w) X.A (forIn ifs true fun c r=>if r=true then do let ok <-isTrue c X.env (eval c X.env);pure (ForInStep.yield ok) else pure (ForInStep.yield r)) (TP X pins σ Q) X.xe s
def V1:TT:=fun _ H Q=>Q true H
theorem lG:V0 X [] V1:=fun _ _ _ H _ I h=>wpAny_tests_nil ⟨H,I,h⟩
theorem AO{c:Expr}{t:TT}(h:PT X c t):V0 X [c] t:=fun pins s σ H Q I hw=>wpAny_tests_one (h pins s σ H Q I hw)
end
theorem Oa{α:Type}{t:Sem α}{Q Q':α->Shared->Prop}{M:Model}{A:Around}{E:Value->Shared->Prop}{s:Shared}(h:wpAny M A t Q (fun _ _=>False) s)(hQ:∀a s,Q a s->Q' a s):wpAny M A t Q' E s:=wpAny_mono h hQ fun _ _ z=>False.elim z
theorem Ii{prog:Program}{w:World}{A:Around}{R:Result->Shared->Prop}{s:Shared}{elt target iter:Expr}{ifs:List Expr}{scope:Scope}{pos:Pos}{it acc:Value}{env:Env}(I:Nat->Shared->Prop)
  (turn:∀n s,I n s->wpAny (model prog w) A (pyNext it) (fun r s₁=>match r with
   |none=>R (.ok .next) s₁
   |some v=>wpAny (model prog w) A (letOwnedTupleGo target it v) (fun _ s₁'=>wpAny (model prog w) A (assign target env v) (fun _ s₂=>
    wpAny (model prog w) A (forIn ifs true fun c r=>if r=true then do let ok <-isTrue c env (eval c env);pure (ForInStep.yield ok) else pure (ForInStep.yield r)) (fun ok s₃=>
     if ok=true then wpAny (model prog w) A (eval elt env) (fun x s₄=>
      wpAny (model prog w) A (call (.builtin "list.append") [acc,x]) (fun _ s₅=>∃m,m<n/\I m s₅) (notedBy (model prog w) A env fun e s'=>R (.error e) s') s₄) (notedBy (model prog w) A env fun e s'=>R (.error e) s') s₃
     else ∃m,m<n/\I m s₃) (notedBy (model prog w) A env fun e s'=>R (.error e) s') s₂) (notedBy (model prog w) A env fun e s'=>R (.error e) s') s₁') (notedBy (model prog w) A env fun e s'=>R (.error e) s') s₁) (notedBy (model prog w) A env fun e s'=>R (.error e) s') s)
  (n:Nat)(h:I n s):
  codeAny (model prog w) A (.compLoop (.ListComp elt [⟨target,iter,ifs,0⟩] scope pos) 0 it acc env) R s:=by
 refine codeAny_loop rfl I (fun n s hI=>?_) n h
 show wpAny _ A ((compTurn (.ListComp elt [⟨target,iter,ifs,0⟩] scope pos) 0 it acc env).onRaise (fun x=>do noteFrame x env;theTreesLotGoes x)) _ _ s
 refine wpAny_noted ?_
 rw[compTurn_list]
 refine aU (wpAny_standAt (aU (wpAny_mono (turn n s hI) (fun r s₁ h₁=>?_) fun _ _ h'=>h')))
 cases r with
 |none=>exact aV h₁
 |some v=>
  refine aU (wpAny_mono h₁ (fun _ s₁' h₁'=>?_) fun _ _ h'=>h')
  refine aU (wpAny_mono h₁' (fun _ s₂ h₂=>aU (wpAny_mono h₂ (fun ok s₃ h₃=>?_) fun _ _ h'=>h')) fun _ _ h'=>h')
  cases ok with
  |false=>exact aV ⟨rfl,h₃⟩
  |true=>
   exact aU (aU (wpAny_mono h₃ (fun x s₄ h₄=>aU (wpAny_mono h₄ (fun _ s₅ h₅=>aV (aV ⟨rfl,h₅⟩)) fun _ _ h'=>h')) fun _ _ h'=>h'))
section
variable {X:Cx}
def Xk(wi:TI)(g:TG)(tt:TT)(te:TE)(vs:List Nat):TE:=fun σ H Q=>wi σ H fun J H1=>∀D,H1 D=none-> ∃W:Nat->Nat->Hp->Prop,(∃m,W 0 m (upd H1 D (.lst [])))/\ ∀i m H,W i m H->
 (J.stop i H/\Q (.ref D) H)∨(J.go i H/\ ∃Nx:Hp->Prop,(∀H',Nx H'-> ∃m',m'<m/\W (i+1) m' H')/\ ∀x H',J.RM i H x H'->g x (wipe σ vs) H' fun σ2 H2=>wipe σ2 vs=wipe σ vs/\tt σ2 H2 fun b H3=>
  if b=true then te σ2 H3 fun y H4=>∃acc,H4 D=some (.lst acc)/\acc.length<sizeLine/\Nx (upd H4 D (.lst (acc++[y]))) else Nx H3)
theorem MX{pins:List (Addr×Obj)}{s:Shared}{σ:St}{H:Hp}{Q:VK}{elt tg iter:Expr}{ifs:List Expr}{scope:Scope}{own:List (Str×Nat)}{pos pos':Pos}{wi:TI}{g:TG}{tt:TT}{te:TE}{use:Option (Value->Sem Unit)}{Qf:Value->Shared->Prop}
  (hc:X.calm=true)(hN:X.N.Nodup)(I:Inv X pins σ H s)(hi:PI X tg iter wi)(ok:JI X.N X.env.scope scope own)
  (hg:∀(s:Shared)(H:Hp)(C:Addr)(cl:List (Str×Addr))(fp:List Addr),PG (X.Ih s H scope (compEnvC scope cl C X.env) fp) tg g)(ht:∀(s:Shared)(H:Hp)(C:Addr)(cl:List (Str×Addr))(fp:List Addr),V0 (X.Ih s H scope (compEnvC scope cl C X.env) fp) ifs tt)
  (he:∀(s:Shared)(H:Hp)(C:Addr)(cl:List (Str×Addr))(fp:List Addr),PE (X.Ih s H scope (compEnvC scope cl C X.env) fp) elt te)(hs:∀x,foldedSetIterable iter X.env x=pure x)
  (h:Xk wi g tt te (own.map (·.2)) σ H Q)
  (hRR:∀D C s' m H',Inv X pins σ H' s'->Q (.ref D) H'->s'.heap.Ns C m->Dz X pins H' C->compPost (model X.prog X.w) X.A X.xe use Qf (.ref D) C (.ok .next) s'):
  wpAny (model X.prog X.w) X.A (comprehension (.ListComp elt [⟨tg,iter,ifs,0⟩] scope pos) scope X.env pos' (newList []) false (eval iter X.env) use) Qf X.xe s:=by
 have hfree:∀y∈scope.names,y.2= .free-> ∃c,X.env.cells.lookup y.1=some c:=fun y hy e=>by
  rcases ok.free y hy e with k | k
  ·exact I.ok.has _ (.inl k)
  ·exact I.ok.has _ (.inr k)
 refine wpAny_comprehension_free (use:=use) rfl hs (LD hfree) ok.kind (fun y hy e=>by rw[ok.uniq y hy,e])
  (ig (hi pins s σ H _ I h) fun xv s1 hx=>ig hx fun itv s2 h2=>?_)
 obtain⟨it,fp,tn,J,H2,e,I2,T,st2,f2,q⟩:=h2
 subst e
 refine bJ (JH ?_) (by show 0≤sizeLine;decide)
 generalize hD:s2.heap.objs.size=D
 have hDn:H2 D=none:=I2.hok.fresh (Nat.le_of_eq hD)
 obtain⟨W,⟨m0,w0⟩,turn⟩:=q D hDn
 generalize ZN:({ s2 with heap:=s2.heap.push { cls:=.type "list",data:=.seq ([]:List Value).toArray } }:Shared)=s3
 have I3:Inv X pins σ (upd H2 D (.lst [])) s3:=by
  rw[<-ZN]
  refine I2.laid (t':=s2.toks) (fun b o e=>ai _ e) (Nat.le_of_eq hD) ⟨Nat.zero_le _,[],0,.nil,?_⟩
  rw[<-hD]
  exact aF _ rfl
 have h3:s3.heap=s2.heap.push { cls:=.type "list",data:=.seq ([]:List Value).toArray }:=by rw[<-ZN]
 have sz:∀b∈fp,b<s2.heap.objs.size:=fun b hb=>by
  obtain⟨o,e,_⟩:=T.obj _ _ st2 b hb
  exact aC e
 have f3:∀b∈fp,Dz X pins (upd H2 D (.lst [])) b/\b<s3.heap.objs.size:=fun b hb=>by
  have hlt:=sz b hb
  refine⟨⟨?_,(f2 b hb).2⟩,by rw[h3,Heap.size_push];exact Nat.lt_succ_of_lt hlt⟩
  rw[cV (by rw[<-hD];exact aT hlt)]
  exact(f2 b hb).1
 have st3:tn 0 s3.heap:=T.keep _ _ _ st2 fun b _ o e=>by rw[h3];exact ai _ e
 have I4:=JJ I3 ok hN f3
 have pg:=hg s3 (upd H2 D (.lst [])) s3.heap.objs.size (cellsFrom (s3.heap.objs.size+1) scope.names (gh X.env.cells scope.names [])) fp
 have pt:=ht s3 (upd H2 D (.lst [])) s3.heap.objs.size (cellsFrom (s3.heap.objs.size+1) scope.names (gh X.env.cells scope.names [])) fp
 have pe:=he s3 (upd H2 D (.lst [])) s3.heap.objs.size (cellsFrom (s3.heap.objs.size+1) scope.names (gh X.env.cells scope.names [])) fp
 show codeAny _ _ (.compStart (.ListComp elt [⟨tg,iter,ifs,0⟩] scope pos) 0 (.ref it) (.ref D) (compEnvC scope (cellsFrom (s3.heap.objs.size+1) scope.names (gh X.env.cells scope.names [])) s3.heap.objs.size X.env)) (compPost (model X.prog X.w) X.A X.xe use Qf (.ref D) s3.heap.objs.size) { s3 with heap:=pushCells (s3.heap.push { cls:=.type "dict",data:=.dict #[] }) scope.names }
 have ZO:∀b∈fp,(upd H2 D (.lst [])) b=none:=fun b hb=>(f3 b hb).1.1
 generalize hce:compEnvC scope (cellsFrom (s3.heap.objs.size+1) scope.names (gh X.env.cells scope.names [])) s3.heap.objs.size X.env=ce at I4 pg pt pe ⊢
 have cL:ce.locals=s3.heap.objs.size:=by subst hce;rfl
 generalize Rw:upd H2 D (.lst [])=H3 at I3 I4 pg pt pe w0 ZO f3
 generalize Ym:({ s3 with heap:=pushCells (s3.heap.push { cls:=.type "dict",data:=.dict #[] }) scope.names }:Shared)=s4 at I4 ⊢
 have st4:tn 0 s4.heap:=T.keep _ _ _ st3 fun b _ o e=>by rw[<-Ym];exact pushCells_keeps _ _ _ _ (ai _ e)
 have Lu:∀{σ':St}{H':Hp}{s':Shared},Inv (X.Ih s3 H3 scope ce fp) [] σ' H' s'->(∀b∈fp,H' b=none)-> ∀b∈fp,Dz (X.Ih s3 H3 scope ce fp) [] H' b:=fun{σ' H' s'} I' hn b hb=>
  ⟨hn b hb,(I'.ok.Xd b hb).1,I'.ok.O7 b hb,.inl hb,fun x c e=>(I'.ok.Xd b hb).2 x c e,fun p hp=>absurd (show p∈([]:List (Addr×Obj))++[]from hp) (by simp)⟩
 have loop:codeAny (model X.prog X.w) X.A (.compLoop (.ListComp elt [⟨tg,iter,ifs,0⟩] scope pos) 0 (.ref it) (.ref D) ce) (compPost (model X.prog X.w) X.A X.xe use Qf (.ref D) s3.heap.objs.size) s4:=by
  refine Ii (fun n s'=>∃i H',Inv (X.Ih s3 H3 scope ce fp) [] (wipe σ (own.map (·.2))) H' s'/\tn i s'.heap/\(∀b∈fp,H' b=none)/\W i n H') ?_ m0 ⟨0,H3,I4,st4,ZO,w0⟩
  rintro n s5 ⟨i,H5,I5,st5,n5,w5⟩
  rcases turn i n H5 w5 with ⟨stop,qq⟩ | ⟨go,Nx,hNx,step⟩
  ·have td:=T.done (X.Ih s3 H3 scope ce fp) rfl rfl rfl hc i [] s5 _ H5 (fun _ _=>False) I5 (Lu I5 n5) st5 stop
   refine Oa td fun r s6 ⟨hr,I6⟩=>?_
   subst hr
   have I7:Inv X pins σ H5 s6:=I3.VH (ch:=fp) I6.os I6.base I6.hok I6.bare fun b hb=>⟨(f3 b hb).1.2.2.2.1,(f3 b hb).1.2.1,(f3 b hb).1.2.2.2.2.1,(f3 b hb).1.2.2.2.2.2⟩
   have nC:H5 s3.heap.objs.size=none:=by
    have z:H5 ce.locals=none:=I6.free
    rw[cL]at z
    exact z
   obtain⟨m,hn,_⟩:=I6.loc
   have hn:s6.heap.Ns ce.locals m:=hn
   rw[cL]at hn
   exact hRR D s3.heap.objs.size s6 m H5 I7 qq hn (I3.N1 (aA _) nC)
  ·have ti:=T.item (X.Ih s3 H3 scope ce fp) rfl rfl rfl hc i [] s5 _ H5 (fun _ _=>False) I5 (Lu I5 n5) st5 go
   refine Oa ti fun r s6 ⟨u,hr,h6⟩=>?_
   subst hr
   refine Oa h6 fun _ s7 ⟨x,H7,I7,r7,y7,Yn,n7⟩=>?_
   have I7':=I7.pinned (Lu I7 n7) (T.obj _ _ Yn)
   refine Oa (pg _ s7 _ H7 x u _ I7' r7 (step x H7 y7)) fun _ s8 ⟨σ8,H8,I8,ZP,q8⟩=>?_
   refine Oa (pt _ s8 σ8 H8 _ I8 q8) fun b s9 ⟨H9,I9,q9⟩=>?_
   have fin:∀{s':Shared}{H':Hp},Inv (X.Ih s3 H3 scope ce fp) ([]++El fp s7.heap) σ8 H' s'->Nx H'-> ∃m,m<n/\ ∃i H',Inv (X.Ih s3 H3 scope ce fp) [] (wipe σ (own.map (·.2))) H' s'/\tn i s'.heap/\(∀b∈fp,H' b=none)/\W i m H':=fun{s' H'} I' nx=>by
    obtain⟨m',hm,w'⟩:=hNx H' nx
    have V2:∀b∈fp,∀o,s7.heap.get? b=some o->s'.heap.get? b=some o/\H' b=none:=fun b hb o e=>
     let z:=I'.pin (b,o) (List.mem_append_right _ (List.mem_append_right _ (zO hb e)))
     ⟨z.1,z.2.1⟩
    have hl:(wipe σ (own.map (·.2))).length=σ8.length:=by rw[<-ZP,vE]
    refine⟨m',hm,i+1,H',(I'.AH (pins:=[])).weak hl (fun j v e=>?_),T.keep _ _ _ Yn fun b hb o e=>(V2 b hb o e).1,fun b hb=>?_,w'⟩
    ·rw[<-ZP]at e
     exact(B4 e).1
    ·obtain⟨o,e,_⟩:=T.obj _ _ Yn b hb
     exact(V2 b hb o e).2
   cases b with
   |false=>
    simp only[bq,if_false]at q9 ⊢
    exact fin I9 q9
   |true=>
    simp only[if_true]at q9 ⊢
    refine Oa (pe _ s9 σ8 H9 _ I9 q9) fun z s10 ⟨yv,H10,I10,r10,acc,Yo,Yp,nx⟩=>?_
    exact Uu (X:=X.Ih s3 H3 scope ce fp) I10 Yo Yp r10 fun s11 I11=>fin I11 nx
 exact codeAny_compStart_list loop (T.self X.A 0 _ _ _ st4 loop)
theorem qm{elt tg iter:Expr}{ifs:List Expr}{scope:Scope}{own:List (Str×Nat)}{pos:Pos}{wi:TI}{g:TG}{tt:TT}{te:TE}(hc:X.calm=true)(hN:X.N.Nodup)(hi:PI X tg iter wi)(ok:JI X.N X.env.scope scope own)
  (hg:∀(s:Shared)(H:Hp)(C:Addr)(cl:List (Str×Addr))(fp:List Addr),PG (X.Ih s H scope (compEnvC scope cl C X.env) fp) tg g)(ht:∀(s:Shared)(H:Hp)(C:Addr)(cl:List (Str×Addr))(fp:List Addr),V0 (X.Ih s H scope (compEnvC scope cl C X.env) fp) ifs tt)
  (he:∀(s:Shared)(H:Hp)(C:Addr)(cl:List (Str×Addr))(fp:List Addr),PE (X.Ih s H scope (compEnvC scope cl C X.env) fp) elt te)(hs:∀x,foldedSetIterable iter X.env x=pure x:=by intro _;rfl):
  PE X (.ListComp elt [⟨tg,iter,ifs,0⟩] scope pos) (Xk wi g tt te (own.map (·.2))):=by
 intro pins s σ H Q I h
 rw[eval_ListComp]
 refine MX hc hN I hi ok hg ht he hs h fun D C s' m H' I' q hn f=>⟨m,hn,fun h'' sb=>?_⟩
 obtain⟨f0,f1,f2,f3,f4,f5⟩:=f
 exact⟨.ref D,H',I'.turned (t':=s'.toks) (fun b o hb e=>(sb.2 b hb).trans e) f0 f1 f3 f4 f5,rfl,q⟩
theorem JL{i:Nat}{y:Str}{py:Pos}{elt tg iter:Expr}{ifs:List Expr}{scope:Scope}{own:List (Str×Nat)}{pos spos:Pos}{wi:TI}{g:TG}{tt:TT}{te:TE}(hc:X.calm=true)(hN:X.N.Nodup)(hy:X.N[i]?=some y)(hyl:X.env.scope.names.lookup y=some .local)
  (hsw:swapsWith (.ListComp elt [⟨tg,iter,ifs,0⟩] scope pos) (some (.Name y py)) spos.line X.env=pure true)(hi:PI X tg iter wi)(ok:JI X.N X.env.scope scope own)
  (hg:∀(s:Shared)(H:Hp)(C:Addr)(cl:List (Str×Addr))(fp:List Addr),PG (X.Ih s H scope (compEnvC scope cl C X.env) fp) tg g)(ht:∀(s:Shared)(H:Hp)(C:Addr)(cl:List (Str×Addr))(fp:List Addr),V0 (X.Ih s H scope (compEnvC scope cl C X.env) fp) ifs tt)
  (he:∀(s:Shared)(H:Hp)(C:Addr)(cl:List (Str×Addr))(fp:List Addr),PE (X.Ih s H scope (compEnvC scope cl C X.env) fp) elt te)(hs:∀x,foldedSetIterable iter X.env x=pure x:=by intro _;rfl):
  PS X (.Assign [.Name y py] (.ListComp elt [⟨tg,iter,ifs,0⟩] scope pos) spos) (Ug (Xk wi g tt te (own.map (·.2))) (GL i)):=by
 intro pins s σ H D I h
 rw[exec_Assign_Name_used _ _ _ _ hsw]
 refine aU (wpAny_standAt (aU ?_))
 show wpAny _ X.A (do let _ <-comprehension (.ListComp elt [⟨tg,iter,ifs,0⟩] scope pos) scope X.env (firstIterPos [⟨tg,iter,ifs,0⟩] pos) (newList []) false (eval iter X.env) (some (assign (.Name y py) X.env))) _ _ s
 have h:Xk wi g tt te (own.map (·.2)) σ H (fun x H1=>GL i x σ H1 D.nx):=h
 refine aU (ig (MX (Qf:=fun _ s'=>SP X pins D .next s') hc hN I hi ok hg ht he hs h fun L C s' m H' I' q hn f=>?_) fun _ s' hq=>aV (aV hq))
 show wpAny _ _ (assign (.Name y py) X.env (.ref L)) _ _ _
 refine wpAny_assign_Name (GJ (v:=V.ref L) I' hN hy (.inl hyl) rfl (fun s2 I2 ⟨a,sb,ha⟩=>?_) (.inr hyl))
 obtain⟨f0,f1,f2,f3,f4,f5⟩:=f
 have haC:C≠a:=by
  rcases ha with z | z
  ·rw[z];exact f1
  ·exact fun e=>f4 y a z e.symm
 refine⟨m,hn.sameBut sb haC,fun h3 sb3=>?_⟩
 exact⟨_,H',I2.turned (t':=s2.toks) (fun b o hb e=>(sb3.2 b hb).trans e) f0 f1 f3 f4 f5,q⟩
end
theorem iM{K:PySem.W.Frag}{a:Addr}{xs:List V}{g:TG}{tt:TT}{te:TE}{vs:List Nat}{σ:St}{H1:Hp}{D:Addr}{Qd:Hp->Prop}(Pv:Nat->Hp->Prop)(h0:Pv 0 (upd H1 D (.lst [])))(hl:∀i H,i≤xs.length->Pv i H->dG K H a xs)
  (hs:∀i x H,xs[i]?=some x->Pv i H->g x (wipe σ vs) H fun σ2 H2=>wipe σ2 vs=wipe σ vs/\tt σ2 H2 fun b H3=>
   if b=true then te σ2 H3 fun y H4=>∃acc,H4 D=some (.lst acc)/\acc.length<sizeLine/\Pv (i+1) (upd H4 D (.lst (acc++[y]))) else Pv (i+1) H3)(hd:∀H,Pv xs.length H->Qd H):
  ∃W:Nat->Nat->Hp->Prop,(∃m,W 0 m (upd H1 D (.lst [])))/\ ∀i m H,W i m H->
   ((S9 K a).stop i H/\Qd H)∨((S9 K a).go i H/\ ∃Nx:Hp->Prop,(∀H',Nx H'-> ∃m',m'<m/\W (i+1) m' H')/\ ∀x H',(S9 K a).RM i H x H'->g x (wipe σ vs) H' fun σ2 H2=>wipe σ2 vs=wipe σ vs/\tt σ2 H2 fun b H3=>
    if b=true then te σ2 H3 fun y H4=>∃acc,H4 D=some (.lst acc)/\acc.length<sizeLine/\Nx (upd H4 D (.lst (acc++[y]))) else Nx H3):=by
 refine⟨fun i m H=>m=xs.length-i/\i≤xs.length/\Pv i H,⟨xs.length,by simp,Nat.zero_le _,h0⟩,?_⟩
 rintro i m H ⟨rfl,hi,p⟩
 have q:=hl i H hi p
 by_cases hlt:i<xs.length
 ·refine .inr ⟨⟨xs,xs[i],q,by simp[hlt]⟩,Pv (i+1),fun H' p'=>⟨xs.length-(i+1),by omega,rfl,hlt,p'⟩,fun x H' y=>?_⟩
  obtain⟨e,y⟩:=y
  subst e
  exact hs i x _ (y xs q) p
 ·have e:i=xs.length:=by omega
  subst e
  exact .inl ⟨⟨xs,q,aA _⟩,hd H p⟩
def V3(N:List Str)(sc scope:Scope)(own:List (Str×Nat)):Bool:=
 (match scope.kind with | .function=>true | _=>false)&&(scope.names.all fun y=>decide (scope.names.lookup y.1=some y.2))&&(own.all fun p=>decide (N[p.2]?=some p.1))&&
  (scope.names.all fun y=>match y.2 with
   |.free=>(match sc.names.lookup y.1 with | some .cell=>true | some .free=>true | _=>false)
   |.local=>decide (y.1∈own.map (·.1)) || decide (y.1∉N)
   |.cell=>decide (y.1∈own.map (·.1)) || decide (y.1∉N)
   |_=>true)
theorem gK{N:List Str}{sc scope:Scope}{own:List (Str×Nat)}(h:V3 N sc scope own=true):JI N sc scope own:=by
 unfold V3 at h
 simp only[aZ,List.all_eq_true,decide_eq_true_eq]at h
 obtain⟨⟨⟨h1,h2⟩,h3⟩,h4⟩:=h
 refine⟨?_,h2,h3,fun y hy e=>?_,fun y hy e=>?_⟩
 ·split at h1
  ·assumption
  ·cases h1
 ·have q:=h4 y hy
  simp only[e]at q
  split at q <;> first | exact .inl (by assumption) | exact .inr (by assumption) | cases q
 ·have q:=h4 y hy
  rcases e with e | e <;> (simp only[e,Bool.or_eq_true,decide_eq_true_eq]at q;exact q)
end L2
namespace L2
open PySem PySem.Spec PyProof.Rows
section
variable {prog:Program} {w:World} {A:Around} {R:Result->Shared->Prop} {s:Shared} {elt t0 i0 t1 i1:Expr} {aaa aab:List Expr} {scope:Scope} {pos:Pos} {it acc:Value} {env:Env}
end
section
variable {X:Cx}
end
end L2
namespace L2
open PySem PySem.Spec PyProof.Rows
section
variable {κ:Type} [DecidableEq κ]
def iY(kvs:List (κ×V))(k:κ):Option V:=(kvs.find? fun kv=>decide (kv.1=k)).map (·.2)
def putK(kvs:List (κ×V))(k:κ)(v:V):List (κ×V):=
 if (kvs.any fun kv=>decide (kv.1=k))=true then kvs.map (fun kv=>if kv.1=k then (kv.1,v) else kv) else kvs++[(k,v)]
theorem jq{p:κ×V}{r:List (κ×V)}{k:κ}(e:p.1=k):iY (p::r) k=some p.2:=by simp[iY,List.find?_cons,e]
theorem jr{p:κ×V}{r:List (κ×V)}{k:κ}(e:¬p.1=k):iY (p::r) k=iY r k:=by simp[iY,List.find?_cons,e]
theorem m5(k:κ):∀kvs:List (κ×V),(kvs.any fun kv=>decide (kv.1=k))=(iY kvs k).isSome
 |[]=>rfl
 |p::r=>by
  rw[List.any_cons]
  by_cases e:p.1=k
  ·simp only[jq e,aX e,Bool.true_or,Option.isSome_some]
  ·rw[jr e,aW e,Bool.false_or];exact m5 k r
theorem JM(k j:κ)(y:V):∀kvs:List (κ×V),iY (kvs.map fun kv=>if kv.1=k then (kv.1,y) else kv) j=(iY kvs j).map fun x=>if j=k then y else x
 |[]=>rfl
 |p::r=>by
  have ih:=JM k j y r
  rw[aL]
  by_cases h:p.1=k
  ·rw[bA h]
   by_cases e:p.1=j
   ·rw[jq (p:=(p.1,y)) e,jq e,Option.map_some,bA (e.symm.trans h)]
   ·rw[jr (p:=(p.1,y)) e,jr e,ih]
  ·rw[bz h]
   by_cases e:p.1=j
   ·rw[jq (p:=p) e,jq e,Option.map_some,bz (fun z=>h (e.trans z))]
   ·rw[jr (p:=p) e,jr e,ih]
theorem GU(k j:κ)(y:V):∀kvs:List (κ×V),iY kvs k=none->iY (kvs++[(k,y)]) j=if j=k then some y else iY kvs j
 |[],_=>by
  by_cases e:k=j
  ·rw[bA e.symm];exact jq (p:=(k,y)) e
  ·rw[bz (fun z=>e z.symm)];exact jr (p:=(k,y)) e
 |p::r,hn=>by
  rw[List.cons_append]
  have hk:¬p.1=k:=fun z=>by rw[jq z]at hn;cases hn
  rw[jr hk]at hn
  have ih:=GU k j y r hn
  by_cases e:p.1=j
  ·rw[jq e,jq e,bz (fun z=>hk (e.trans z))]
  ·rw[jr e,jr e,ih]
theorem AQ(kvs:List (κ×V))(k j:κ)(y:V):iY (putK kvs k y) j=if j=k then some y else iY kvs j:=by
 unfold putK
 by_cases a:(kvs.any fun kv=>decide (kv.1=k))=true
 ·rw[bA a,JM]
  rw[m5]at a
  by_cases e:j=k
  ·obtain⟨x,hx⟩:=Option.isSome_iff_exists.mp a
   rw[bA e,e,hx,Option.map_some,bA rfl]
  ·rw[bz e]
   cases iY kvs j with
   |none=>rfl
   |some x=>rw[Option.map_some,bz e]
 ·rw[bz a]
  refine GU k j y kvs ?_
  rw[m5]at a
  cases q:iY kvs k with
  |none=>rfl
  |some x=>rw[q]at a;exact(a rfl).elim
theorem k9(kvs:List (κ×V))(k:κ)(v:V):(putK kvs k v).length≤kvs.length+1:=by
 unfold putK
 split
 ·rw[aa];omega
 ·rw[ao,aj,List.length_nil];omega
theorem zM.rZ{o:Option V}{u:Option Value}(r:zM o u):o.isSome=u.isSome:=by
 cases o with
 |none=>cases u with
  |none=>rfl
  |some _=>exact(show False from r).elim
 |some _=>cases u with
  |none=>exact(show False from r).elim
  |some _=>rfl
theorem zM.getD{o:Option V}{u:Option Value}{d:V}{d':Value}(r:zM o u)(rd:RelV d d'):RelV (o.getD d) (u.getD d'):=by
 cases o with
 |none=>cases u with
  |none=>exact rd
  |some _=>exact(show False from r).elim
 |some _=>cases u with
  |none=>exact(show False from r).elim
  |some _=>exact r
theorem KV.val{kvs:List (κ×V)}{vs:List (κ×Value)}(r:KV kvs vs)(k:κ):zM (iY kvs k) (valueAt vs k):=by
 unfold KV at r
 induction r with
 |nil=>exact True.intro
 |@cons p q ps qs h t ih=>
  obtain⟨h1,h2⟩:=h
  by_cases e:p.1=k
  ·have e':q.1=k:=h1.symm.trans e
   have b:valueAt (q::qs) k=some q.2:=by simp[valueAt,List.find?_cons,e']
   rw[jq e,b];exact h2
  ·have e':¬q.1=k:=fun z=>e (h1.trans z)
   have b:valueAt (q::qs) k=valueAt qs k:=by simp[valueAt,List.find?_cons,e']
   rw[jr e,b];exact ih
theorem KV.any{kvs:List (κ×V)}{vs:List (κ×Value)}(r:KV kvs vs)(k:κ):(kvs.any fun kv=>decide (kv.1=k))=vs.any fun kv=>decide (kv.1=k):=by
 unfold KV at r
 induction r with
 |nil=>rfl
 |cons h t ih=>rw[List.any_cons,List.any_cons,ih,h.1]
theorem KV.repl{kvs:List (κ×V)}{vs:List (κ×Value)}(r:KV kvs vs)(k:κ){y:V}{u:Value}(ry:RelV y u):
  KV (kvs.map fun kv=>if kv.1=k then (kv.1,y) else kv) (vs.map fun kv=>if kv.1=k then (kv.1,u) else kv):=by
 unfold KV at r ⊢
 induction r with
 |nil=>exact .nil
 |@cons p q ps qs h t ih=>
  rw[aL,aL]
  refine .cons ?_ ih
  obtain⟨h1,h2⟩:=h
  by_cases e:p.1=k
  ·rw[bA e,bA (h1.symm.trans e)];exact⟨h1,ry⟩
  ·rw[bz e,bz (fun z=>e (h1.trans z))];exact⟨h1,h2⟩
theorem KV.put{kvs:List (κ×V)}{vs:List (κ×Value)}(r:KV kvs vs)(k:κ){y:V}{u:Value}(ry:RelV y u):KV (putK kvs k y) (stored vs k u):=by
 unfold putK stored
 rw[r.any k]
 by_cases e:(vs.any fun kv=>decide (kv.1=k))=true
 ·rw[bA e,bA e];exact r.repl k ry
 ·rw[bz e,bz e];exact Paired.snoc r ⟨rfl,ry⟩
theorem KV.keys{kvs:List (κ×V)}{vs:List (κ×Value)}(r:KV kvs vs):kvs.map (·.1)=vs.map (·.1):=by
 unfold KV at r
 induction r with
 |nil=>rfl
 |cons h t ih=>rw[aL,aL,ih,h.1]
theorem KV.length{kvs:List (κ×V)}{vs:List (κ×Value)}(r:KV kvs vs):kvs.length=vs.length:=Paired.length r
end
theorem AR{P:Program}{w:World}{k:Key}{u:Value}(r:RelV (kV k) u):(eW P w).is k u=true:=by
 cases k with
 |inl i=>obtain⟨t,e⟩:=(show ∃t,u=Value.int i t from r);subst e;exact vp P w i t
 |inr x=>obtain⟨t,e⟩:=(show ∃t,u=Value.str x t from r);subst e;exact Ju P w x t
theorem GV{P:Program}{w:World}:∀{ks:List Key}{us:List Value},Vals (ks.map kV) us->ItemsAre (eW P w) ks us
 |[],_,r=>by rw[bV]at r;cases r;exact .nil
 |k::ks,_,r=>by
  rw[aL]at r
  cases r with
  |cons h t=>exact .cons (AR h) (GV t)
abbrev KT(H:Hp):List (List Key×V)->List (List Key×Addr×Value)->Prop:=Paired fun p q=>p.1=q.1/\H q.2.1=some (.tup (p.1.map kV))/\RelV p.2 q.2.2
theorem KT.val{H:Hp}{kvs:List (List Key×V)}{xs:List (List Key×Addr×Value)}(r:KT H kvs xs)(k:List Key):zM (iY kvs k) ((atKey xs k).map (·.2)):=by
 induction r with
 |nil=>exact True.intro
 |@cons p q ps qs h t ih=>
  obtain⟨h1,_,h2⟩:=h
  by_cases e:p.1=k
  ·have e':q.1=k:=h1.symm.trans e
   have b:atKey (q::qs) k=some q.2:=by simp[atKey,List.find?_cons,e']
   rw[jq e,b];exact h2
  ·have e':¬q.1=k:=fun z=>e (h1.trans z)
   have b:atKey (q::qs) k=atKey qs k:=by simp[atKey,List.find?_cons,e']
   rw[jr e,b];exact ih
theorem KT.repl{H:Hp}{kvs:List (List Key×V)}{xs:List (List Key×Addr×Value)}(r:KT H kvs xs)(k:List Key){y:V}{u:Value}(ry:RelV y u):
  KT H (kvs.map fun kv=>if kv.1=k then (kv.1,y) else kv) (xs.map (putAt k u)):=by
 induction r with
 |nil=>exact .nil
 |@cons p q ps qs h t ih=>
  rw[aL,aL]
  refine .cons ?_ ih
  obtain⟨h1,h2,h3⟩:=h
  unfold putAt
  by_cases e:p.1=k
  ·rw[bA e,bA (h1.symm.trans e)];exact⟨h1,h2,ry⟩
  ·rw[bz e,bz (fun z=>e (h1.trans z))];exact⟨h1,h2,h3⟩
theorem KT.put{H:Hp}{kvs:List (List Key×V)}{xs:List (List Key×Addr×Value)}(r:KT H kvs xs)(k:List Key){b:Addr}{y:V}{u:Value}(hb:H b=some (.tup (k.map kV)))(ry:RelV y u):
  KT H (putK kvs k y) (storedH xs k b u):=by
 have e:(kvs.any fun kv=>decide (kv.1=k))=(atKey xs k).isSome:=by
  rw[m5,(r.val k).rZ,Option.isSome_map]
 unfold putK storedH
 rw[e]
 by_cases q:(atKey xs k).isSome=true
 ·rw[bA q,bA q];exact r.repl k ry
 ·rw[bz q,bz q];exact Paired.snoc r ⟨rfl,hb,ry⟩
theorem KT.keeps{H H':Hp}{kvs:List (List Key×V)}{xs:List (List Key×Addr×Value)}(r:KT H kvs xs)(ht:∀b ys,H b=some (.tup ys)->H' b=some (.tup ys)):KT H' kvs xs:=
 Paired.T9 r fun _ _ z=>⟨z.1,ht _ _ z.2.1,z.2.2⟩
section
variable {P:Program} {w:World} {H:Hp} {h:Heap} {a:Addr}
theorem Te{u:HO}(ok:vq P w H h)(e:Rd H a u):iW P w H h a u:=e.ok ok
theorem Ep{kvs:List (Key×V)}(ok:vq P w H h)(e:Rd H a (.dK kvs)):kvs.length≤sizeLine/\(a==sysModules)=false/\ ∃vs,KV kvs vs/\h.DictOf (eW P w) a vs:=
 show iW P w H h a (.dK kvs)from Te ok e
theorem Tf{kvs:List (Key×V)}(ok:vq P w H h)(e:H a=some (.dK kvs)):kvs.length≤sizeLine/\(a==sysModules)=false/\ ∃vs,KV kvs vs/\h.DictOf (eW P w) a vs:=Ep ok (.inl e)
theorem B5{ks:List Key}(ok:vq P w H h)(e:H a=some (.tup (ks.map kV))):(tupleKind (eW P w)).is h ks a:=by
 obtain⟨_,its,r,o,h1,h2,n,h3⟩:=(show iW P w H h a (.tup (ks.map kV))from ok a _ e)
 exact⟨o,its.toArray,n,h1,h2,h3,by simpa using GV r⟩
theorem Er{kvs:List (List Key×V)}(ok:vq P w H h)(e:Rd H a (.dT kvs)):kvs.length≤sizeLine/\(a==sysModules)=false/\
  ∃xs,KT H kvs xs/\h.DictOfH (tupleKind (eW P w)) a xs:=by
 obtain⟨z,y,xs,r,o,es,ep,h1,h2,h3,h4,h5⟩:=(show iW P w H h a (.dT kvs)from Te ok e)
 refine⟨z,y,xs,r,o,es,ep,h1,h2,h3,h4,fun x hx=>?_,h5⟩
 have all:∀{l:List (List Key×V)}{m:List (List Key×Addr×Value)},KT H l m-> ∀x∈m,(tupleKind (eW P w)).is h x.1 x.2.1:=by
  intro l m q
  induction q with
  |nil=>intro x hx;exact nomatch hx
  |@cons p q ps qs hq t ih=>
   intro x hx
   rcases aB.mp hx with e | hx
   ·subst e
    exact B5 ok (by rw[<-hq.1];exact hq.2.1)
   ·exact ih x hx
 exact all r x hx
theorem V4{kvs:List (List Key×V)}(ok:vq P w H h)(e:H a=some (.dT kvs)):kvs.length≤sizeLine/\(a==sysModules)=false/\
 ∃xs,KT H kvs xs/\h.DictOfH (tupleKind (eW P w)) a xs:=Er ok (.inl e)
end
def nE(H:Hp)(a:Addr)(y:V)(r:Option V):Prop:=
 (∃kvs k,Rd H a (.dK kvs)/\y=kV k/\r=iY kvs k)∨ ∃kvs k b,Rd H a (.dT kvs)/\y= .ref b/\H b=some (.tup (k.map kV))/\r=iY kvs k
def JN(H:Hp)(a:Addr)(y v:V)(H':Hp):Prop:=
 (∃kvs k,H a=some (.dK kvs)/\y=kV k/\kvs.length<sizeLine/\H'=upd H a (.dK (putK kvs k v)))∨
 ∃kvs k b,H a=some (.dT kvs)/\y= .ref b/\H b=some (.tup (k.map kV))/\kvs.length<sizeLine/\H'=upd H a (.dT (putK kvs k v))
theorem nE.k{H:Hp}{a:Addr}{kvs:List (Key×V)}{k:Key}(e:H a=some (.dK kvs)):nE H a (kV k) (iY kvs k):=.inl ⟨kvs,k,.inl e,rfl,rfl⟩
theorem JN.k{H:Hp}{a:Addr}{kvs:List (Key×V)}{k:Key}{v:V}(e:H a=some (.dK kvs))(hl:kvs.length<sizeLine):JN H a (kV k) v (upd H a (.dK (putK kvs k v))):=.inl ⟨kvs,k,e,rfl,hl,rfl⟩
section
variable {X:Cx} {pins:List (Addr×Obj)} {σ:St} {H:Hp} {s:Shared} {a:Addr} {y v:V} {u r:Value} {o:Option V} {A:Around} {E:Value->Shared->Prop}
theorem Inv.big(I:Inv X pins σ H s):sysModules<s.heap.objs.size:=by
 have h:mainGlobals<s.heap.objs.size:=(I.mod.glob.keeps I.bk).lt
 exact Nat.lt_trans (by decide) h
theorem Ob{Q:Value->Shared->Prop}(hu:A.units+1<cLine)(I:Inv X pins σ H s)(g:nE H a y (some v))(ry:RelV y u)(h:∀w' s',Inv X pins σ H s'->RelV v w'->Q w' s'):
  wpAny (model X.prog X.w) A (getItem (.ref a) u) Q E s:=by
 rcases g with ⟨kvs,k,e,ey,l⟩ | ⟨kvs,k,b,e,ey,eb,l⟩
 ·subst ey
  obtain⟨z,hd,vs,rel,dd⟩:=Ep I.hok e
  obtain⟨w',hw,rw'⟩:=zM.some_of (v:=v) (o:=valueAt vs k) (by rw[l];exact rel.val k)
  exact wpAny_getItem_of (AR ry) dd.mapOf hw (h w' _ (I.tok _) rw')
 ·subst ey
  cases (show u=Value.ref b from ry)
  obtain⟨z,hd,xs,rel,dd⟩:=Er I.hok e
  obtain⟨w',hw,rw'⟩:=zM.some_of (v:=v) (o:=(atKey xs k).map (·.2)) (by rw[l];exact rel.val k)
  obtain⟨p,hp,hp2⟩:=aI.mp hw
  refine wpAny_getItem_heap (tupleKind_room_in1 hu) (B5 I.hok eb) dd hp ?_
  rw[hp2]
  exact h w' _ (I.tok _) rw'
theorem Yq{Q:Value->Shared->Prop}(hu:A.units+1<cLine)(I:Inv X pins σ H s)(g:nE H a y o)(ry:RelV y u)(h:∀s',Inv X pins σ H s'->Q (.bool o.isSome) s'):
  wpAny (model X.prog X.w) A (compareOp .In u (.ref a)) Q E s:=by
 rcases g with ⟨kvs,k,e,ey,l⟩ | ⟨kvs,k,b,e,ey,eb,l⟩
 ·subst ey
  obtain⟨z,hd,vs,rel,dd⟩:=Ep I.hok e
  refine wpAny_in_of (AR ry) hd dd.mapOf ?_
  rw[<-(rel.val k).rZ,<-l]
  exact h _ (I.tok _)
 ·subst ey
  cases (show u=Value.ref b from ry)
  obtain⟨z,hd,xs,rel,dd⟩:=Er I.hok e
  refine wpAny_in_heap (tupleKind_room_in1 hu) (B5 I.hok eb) hd dd ?_
  have q:=(rel.val k).rZ
  rw[Option.isSome_map]at q
  rw[<-q,<-l]
  exact h _ (I.tok _)
theorem R6{Q:Value->Shared->Prop}(hu:A.units+1<cLine)(I:Inv X pins σ H s)(g:nE H a y o)(ry:RelV y u)(h:∀s',Inv X pins σ H s'->Q (.bool (!o.isSome)) s'):
  wpAny (model X.prog X.w) A (compareOp .NotIn u (.ref a)) Q E s:=by
 rcases g with ⟨kvs,k,e,ey,l⟩ | ⟨kvs,k,b,e,ey,eb,l⟩
 ·subst ey
  obtain⟨z,hd,vs,rel,dd⟩:=Ep I.hok e
  refine wpAny_notIn_of (AR ry) hd dd.mapOf ?_
  rw[<-(rel.val k).rZ,<-l]
  exact h _ (I.tok _)
 ·subst ey
  cases (show u=Value.ref b from ry)
  obtain⟨z,hd,xs,rel,dd⟩:=Er I.hok e
  refine wpAny_notIn_heap (tupleKind_room_in1 hu) (B5 I.hok eb) hd dd ?_
  have q:=(rel.val k).rZ
  rw[Option.isSome_map]at q
  rw[<-q,<-l]
  exact h _ (I.tok _)
theorem MY{h':Heap}{t':Nat}{ob:HO}(I:Inv X pins σ H s)(mu:S5 (H a))(hs:Heap.SameBut a s.heap h')(he:∃q,h'.get? a=some q)(new:iW X.prog X.w (upd H a ob) h' a ob):
  Inv X pins σ (upd H a ob) { s with heap:=h',toks:=t' }:=
 I.write (x:=a) (e:=a) mu (.inl rfl) (fun b q hb z=>(hs.2 b hb).trans z) he new
theorem Px{P:Program}{w:World}{H':Hp}{h':Heap}{kvs:List (Key×V)}{vs:List (Key×Value)}(z:kvs.length≤sizeLine)(hd:(a==sysModules)=false)(rel:KV kvs vs)(dd:h'.DictOf (eW P w) a vs):
 iW P w H' h' a (.dK kvs):=⟨z,hd,vs,rel,dd⟩
theorem Oc{H':Hp}{Q:Unit->Shared->Prop}(hu:A.units+1<cLine)(I:Inv X pins σ H s)(g:JN H a y v H')(ry:RelV y u)(rv:RelV v r)(h:∀s',Inv X pins σ H' s'->Q () s'):
  wpAny (model X.prog X.w) A (setItem (.ref a) u r) Q E s:=by
 rcases g with ⟨kvs,k,e,ey,l,eH⟩ | ⟨kvs,k,b,e,ey,eb,l,eH⟩
 ·subst ey eH
  obtain⟨z,hd,vs,rel,dd⟩:=Tf I.hok e
  have hz:vs.length≤sizeLine:=by rw[<-rel.length];exact z
  have hl:(putK kvs k v).length≤sizeLine:=by have:=k9 kvs k v;omega
  refine wpAny_setItem_pairs (hsz:=hz) (AR ry) dd fun h' Vn hs=>h _ ?_
  have he:∃q,h'.get? a=some q:=let ⟨q,_,_,hq,_⟩:=Vn;⟨q,hq⟩
  exact MY I (by rw[e];exact True.intro) hs he (Px hl hd (rel.put k rv) Vn)
 ·subst ey eH
  cases (show u=Value.ref b from ry)
  obtain⟨z,hd,xs,rel,dd⟩:=V4 I.hok e
  have hz:xs.length≤sizeLine:=by rw[<-Paired.length rel];exact z
  have hl:(putK kvs k v).length≤sizeLine:=by have:=k9 kvs k v;omega
  refine wpAny_setItem_heap (hsz:=hz) (tupleKind_room_in1 hu) (B5 I.hok eb) dd fun h' Vn hs=>h _ ?_
  obtain⟨q,es,ep,hq,h2,h3,h4,_,h5⟩:=Vn
  refine MY I (by rw[e];exact True.intro) hs ⟨q,hq⟩ ⟨hl,hd,_,(rel.put k eb rv).keeps fun c ys ec=>?_,q,es,ep,hq,h2,h3,h4,h5⟩
  rw[cV (e9 ec e (fun z=>nomatch z))]
  exact ec
end
section
variable {X:Cx} {pins:List (Addr×Obj)} {σ:St} {H:Hp} {s:Shared} {a:Addr} {kvs:List (Key×V)} {k:Key} {u:Value} {A:Around} {E:Value->Shared->Prop}
end
def Uv(i:Expr):Prop:=∀ov iv,subscripted i false ov iv=operate [ov,iv] (getItem ov iv)
theorem MZ{prog:Program}{w:World}{A:Around}{E:Value->Shared->Prop}{s:Shared}{env:Env}{value slice:Expr}{pos:Pos}{T id:String}{Q:Value->Shared->Prop}
  (hl:typeLookup (.type T) "__getitem__"=pure (some (.builtin id)))(hs:Uv slice)
  (h:wpAny (model prog w) A (eval value env) (fun o s₁=>wpAny (model prog w) A (eval slice env) (fun i s₂=>s₂.TypeIs o T/\wpAny (model prog w) A (getItem o i) Q E s₂) E s₁) E s):
  wpAny (model prog w) A (eval (.Subscript value slice pos) env) Q E s:=by
 refine Subscript_ (wpAny_mono h (fun o s₁ h₁=>wpAny_mono h₁ (fun i s₂ h₂=>?_) fun _ _ x=>x) fun _ _ x=>x)
 obtain⟨hT,h₂⟩:=h₂
 unfold subscriptTail
 refine aU ?_
 rw[getitemInPython_of_ne hT.not_modules]
 refine aU (wpAny_specialOf hT hl ?_)
 have fin:wpAny (model prog w) A (subscripted slice false o i) (fun r s₃=>wpAny (model prog w) A (letTemporaryGo value o r >>= fun _=>pure r) Q E s₃) E s₂:=by
  rw[hs o i]
  exact wpAny_operating (wpAny_mono h₂ (fun r s₃ h₃=>aU (wpAny_letTemporaryGo (aV h₃))) fun _ _ x=>x)
 first
  |exact aV (aU fin)
  |exact aU (aV (aU fin))
  |exact aU fin
theorem JO{X:Cx}{pins:List (Addr×Obj)}{σ:St}{H:Hp}{s:Shared}{a:Addr}{y:V}{o:Option V}(I:Inv X pins σ H s)(g:nE H a y o):s.TypeIs (.ref a) "dict":=by
 rcases g with ⟨kvs,k,e,_,_⟩ | ⟨kvs,k,b,e,_,_,_⟩
 ·obtain⟨_,_,vs,_,dd⟩:=Ep I.hok e
  exact dd.typeIs
 ·obtain⟨_,_,xs,_,dd⟩:=Er I.hok e
  exact dd.typeIs
def V5(td ty:TE):TE:=fun σ H Q=>td σ H fun x H1=>ty σ H1 fun y H2=>∃a v,x= .ref a/\nE H2 a y (some v)/\Q v H2
def Yr(ty td:TE):TE:=fun σ H Q=>ty σ H fun y H1=>td σ H1 fun x H2=>∃a o,x= .ref a/\nE H2 a y o/\Q (.bl o.isSome) H2
def R7(ty td:TE):TE:=fun σ H Q=>ty σ H fun y H1=>td σ H1 fun x H2=>∃a o,x= .ref a/\nE H2 a y o/\Q (.bl (!o.isSome)) H2
def V6(td ty tv:TE):TS:=fun D σ H=>tv σ H fun v H1=>td σ H1 fun x H2=>ty σ H2 fun y H3=>∃a H4,x= .ref a/\JN H3 a y v H4/\D.nx σ H4
section
variable {X:Cx} {o i e value:Expr} {pos pos' tpos:Pos} {td ty tv:TE}
theorem fE(hu:X.A.units+1<cLine)(ho:PE X o td)(hi:PE X i ty)(hs:Uv i):PE X (.Subscript o i pos) (V5 td ty):=by
 intro pins s σ H Q I h
 refine MZ PySem.F.slot_dict_getitem.lookup hs (ig (ho pins s σ H _ I h) fun u s1 ⟨x,H1,I1,rx,q1⟩=>ig (hi pins s1 σ H1 _ I1 q1) fun iv s2 ⟨y,H2,I2,ry,a,v,ex,g,q2⟩=>?_)
 subst ex
 obtain rfl:u=Value.ref a:=rx
 exact⟨JO I2 g,Ob hu I2 g ry fun w' s3 I3 rw'=>⟨v,H2,I3,rw',q2⟩⟩
theorem Uw(hu:X.A.units+1<cLine)(hi:PE X i ty)(ho:PE X o td):PC X .In i o (Yr ty td):=by
 intro pins s σ H Q I h
 refine ig (hi pins s σ H _ I h) fun iv s1 ⟨y,H1,I1,ry,q1⟩=>ig (ho pins s1 σ H1 _ I1 q1) fun u s2 ⟨x,H2,I2,rx,a,ov,ex,g,q2⟩=>?_
 subst ex
 obtain rfl:u=Value.ref a:=rx
 exact Yq hu I2 g ry fun s3 I3=>⟨.bl ov.isSome,H2,I3,rfl,q2⟩
theorem Od(hu:X.A.units+1<cLine)(hi:PE X i ty)(ho:PE X o td):PC X .NotIn i o (R7 ty td):=by
 intro pins s σ H Q I h
 refine ig (hi pins s σ H _ I h) fun iv s1 ⟨y,H1,I1,ry,q1⟩=>ig (ho pins s1 σ H1 _ I1 q1) fun u s2 ⟨x,H2,I2,rx,a,ov,ex,g,q2⟩=>?_
 subst ex
 obtain rfl:u=Value.ref a:=rx
 exact R6 hu I2 g ry fun s3 I3=>⟨.bl (!ov.isSome),H2,I3,rfl,q2⟩
theorem DY(hu:X.A.units+1<cLine)(ho:PE X o td)(hi:PE X i ty)(hv:PE X value tv)(hs:swapsWith value (some (.Subscript o i pos')) pos.line X.env=pure false):
  PS X (.Assign [.Subscript o i pos'] value pos) (V6 td ty tv):=by
 intro pins s σ H D I h
 refine wpAny_Assign_Subscript (ig (hv pins s σ H _ I h) fun r s1 ⟨v,H1,I1,rv,q1⟩=>ig (ho pins s1 σ H1 _ I1 q1) fun u s2 ⟨x,H2,I2,rx,q2⟩=>ig (hi pins s2 σ H2 _ I2 q2) fun iv s3 ⟨y,H3,I3,ry,a,H4,ex,g,q3⟩=>?_) hs
 subst ex
 obtain rfl:u=Value.ref a:=rx
 exact Oc hu I3 g ry rv fun s4 I4=>⟨σ,H4,I4,q3⟩
end
theorem Py{P:Program}{w:World}{H:Hp}(h:Heap)(hb:sysModules<h.objs.size):iW P w H (h.push { cls:=.type "dict",data:=.dict #[] }) h.objs.size (.dK []):=
 ⟨Nat.zero_le _,bZ.mpr (Ne.symm (aT hb)),[],.nil,Heap.DictOf.new h⟩
def Ux:TE:=fun _ H Q=>∀p,H p=none->Q (.ref p) (upd H p (.dK []))
section
variable {X:Cx} {pos:Pos}
theorem AS:PE X (.Dict [] [] pos) Ux:=fun pins s σ H Q I h=>
 wpAny_Dict_empty ⟨.ref s.heap.objs.size,_,I.laid (a:=s.heap.objs.size) (o:=.dK []) (t':=s.toks) (fun _ _ q=>ai _ q) (aA _) (Py s.heap I.big),rfl,h _ (I.hok.fresh (aA _))⟩
end
def LF(kvs more:List (Key×V)):List (Key×V):=more.foldl (fun acc kv=>putK acc kv.1 kv.2) kvs
structure M2(X:Cx)(o:Expr)(m:Str)(apos:Pos)(e f:Expr)(cpos:Pos):Prop where
 base:attributeBase o m X.env (eval o X.env)=eval o X.env
 few:((backTo cpos (starEach [e,f] X.env)).all (fun x=> !x.1)&&(backToKw cpos (keywordEach [] X.env)).all (fun x=>x.1.isSome)
  &&decide (([e,f]:List Expr).length+([]:List Keyword).length+(if ([]:List Keyword).isEmpty then 0 else 1)<30))=true
 line:(apos.endLine==cpos.line)=true
 trees:backTo cpos (starEach [e,f] X.env)=[(false,eval e X.env),(false,eval f X.env)]
def ZQ(H:Hp)(a:Addr):Prop:=(∃kvs,Rd H a (.dK kvs))∨ ∃kvs,Rd H a (.dT kvs)
theorem Uy{X:Cx}{pins:List (Addr×Obj)}{σ:St}{H:Hp}{s:Shared}{a:Addr}(I:Inv X pins σ H s)(d:ZQ H a):
  s.TypeIs (.ref a) "dict"/\(∀b,Value.ref a= .ref b-> ∃ob,s.heap.get? b=some ob/\ob.dict=none)/\(a==sysModules)=false:=by
 rcases d with ⟨kvs,e⟩ | ⟨kvs,e⟩
 ·obtain⟨_,hd,vs,_,dd⟩:=Ep I.hok e
  refine⟨dd.typeIs,fun b q=>?_,hd⟩
  cases q
  obtain⟨ob,_,_,h1,h2,_⟩:=dd
  exact⟨ob,h1,h2.2.1⟩
 ·obtain⟨_,hd,xs,_,dd⟩:=Er I.hok e
  refine⟨dd.typeIs,fun b q=>?_,hd⟩
  cases q
  obtain⟨ob,_,_,h1,h2,_⟩:=dd
  exact⟨ob,h1,h2.2.1⟩
section
variable {X:Cx} {pins:List (Addr×Obj)} {σ:St} {H:Hp} {s:Shared} {a:Addr} {y d:V} {u r:Value} {o:Option V} {A:Around} {E:Value->Shared->Prop}
theorem Uz{Q:Value->Shared->Prop}(hu:A.units+1<cLine)(I:Inv X pins σ H s)(g:nE H a y o)(ry:RelV y u)(rd:RelV d r)(h:∀w' s',Inv X pins σ H s'->RelV (o.getD d) w'->Q w' s'):
  wpAny (model X.prog X.w) A (call (.builtin "dict.get") [.ref a,u,r]) Q E s:=by
 rcases g with ⟨kvs,k,e,ey,l⟩ | ⟨kvs,k,b,e,ey,eb,l⟩
 ·subst ey
  obtain⟨z,hd,vs,rel,dd⟩:=Ep I.hok e
  refine call_meetsIn PySem.F.slot_dict_get dd.typeIs PySem.F.entry_dict_get (PySem.F.args_dict_get_3 _ _ _) (meets_dict_get_default (eW X.prog X.w) a (AR ry) hd r) ⟨_,dd.mapOf,h _ _ (I.tok _) ?_⟩
  rw[l]
  exact(rel.val k).getD rd
 ·subst ey
  cases (show u=Value.ref b from ry)
  obtain⟨z,hd,xs,rel,dd⟩:=Er I.hok e
  refine call_meetsIn PySem.F.slot_dict_get dd.typeIs PySem.F.entry_dict_get (PySem.F.args_dict_get_3 _ _ _) (meetsH_dict_get_default (tupleKind (eW X.prog X.w)) a b hd r) ⟨tupleKind_room_in1 hu,k,xs,B5 I.hok eb,dd,h _ _ (I.tok _) ?_⟩
  rw[l]
  exact(rel.val k).getD rd
end
def UA(td ty tx:TE):TE:=fun σ H Q=>td σ H fun x H1=>∃a,x= .ref a/\ZQ H1 a/\ty σ H1 fun y H2=>tx σ H2 fun z H3=>∃o,nE H3 a y o/\Q (o.getD z) H3
section
variable {X:Cx} {o e f:Expr} {apos cpos:Pos} {td ty tx:TE}
theorem JP(hu:X.A.units+1<cLine)(ho:PE X o td)(he:PE X e ty)(hf:PE X f tx)(m:M2 X o "get" apos e f cpos):PE X (.Call (.Attribute o "get" apos) [e,f] [] cpos) (UA td ty tx):=by
 intro pins s σ H Q I h
 refine wpAny_Call_method m.base m.few m.line PySem.F.plainAttrs_dict PySem.F.slot_dict_get PySem.F.type_dict_get (ig (ho pins s σ H _ I h) fun u s1 ⟨x,H1,I1,rx,a,ex,d,q1⟩=>?_)
 subst ex
 obtain rfl:u=Value.ref a:=rx
 obtain⟨t1,t2,_⟩:=Uy I1 d
 refine⟨t1,t2,?_⟩
 rw[m.trees]
 refine Calls.callWith_builtin rfl (Calls.evalArgs_plain (Calls.spliced_cons (ig (he pins s1 σ H1 _ I1 q1) fun iv s2 ⟨y,H2,I2,ry,q2⟩=>
  Calls.spliced_cons (ig (hf pins s2 σ H2 _ I2 q2) fun fv s3 ⟨z,H3,I3,rz,ov,g,q3⟩=>Calls.spliced_nil ?_))))
 exact Uz hu I3 g ry rz fun w' s4 I4 rw'=>⟨_,H3,I4,rw',q3⟩
end
section
variable {X:Cx} {pins:List (Addr×Obj)} {σ:St} {H:Hp} {s:Shared} {a:Addr} {kvs:List (Key×V)} {A:Around} {E:Value->Shared->Prop}
end
section
variable {X:Cx} {pins:List (Addr×Obj)} {σ:St} {H:Hp} {s:Shared} {a:Addr} {y:V} {u:Value} {A:Around} {E:Value->Shared->Prop}
end
end L2
namespace L2
open PySem PySem.Spec PyProof.Rows
section
variable {prog:Program} {w:World} {A:Around} {E:Value->Shared->Prop}
end
section
variable {X:Cx}
end
end L2
namespace L2
open PySem PySem.Spec PyProof.Rows
section
variable {X:Cx} {pins:List (Addr×Obj)} {σ:St} {H:Hp} {s:Shared} {h':Heap}
theorem Inv.R8{t':Nat}{ch:List Addr}(I:Inv X pins σ H s)(k:∀b o,b∉ch->s.heap.get? b=some o->h'.get? b=some o)(hf:∀b∈ch,Dz X pins H b):Inv X pins σ H { s with heap:=h',toks:=t' }:=by
 have S6:∀b u,H b=some u->b∉ch:=fun b u e z=>by
  have q:=(hf b z).1
  rw[q]at e;cases e
 refine I.step (g':=s.gens) (d':=s.drawn) (ch:=ch) (fun b hb=>⟨(hf b hb).2.2.2.1,(hf b hb).2.1,(hf b hb).2.2.2.2.1,(hf b hb).2.2.2.2.2⟩) (fun b o _ _ hc e _=>k b o hc e) (fun b o _ _ hc e _=>⟨o.slots,k b o hc e⟩)
  (fun _ _ _ _ n=>n) (fun b o hc e=>⟨o,k b o hc e⟩) (fun _ _ e=>e) (fun _ _ _ e=>e) (fun b ps e=>⟨#[],by rw[e];simp⟩) (fun m hm=>?_) (fun b u e=>?_) I.bare
 ·obtain⟨o,es,ep,ho,r⟩:=hm
  exact⟨o,es,ep,k _ o (fun z=>(hf _ z).2.1 rfl) ho,r⟩
 ·refine(I.hok b u e).stay (fun c v hc q=>k c v ?_ q) (fun _ q=>q) fun _ _ q=>q
  rcases hc with z | z
  ·rw[z];exact S6 b u e
  ·exact S6 c _ z
theorem Inv.GW{t':Nat}{ch:List Addr}{T:Addr}{ob:HO}(I:Inv X pins σ H s)(k:∀b o,b∉ch->s.heap.get? b=some o->h'.get? b=some o)(hf:∀b∈ch,Dz X pins H b)(hT:s.heap.objs.size≤T)
  (new:iW X.prog X.w (upd H T ob) h' T ob):Inv X pins σ (upd H T ob) { s with heap:=h',toks:=t' }:=by
 have hn:H T=none:=I.hok.fresh hT
 have S6:∀b u,H b=some u->b∉ch:=fun b u e z=>by
  have q:=(hf b z).1
  rw[q]at e;cases e
 refine I.step (g':=s.gens) (d':=s.drawn) (ch:=ch) (fun b hb=>⟨(hf b hb).2.2.2.1,(hf b hb).2.1,(hf b hb).2.2.2.2.1,(hf b hb).2.2.2.2.2⟩) (fun b o _ _ hc e _=>k b o hc e) (fun b o _ _ hc e _=>⟨o.slots,k b o hc e⟩)
  (fun b o _ e n=>?_) (fun b o hc e=>⟨o,k b o hc e⟩) (fun b xs e=>?_) (fun b o u e=>?_) (fun b ps e=>⟨#[],?_⟩) (fun m hm=>?_) (fun b u e=>?_) I.bare
 ·rw[cV (aT (aM (aC e) hT))];exact n
 ·rw[cV (dj e hn)];exact e
 ·rw[cV (dj e hn)];exact e
 ·rw[cV (dj e hn),e];simp
 ·obtain⟨o,es,ep,ho,r⟩:=hm
  exact⟨o,es,ep,k _ o (fun z=>(hf _ z).2.1 rfl) ho,r⟩
 ·by_cases hb:b=T
  ·subst hb
   rw[cA]at e
   cases e
   exact new
  ·rw[cV hb]at e
   refine(I.hok b u e).stay (fun c v hc q=>k c v ?_ q) (fun c q=>by rw[cV (dj q hn)];exact q) fun c xs q=>by rw[cV (dj q hn)];exact q
   rcases hc with z | z
   ·rw[z];exact S6 b u e
   ·exact S6 c _ z
theorem Inv.lock{d:Addr}{u:HO}(I:Inv X pins σ H s)(h:H d=some u)(mu:S5 (some u)):∃od,Inv X pins σ (upd H d (.oR od u)) s:=by
 have x:=I.hok d u h
 have ex:∃od,s.heap.get? d=some od:=by
  cases u with
  |lst xs=>obtain⟨_,_,_,_,e⟩:=x;exact⟨_,e⟩
  |dK kvs=>obtain⟨_,_,_,_,o,_,_,e,_⟩:=x;exact⟨o,e⟩
  |dT kvs=>obtain⟨_,_,_,_,o,_,_,e,_⟩:=x;exact⟨o,e⟩
  |set S n=>obtain⟨o,_,_,_,e,_⟩:=x;exact⟨o,e⟩
  |ins C dx fs=>obtain⟨_,_,_,e,_⟩:=x;exact⟨_,e⟩
  |ext φ=>obtain⟨_,⟨_,e⟩,_⟩:=x;exact⟨_,e⟩
  |_=>exact False.elim mu
 obtain⟨od,e⟩:=ex
 have new:iW X.prog X.w (upd H d (.oR od u)) s.heap d (.oR od u):=by
  refine⟨e,x.stay (fun b v _ q=>q) (fun b q=>?_) fun b xs q=>?_⟩
  ·rw[cV (fun z=>by rw[z,h]at q;cases q;exact mu)];exact q
  ·rw[cV (fun z=>by rw[z,h]at q;cases q;exact mu)];exact q
 exact⟨od,I.write (x:=d) (e:=d) (t':=s.toks) (h':=s.heap) (by rw[h];exact mu) (.inl rfl) (fun b v _ q=>q) ⟨od,e⟩ new⟩
theorem Inv.M0{d:Addr}{u:HO}(I:Inv X pins σ H s)(h:H d=some u)(mu:S5 (some u)):∀o' u',X.Ua d≠some (.oR o' u'):=fun o' u' e=>by
 have q:=I.base.Eh d o' u' e
 rw[h]at q
 cases q
 exact mu
theorem Inv.unlock{d:Addr}{od:Obj}{u:HO}(I:Inv X pins σ H s)(h:H d=some (.oR od u))(hn:∀o' u',X.Ua d≠some (.oR o' u')):Inv X pins σ (upd H d u) s:=by
 have Vo:∀b o,H b=some o->(∀o' u',o≠ .oR o' u')->b≠d:=fun b o e hne z=>by
  rw[z,h]at e
  cases e
  exact hne _ _ rfl
 have neN:∀b,H b=none->b≠d:=fun b e z=>by rw[z,h]at e;cases e
 refine⟨I.ok,I.os,I.bare,⟨I.base.keep,I.base.slot,fun b o e n hx=>?_,I.base.there,fun b xs e=>?_,fun b o x e=>?_,fun b ps e=>?_⟩,I.loc,I.cell,?_,fun x c e=>?_,fun p hp=>?_,fun b o e=>?_,I.len⟩
 ·rw[cV (neN b (I.base.free b o e n hx))];exact I.base.free b o e n hx
 ·have q:=I.base.tups b xs e
  rw[cV (Vo b _ q (fun _ _ z=>nomatch z))];exact q
 ·have q:=I.base.Eh b o x e
  rw[cV (fun z=>by rw[z]at e;exact hn _ _ e)];exact q
 ·obtain⟨m,q⟩:=I.base.HW b ps e
  exact⟨m,by rw[cV (Vo b _ q (fun _ _ z=>nomatch z))];exact q⟩
 ·rw[cV (neN _ I.free)];exact I.free
 ·rw[cV (neN c (I.qk x c e))];exact I.qk x c e
 ·obtain⟨e,n,r⟩:=I.pin p hp
  exact⟨e,by rw[cV (neN _ n)];exact n,r⟩
 ·by_cases hb:b=d
  ·rw[hb,cA]at e
   cases e
   rw[hb]
   obtain⟨_,x⟩:=I.hok d _ h
   exact x.stay (fun c v _ q=>q) (fun c q=>by rw[cV (Vo c _ q (fun _ _ z=>nomatch z))];exact q) fun c xs q=>by rw[cV (Vo c _ q (fun _ _ z=>nomatch z))];exact q
  ·rw[cV hb]at e
   exact(I.hok b o e).stay (fun c v _ q=>q) (fun c q=>by rw[cV (Vo c _ q (fun _ _ z=>nomatch z))];exact q) fun c xs q=>by rw[cV (Vo c _ q (fun _ _ z=>nomatch z))];exact q
end
def V7(t:TS):TS:=fun D σ H=>∃d u,H d=some u/\S5 (some u)/\ ∀od,t ⟨fun σ' H'=>H' d=some (.oR od u)/\D.nx σ' (upd H' d u),fun v H'=>H' d=some (.oR od u)/\D.rt v (upd H' d u),fun σ' H'=>H' d=some (.oR od u)/\D.bk σ' (upd H' d u),fun σ' H'=>H' d=some (.oR od u)/\D.ct σ' (upd H' d u)⟩ σ (upd H d (.oR od u))
section
variable {X:Cx}
theorem M1{st:Stmt}{t:TS}(h:PS X st t):PS X st (V7 t):=by
 intro pins s σ H D I hw
 obtain⟨d,u,hd,mu,hw⟩:=hw
 obtain⟨od,I1⟩:=I.lock hd mu
 refine ig (h pins s σ _ _ I1 (hw od)) fun f s1 q=>?_
 cases f with
 |next=>obtain⟨σ',H',I2,e,q⟩:=q;exact⟨σ',_,I2.unlock e (I.M0 hd mu),q⟩
 |brk=>obtain⟨σ',H',I2,e,q⟩:=q;exact⟨σ',_,I2.unlock e (I.M0 hd mu),q⟩
 |cont=>obtain⟨σ',H',I2,e,q⟩:=q;exact⟨σ',_,I2.unlock e (I.M0 hd mu),q⟩
 |ret v=>obtain⟨x,σ',H',I2,r,e,q⟩:=q;exact⟨x,σ',_,I2.unlock e (I.M0 hd mu),r,q⟩
theorem Pz{tg:Expr}{pins:List (Addr×Obj)}{σ:St}{H:Hp}{s:Shared}{R:It->Hp->Prop}{J:It}{tn:Nat->Heap->Prop}{tk:Nat}(I:Inv X pins σ H s)(o:Obj)
  (T:Turn X.prog X.w X.K tg J [s.heap.objs.size] s.heap.objs.size tn)(st:tn 0 (s.heap.push o))(q:R J H):X3 X pins σ tg R (.ref s.heap.objs.size) { s with heap:=s.heap.push o,toks:=tk }:=by
 refine⟨s.heap.objs.size,[s.heap.objs.size],tn,J,H,rfl,I.kept fun b ob e=>ai _ e,T,st,fun b hb=>?_,q⟩
 have e:b=s.heap.objs.size:=by simpa using hb
 subst e
 exact I.N1 (aA _) (I.hok.fresh (aA _))
end
section
variable {X:Cx} {tg:Expr}
end
section
variable {X:Cx} {tg:Expr}
end
section
variable {prog:Program} {w:World} {A:Around} {E:Value->Shared->Prop} {s:Shared}
theorem GX{d:Addr}{o:Obj}{es:Array DictEntry}{ep:Nat}{Q:Value->Shared->Prop}(hd:(d==sysModules)=false)(ho:s.heap.get? d=some o)(hc:o.ExactDict)(hdat:o.data= .dict es ep)
  (hQ:Q (.ref s.heap.objs.size) { s with heap:=s.heap.push { cls:=.type "dict_keyiterator",data:=.fields #[.ref d,.int 0 0,.int es.size 0,.int ep 0] } }):
  wpAny (model prog w) A (pyIter (.ref d)) Q E s:=by
 have hT:s.TypeIs (.ref d) "dict":=⟨o,ho,hc.1⟩
 refine wpAny_pyIter_slot hT F.slot_dict_iter (bF F.slot_dict_iter hT F.entry_dict_iter ?_ (F.args_dict_iter_1 _))
 unfold Builtin.«dict.__iter__»
 refine aU ?_
 unfold Builtin.Dict.dictSlotNone
 refine aU (wpAny_notOrdered_dict hT ?_)
 show wpAny _ _ (pure (Value.ref d)) _ _ s
 refine aV ?_
 show wpAny _ _ (Builtin.Dict.showsAll d >>= _) _ _ s
 unfold Builtin.Dict.showsAll
 rw[bz (by rw[hd];exact aN)]
 refine aU (aV ?_)
 refine aU (wpAny_dictEntries ho hdat ?_)
 refine aU (wpAny_dictEpoch ho hdat ?_)
 refine aU (bJ (aV ⟨_,rfl,"dict_keyiterator",_,⟨_,aF _ rfl,rfl⟩,F.slot_dict_keyiterator_next.lookup,?_⟩))
 simpa [rawInt] using hQ
theorem Gk{it d:Addr}{i n ep:Nat}{od:Obj}{es:Array DictEntry}{en:DictEntry}{Q:Option Value->Shared->Prop}(hit:s.heap.IsKeyIter it d i n ep)(hod:s.heap.get? d=some od)(Oe:od.data= .dict es ep)
  (hsz:es.size=n)(hx:es[i]?=some en)(hQ:∀h',h'.IsKeyIter it d (i+1) n ep->Heap.SameBut it s.heap h'->Q (some en.key) { s with heap:=h' }):wpAny (model prog w) A (pyNext (.ref it)) Q E s:=by
 obtain⟨o,ho,hc,hd⟩:=id hit
 unfold pyNext
 refine aU (wpAny_attempt (wpAny_callSpecial?_slot (name:=Str.ofString "__next__") hit.typeIs F.slot_dict_keyiterator_next
  (bF F.slot_dict_keyiterator_next hit.typeIs F.entry_dict_keyiterator_next ?_ (F.args_dict_keyiterator_next_1 _))))
 refine aU (aV ?_)
 refine aU ?_
 refine aU ?_
 first | refine aU (wpAny_typeNameOfWhole_keyiter hit.typeIs (aV ?_)) | refine aU (wpAny_typeNameOf_keyiter hit.typeIs (aV ?_))
 refine aU (wpAny_fieldsOf ho hd ?_)
 have hown:Builtin.Dict_items.ownsTuple "dict_keyiterator"=false:=by decide
 simp only[hown,bq,if_false]
 show wpAny _ _ (if (Value.ref d==Value.none)=true then _ else _) _ _ s
 rw[bz (show ¬((Value.ref d==Value.none)=true)from aN)]
 refine aU (aV ?_)
 refine aU (wpAny_dictEntries hod Oe ?_)
 rw[bz (by rw[hsz];simp)]
 refine aU (aV ?_)
 refine aU (wpAny_dictEpoch hod Oe ?_)
 rw[bz (by simp)]
 refine aV ?_
 obtain⟨hlt',hen⟩:=Array.getElem?_eq_some_iff.mp hx
 simp only[show ¬((i:Int)<0)from by omega,if_false,bw,aY hlt']
 refine aU ?_
 first | refine aU (wpAny_typeNameOfWhole_keyiter hit.typeIs (aV ?_)) | refine aU (wpAny_typeNameOf_keyiter hit.typeIs (aV ?_))
 refine aU (wpAny_isOneOf_keyiter hit.typeIs ?_)
 show wpAny _ _ (setField (.ref it) 1 (rawInt ((i:Int)+1)) >>= _) _ _ s
 refine aU (wpAny_setField ho hd (by simp) ?_)
 have JQ:(s.heap.update it (Obj.mapFields (·.setIfInBounds 1 (rawInt ((i:Int)+1))))).IsKeyIter it d (i+1) n ep:=
  ⟨_,Heap.get?_update_self _ ho (Obj.isFreed_of_fields (Obj.data_mapFields hd _)),(Obj.cls_mapFields ..).trans hc,by rw[Obj.data_mapFields hd];simp[rawInt]⟩
 refine aU (bG ?_)
 refine aU (wpAny_isOneOf_keyiter (s:={ s with heap:=s.heap.update it (Obj.mapFields (·.setIfInBounds 1 (rawInt ((i:Int)+1)))) }) JQ.typeIs ?_)
 show wpAny _ _ (pure es[i].key) _ _ _
 rw[hen]
 exact aV (aV ⟨_,rfl,aV (hQ _ JQ (Heap.SameBut.update ..))⟩)
theorem AU{it d:Addr}{i n ep:Nat}{od:Obj}{es:Array DictEntry}{Q:Option Value->Shared->Prop}(hh:A.handled=none)(hit:s.heap.IsKeyIter it d i n ep)(hod:s.heap.get? d=some od)(Oe:od.data= .dict es ep)
  (hsz:es.size=n)(hge:n≤i)(hQ:∀h',Heap.ExtBut it s.heap h'->Q none { s with heap:=h' }):wpAny (model prog w) A (pyNext (.ref it)) Q E s:=by
 obtain⟨o,ho,hc,hd⟩:=id hit
 unfold pyNext
 refine aU (wpAny_attempt (wpAny_callSpecial?_slot (name:=Str.ofString "__next__") hit.typeIs F.slot_dict_keyiterator_next
  (bF F.slot_dict_keyiterator_next hit.typeIs F.entry_dict_keyiterator_next ?_ (F.args_dict_keyiterator_next_1 _))))
 refine aU (aV ?_)
 refine aU ?_
 refine aU ?_
 first | refine aU (wpAny_typeNameOfWhole_keyiter hit.typeIs (aV ?_)) | refine aU (wpAny_typeNameOf_keyiter hit.typeIs (aV ?_))
 refine aU (wpAny_fieldsOf ho hd ?_)
 have hown:Builtin.Dict_items.ownsTuple "dict_keyiterator"=false:=by decide
 simp only[hown,bq,if_false]
 show wpAny _ _ (if (Value.ref d==Value.none)=true then _ else _) _ _ s
 rw[bz (show ¬((Value.ref d==Value.none)=true)from aN)]
 refine aU (aV ?_)
 refine aU (wpAny_dictEntries hod Oe ?_)
 rw[bz (by rw[hsz];simp)]
 refine aU (aV ?_)
 refine aU (wpAny_dictEpoch hod Oe ?_)
 rw[bz (by simp)]
 refine aV ?_
 have Ys:es.size≤i:=by rw[hsz];exact hge
 simp only[show ¬((i:Int)<0)from by omega,if_false,bw,Array.getElem?_eq_none Ys]
 refine aU ?_
 first | refine aU (wpAny_typeNameOfWhole_keyiter hit.typeIs (aV ?_)) | refine aU (wpAny_typeNameOf_keyiter hit.typeIs (aV ?_))
 show wpAny _ _ (setField (.ref it) 0 .none >>= _) _ _ s
 refine aU (wpAny_setField ho hd (by simp) ?_)
 show wpAny _ _ (newExc (.type "StopIteration") [] >>= _) _ _ _
 refine aU ?_
 simp only[newExc,newTuple]
 refine aU (bJ ?_ (by size_fits))
 refine aU (m:=firstArgMember _ _) (wpAny_of_eq (a:=Value.none) (by first | rfl | (simp only[firstArgMember];rfl)) ?_)
 refine bJ ?_ (by size_fits)
 simp only[raiseNew]
 refine aU (wpAny_handled ?_)
 rw[show A.in1.handled=none from hh]
 refine aU (aV (wpAny_throw ?_))
 refine aU (wpAny_isInstance (T:="StopIteration") (b:=true) ⟨_,aF _ rfl,rfl⟩ isSubtype_stop ?_)
 exact aV (hQ _ (((Heap.SameBut.update ..).extBut.push _).push _))
end
theorem UB{κ:Type}{kvs:List (κ×V)}{vs:List (κ×Value)}(h:KV kvs vs):∀{i:Nat}{k:κ}{v:V},kvs[i]?=some (k,v)-> ∃u,vs[i]?=some (k,u)/\RelV v u:=by
 unfold KV at h
 induction h with
 |nil=>intro i k v e;simp at e
 |@cons a b l₁ l₂ r t ih=>
  intro i k v e
  cases i with
  |zero=>
   simp only[List.getElem?_cons_zero,Option.some.injEq]at e
   subst e
   refine⟨b.2,?_,r.2⟩
   simp only[List.getElem?_cons_zero]
   exact congrArg some (Prod.ext r.1.symm rfl)
  |succ j=>
   simp only[List.getElem?_cons_succ]at e ⊢
   exact ih e
theorem LG{α β:Type}{G:α->β->Prop}{l₁:List α}{l₂:List β}(h:Paired G l₁ l₂):∀{i:Nat}{a:α},l₁[i]?=some a-> ∃b,l₂[i]?=some b/\G a b:=by
 induction h with
 |nil=>intro i a e;simp at e
 |@cons a b l₁ l₂ r t ih=>
  intro i a' e
  cases i with
  |zero=>
   simp only[List.getElem?_cons_zero,Option.some.injEq]at e
   subst e
   exact⟨b,rfl,r⟩
  |succ j=>
   simp only[List.getElem?_cons_succ]at e ⊢
   exact ih e
theorem PB{k:Key}{u:Value}(h:AE k u=true):RelV (kV k) u:=by
 rcases gm h with ⟨i,t,rfl,rfl⟩ | ⟨x,t,rfl,rfl⟩
 ·exact⟨t,rfl⟩
 ·exact⟨t,rfl⟩
section
variable {X:Cx} {pins:List (Addr×Obj)} {σ:St} {H:Hp} {s:Shared} {d:Addr} {o:Obj}
theorem Inv.UC{kvs:List (Key×V)}(I:Inv X pins σ H s)(h:H d=some (.oR o (.dK kvs))):
  (d==sysModules)=false/\s.heap.get? d=some o/\o.ExactDict/\ ∃(es:Array DictEntry)(ep:Nat)(vs:List (Key×Value)),o.data= .dict es ep/\es.size=kvs.length/\KV kvs vs/\s.heap.DictAt (eW X.prog X.w) d vs ep:=by
 obtain⟨hd,z,hs,vs,kv,o',es,ep,ho,hx,hdt,r⟩:=I.hok d _ h
 rw[hd]at ho
 cases ho
 refine⟨hs,hd,hx,es,ep,vs,hdt,?_,kv,o,es,hd,hx,hdt,r⟩
 have l1:=r.2.1.length
 have l2:kvs.length=vs.length:=Paired.length kv
 rw[aO]at l1
 omega
theorem Inv.UD{kvs:List (List Key×V)}(I:Inv X pins σ H s)(h:H d=some (.oR o (.dT kvs))):
  (d==sysModules)=false/\s.heap.get? d=some o/\o.ExactDict/\ ∃(es:Array DictEntry)(ep:Nat),o.data= .dict es ep/\es.size=kvs.length/\
   ∀(i:Nat)(k:List Key)(v:V),kvs[i]?=some (k,v)-> ∃(en:DictEntry)(q:Addr),es[i]?=some en/\en.key= .ref q/\H q=some (.tup (k.map kV)):=by
 obtain⟨hd,z,hs,xs,pr,o',es,ep,ho,hx,hdt,he,_⟩:=I.hok d _ h
 rw[hd]at ho
 cases ho
 refine⟨hs,hd,hx,es,ep,hdt,?_,fun i k v e=>?_⟩
 ·have l1:es.size=xs.length:=size_of_entries he
  have l2:kvs.length=xs.length:=Paired.length pr
  omega
 ·obtain⟨b,hb,e1,e2,_⟩:=LG pr e
  have q:=entry_at he i
  rw[hb]at q
  exact⟨_,b.2.1,q,rfl,e2⟩
end
def V8(d:Addr)(o:Obj)(kvs:List (Key×V)):It:=
 ⟨fun i H=>H d=some (.oR o (.dK kvs))/\i<kvs.length,fun i H x H'=>H'=H/\ ∃k v,kvs[i]?=some (k,v)/\x=kV k,fun i H=>H d=some (.oR o (.dK kvs))/\kvs.length≤i⟩
def V9(d:Addr)(o:Obj)(kvs:List (List Key×V)):It:=
 ⟨fun i H=>H d=some (.oR o (.dT kvs))/\i<kvs.length,fun i H x H'=>H'=H/\ ∃(k:List Key)(v:V)(q:Addr),kvs[i]?=some (k,v)/\x= .ref q/\H q=some (.tup (k.map kV)),fun i H=>H d=some (.oR o (.dT kvs))/\kvs.length≤i⟩
theorem DZ{o:Obj}{es es':Array DictEntry}{ep MO:Nat}(h:o.data= .dict es ep)(h':o.data= .dict es' MO):es'=es/\MO=ep:=by
 rw[h]at h'
 cases h'
 exact⟨rfl,rfl⟩
section
variable {P:Program} {w:World} {K:PySem.W.Frag} {tg:Expr} {d:Addr} {o:Obj} {es:Array DictEntry} {ep:Nat}
theorem Of{kvs:List (Key×V)}(it:Addr)(hod:o.data= .dict es ep):Turn P w K tg (V8 d o kvs) [it] it (fun i h=>h.IsKeyIter it d i kvs.length ep) where
 mem:=by simp
 obj:=fun i h st b hb=>by
  have e:b=it:=by simpa using hb
  subst e
  obtain⟨oi,e,c,dd⟩:=st
  exact⟨oi,e,fun v z=>by rw[dd]at z;cases z⟩
 keep:=fun i h h' st k=>st.at fun oi e=>k it (by simp) oi e
 item:=by
  intro X hP hw hK hc i pins s σ H E I hf st hg
  subst hP hw hK
  obtain⟨hd,hi⟩:=hg
  obtain⟨f0,f1,f2,f3,f4,f5⟩:=hf it (by simp)
  obtain⟨hs,hgd,hx,es',MO,vs,hdt,hsz,kv,hm⟩:=I.UC hd
  obtain⟨rfl,rfl⟩:=DZ hod hdt
  obtain⟨⟨k,v⟩,hkv⟩:∃p,kvs[i]?=some p:=⟨kvs[i],ah hi⟩
  obtain⟨u,hu,ru⟩:=UB kv hkv
  have hl:kvs.length=vs.length:=Paired.length kv
  rw[hl]at st
  refine wpAny_pyNext_dict_item st hm hu fun key h' hkey st' sb=>?_
  have I1:Inv X pins σ H { s with heap:=h' }:=I.turned (t':=s.toks) (fun b ob hb e=>(sb.2 b hb).trans e) f0 f1 f3 f4 f5
  obtain⟨oi,e,c,dd⟩:=id st'
  refine⟨key,rfl,MQ (s:={ s with heap:=h' }) e c dd (by decide) ⟨kV k,H,I1,PB (show AE k key=true from hkey),⟨rfl,k,v,hkv,rfl⟩,?_,fun b hb=>(hf b hb).1⟩⟩
  show h'.IsKeyIter it d (i+1) kvs.length _
  rw[hl]
  exact st'
 done:=by
  intro X hP hw hK hc i pins s σ H E I hf st hg
  subst hP hw hK
  obtain⟨hd,hi⟩:=hg
  obtain⟨f0,f1,f2,f3,f4,f5⟩:=hf it (by simp)
  obtain⟨hs,hgd,hx,es',MO,vs,hdt,hsz,kv,hm⟩:=I.UC hd
  obtain⟨rfl,rfl⟩:=DZ hod hdt
  exact AU (I.ok.hd hc) st hgd hdt hsz hi fun h' eb=>⟨rfl,I.turned (t':=s.toks) (fun b ob hb e=>eb b ob hb e) f0 f1 f3 f4 f5⟩
 self:=fun A i s Q E st h=>wpAny_pyIter_keyiter st h
theorem LH{kvs:List (List Key×V)}(it:Addr)(hod:o.data= .dict es ep):Turn P w K tg (V9 d o kvs) [it] it (fun i h=>h.IsKeyIter it d i kvs.length ep) where
 mem:=by simp
 obj:=fun i h st b hb=>by
  have e:b=it:=by simpa using hb
  subst e
  obtain⟨oi,e,c,dd⟩:=st
  exact⟨oi,e,fun v z=>by rw[dd]at z;cases z⟩
 keep:=fun i h h' st k=>st.at fun oi e=>k it (by simp) oi e
 item:=by
  intro X hP hw hK hc i pins s σ H E I hf st hg
  subst hP hw hK
  obtain⟨hd,hi⟩:=hg
  obtain⟨f0,f1,f2,f3,f4,f5⟩:=hf it (by simp)
  obtain⟨hs,hgd,hx,es',MO,hdt,hsz,ent⟩:=I.UD hd
  obtain⟨rfl,rfl⟩:=DZ hod hdt
  obtain⟨⟨k,v⟩,hkv⟩:∃p,kvs[i]?=some p:=⟨kvs[i],ah hi⟩
  obtain⟨en,q,hen,hkey,hq⟩:=ent i k v hkv
  refine Gk st hgd hdt hsz hen fun h' st' sb=>?_
  have I1:Inv X pins σ H { s with heap:=h' }:=I.turned (t':=s.toks) (fun b ob hb e=>(sb.2 b hb).trans e) f0 f1 f3 f4 f5
  obtain⟨oi,e,c,dd⟩:=id st'
  exact⟨en.key,rfl,MQ (s:={ s with heap:=h' }) e c dd (by decide) ⟨.ref q,H,I1,hkey,⟨rfl,k,v,q,hkv,rfl,hq⟩,st',fun b hb=>(hf b hb).1⟩⟩
 done:=by
  intro X hP hw hK hc i pins s σ H E I hf st hg
  subst hP hw hK
  obtain⟨hd,hi⟩:=hg
  obtain⟨f0,f1,f2,f3,f4,f5⟩:=hf it (by simp)
  obtain⟨hs,hgd,hx,es',MO,hdt,hsz,ent⟩:=I.UD hd
  obtain⟨rfl,rfl⟩:=DZ hod hdt
  exact AU (I.ok.hd hc) st hgd hdt hsz hi fun h' eb=>⟨rfl,I.turned (t':=s.toks) (fun b ob hb e=>eb b ob hb e) f0 f1 f3 f4 f5⟩
 self:=fun A i s Q E st h=>by
  refine wpAny_pyIter_slot st.typeIs F.slot_dict_keyiterator_iter (bF F.slot_dict_keyiterator_iter st.typeIs F.entry_dict_keyiterator_iter ?_ (F.args_dict_keyiterator_iter_1 _))
  show wpAny _ _ (ret (.ref it)) _ _ s
  exact aV ⟨_,rfl,"dict_keyiterator",_,st.typeIs,F.slot_dict_keyiterator_next.lookup,h⟩
end
def Wa(td:TE):TI:=fun σ H R=>td σ H fun x H1=>∃d o,x= .ref d/\((∃kvs,H1 d=some (.oR o (.dK kvs))/\R (V8 d o kvs) H1)∨ ∃kvs,H1 d=some (.oR o (.dT kvs))/\R (V9 d o kvs) H1)
section
variable {X:Cx} {tg e:Expr} {td:TE} {apos cpos:Pos}
theorem R9(he:PE X e td):PI X tg e (Wa td):=by
 intro pins s σ H R I h
 refine ig (he pins s σ H _ I h) fun u s1 ⟨x,H1,I1,rx,d,o,ex,q⟩=>?_
 subst ex
 obtain rfl:u=Value.ref d:=rx
 rcases q with ⟨kvs,hd,q⟩ | ⟨kvs,hd,q⟩
 ·obtain⟨hs,hgd,hx,es,ep,vs,hdt,hsz,kv,hm⟩:=I1.UC hd
  refine GX hs hgd hx hdt (Pz (tk:=s1.toks) I1 _ (Of _ hdt) ⟨_,aF _ rfl,rfl,?_⟩ q)
  rw[hsz] <;> rfl
 ·obtain⟨hs,hgd,hx,es,ep,hdt,hsz,ent⟩:=I1.UD hd
  refine GX hs hgd hx hdt (Pz (tk:=s1.toks) I1 _ (LH _ hdt) ⟨_,aF _ rfl,rfl,?_⟩ q)
  rw[hsz] <;> rfl
end
def Wb(K:PySem.W.Frag)(a:Addr):It:=
 ⟨fun i H=>∃(xs:List V)(x:V),dG K H a xs/\xs[i]?=some x,fun i H v H'=>∃T x,v= .ref T/\H T=none/\H'=upd H T (.tup [.int (i:Nat),x])/\ ∀xs,dG K H a xs->xs[i]?=some x,fun i H=>∃xs:List V,dG K H a xs/\xs.length≤i⟩
theorem Og{P:Program}{w:World}{K:PySem.W.Frag}{elts:List Expr}{kk:Nat}{tpos:Pos}(a e it:Addr):
  Turn P w K (.Tuple elts kk tpos) (Wb K a) [e,it] e (fun i h=>(∃old,IsEnum h e it ((i:Nat):Int) old)/\h.IsListIter it a i/\e≠it) where
 mem:=by simp
 obj:=fun i h st b hb=>by
  obtain⟨⟨old,he⟩,⟨o,ho,hc,hd⟩,_⟩:=st
  have e':b=e∨b=it:=by simpa using hb
  rcases e' with z | z
  ·rw[z];exact⟨_,he,fun v q=>nomatch q⟩
  ·rw[z];exact⟨o,ho,fun v q=>by rw[hd]at q;cases q⟩
 keep:=fun i h h' st k=>let ⟨⟨old,he⟩,hi,hne⟩:=st;⟨⟨old,k e (by simp) _ he⟩,hi.at fun o q=>k it (by simp) o q,hne⟩
 item:=by
  intro X hP hw hK hc i pins s σ H E I hf st hg
  subst hP hw hK
  obtain⟨⟨old,he⟩,hit,hne⟩:=st
  obtain⟨xs,x,hq,hx⟩:=hg
  obtain⟨its,rv,p,hz⟩:=I.list hq
  obtain⟨u,hu,ru⟩:=rv.get hx
  have hel:e<s.heap.objs.size:=aC he
  have hil:it<s.heap.objs.size:=by obtain⟨_,q,_⟩:=hit;exact aC q
  refine wpAny_pyNext_enum_item he hit p.isList (x:=u) (by simpa using hu) hne fun h' ho JQ hT hsz hk=>?_
  refine⟨_,rfl,wpAny_letOwnedTupleGo_enum (s:={ s with heap:=h',toks:=s.toks+1 }) ho fun h'' he' sb=>?_⟩
  have hT2:h''.get? s.heap.objs.size=some { cls:=.type "tuple",data:=.seq #[.int i s.toks,u] }:=(sb.2 _ (Nat.ne_of_gt hel)).trans hT
  have new:iW X.prog X.w (upd H s.heap.objs.size (.tup [.int (i:Nat),x])) h'' s.heap.objs.size (.tup [.int (i:Nat),x]):=
   ⟨by show 2≤sizeLine;decide,[.int i s.toks,u],.cons ⟨_,rfl⟩ (.cons ru .nil),⟨_,hT2,rfl,_,rfl⟩⟩
  have I1:Inv X pins σ (upd H s.heap.objs.size (.tup [.int (i:Nat),x])) { s with heap:=h'',toks:=s.toks+1 }:=
   I.GW (ch:=[e,it]) (fun b ob hb q=>(sb.2 b (fun z=>hb (by simp[z]))).trans (hk b ob (fun z=>hb (by simp[z])) (fun z=>hb (by simp[z])) q)) hf (aA _) new
  refine⟨.ref s.heap.objs.size,_,I1,rfl,⟨_,x,rfl,I.hok.fresh (aA _),rfl,fun ys hy=>by rw[I.AG hy hq];exact hx⟩,⟨⟨u,?_⟩,JQ.at fun o q=>(sb.2 it (Ne.symm hne)).trans q,hne⟩,fun b hb=>?_⟩
  ·have e1:((i+1:Nat):Int)=(i:Int)+1:=by omega
   rw[e1];exact he'
  ·have hb':b<s.heap.objs.size:=by
    have e':b=e∨b=it:=by simpa using hb
    rcases e' with z | z
    ·rw[z];exact hel
    ·rw[z];exact hil
   rw[cV (aT hb')]
   exact(hf b hb).1
 done:=by
  intro X hP hw hK hc i pins s σ H E I hf st hg
  subst hP hw hK
  obtain⟨⟨old,he⟩,hit,hne⟩:=st
  obtain⟨xs,hq,hx⟩:=hg
  obtain⟨its,rv,p,hz⟩:=I.list hq
  obtain⟨f0,f1,f2,f3,f4,f5⟩:=hf it (by simp)
  have hl:=rv.length
  exact wpAny_pyNext_enum_end (I.ok.hd hc) he hit p.isList (by simp;omega) fun h' eb=>⟨rfl,I.turned (t':=s.toks) (fun b o hb q=>eb b o hb q) f0 f1 f3 f4 f5⟩
 self:=fun A i s Q E st h=>let ⟨⟨_,he⟩,_⟩:=st;wpAny_pyIter_enum he h
def Wc(K:PySem.W.Frag)(ta:TA):TI:=fun σ H R=>ta σ H fun vs H1=>∃a xs,vs=[.ref a]/\dG K H1 a xs/\R (Wb K a) H1
theorem AV{X:Cx}{e:Expr}{ta:TA}{p pos tpos:Pos}{elts:List Expr}{kk:Nat}(hg:Gl X "enumerate")(hm:X.mg "enumerate"=none)(ha:PA X [e] ta)(hs:starEach [e] X.env=[(false,eval e X.env)]:=by rfl):
  PI X (.Tuple elts kk tpos) (.Call (.Name "enumerate" p) [e] [] pos) (Wc X.K ta):=by
 intro pins s σ H R I h
 refine Call_ (qO I hg hm boot_enumerate (PyProof.Rows.callWith_type1 (ig (ha pos pins s σ H _ I h) fun us s1 ⟨vs,H1,I1,r1,q1⟩=>?_) hs rfl))
 obtain⟨a,xs,ex,hq,q⟩:=q1
 subst ex
 cases r1 with
 |cons r rr=>
  cases rr
  cases r
  obtain⟨its,rv,p',hz⟩:=I1.list hq
  refine call_enumerate_list p'.isList fun h' he hit hsz hk=>wpAny_pyIter_enum he ?_
  have I2:Inv X pins σ H1 { s1 with heap:=h' }:=I1.kept (t':=s1.toks) hk
  refine⟨s1.heap.objs.size+1,[s1.heap.objs.size+1,s1.heap.objs.size],_,_,H1,rfl,I2,Og a (s1.heap.objs.size+1) s1.heap.objs.size,⟨⟨.none,he⟩,hit,Nat.succ_ne_self _⟩,fun b hb=>?_,q⟩
  have e':b=s1.heap.objs.size+1∨b=s1.heap.objs.size:=by simpa using hb
  have hle:s1.heap.objs.size≤b:=by
   rcases e' with z | z
   ·rw[z];exact Nat.le_add_right _ _
   ·rw[z];exact aA _
  exact I1.N1 hle (I1.hok.fresh hle)
theorem GY:bootBuiltins "zip"=some (.type "zip"):=by decide+kernel
def Wd(K:PySem.W.Frag)(a b:Addr):It:=
 ⟨fun i H=>∃(xs ys:List V)(x y:V),dG K H a xs/\dG K H b ys/\xs[i]?=some x/\ys[i]?=some y,
  fun i H v H'=>∃T x y,v= .ref T/\H T=none/\H'=upd H T (.tup [x,y])/\(∀xs,dG K H a xs->xs[i]?=some x)/\ ∀ys,dG K H b ys->ys[i]?=some y,
  fun i H=>∃xs ys:List V,dG K H a xs/\dG K H b ys/\(xs.length≤i∨ys.length≤i)⟩
theorem PD{P:Program}{w:World}{K:PySem.W.Frag}{elts:List Expr}{kk:Nat}{tpos:Pos}{a b z TI TO i1 i2:Addr}(D:ZipApart z TI TO i1 i2 a b):
  Turn P w K (.Tuple elts kk tpos) (Wd K a b) [z,TI,TO,i1,i2] z (fun i h=>IsZip h z TI TO .none/\IsPair h TI (.ref i1) (.ref i2)/\(∃x y,IsPair h TO x y)/\h.IsListIter i1 a i/\h.IsListIter i2 b i) where
 mem:=by simp
 obj:=fun i h st c hc=>by
  obtain⟨hz,hTI,⟨x,y,hTO⟩,⟨o1,e1,_,d1⟩,⟨o2,e2,_,d2⟩⟩:=st
  have e':c=z∨c=TI∨c=TO∨c=i1∨c=i2:=by simpa using hc
  rcases e' with q | q | q | q | q
  ·rw[q];exact⟨_,hz,fun v q=>nomatch q⟩
  ·rw[q];exact⟨_,hTI,fun v q=>nomatch q⟩
  ·rw[q];exact⟨_,hTO,fun v q=>nomatch q⟩
  ·rw[q];exact⟨o1,e1,fun v q=>by rw[d1]at q;cases q⟩
  ·rw[q];exact⟨o2,e2,fun v q=>by rw[d2]at q;cases q⟩
 keep:=fun i h h' st k=>by
  obtain⟨hz,hTI,⟨x,y,hTO⟩,h1,h2⟩:=st
  exact⟨k z (by simp) _ hz,k TI (by simp) _ hTI,⟨x,y,k TO (by simp) _ hTO⟩,h1.at fun o q=>k i1 (by simp) o q,h2.at fun o q=>k i2 (by simp) o q⟩
 item:=by
  intro X hP hw hK hc i pins s σ H E I hf st hg
  subst hP hw hK
  obtain⟨hz,hTI,⟨x0,y0,hTO⟩,h1,h2⟩:=st
  obtain⟨xs,ys,x,y,Tg,Th,hx,hy⟩:=hg
  obtain⟨its,rv,p,_⟩:=I.list Tg
  obtain⟨its2,Vp,p2,_⟩:=I.list Th
  obtain⟨u,hu,ru⟩:=rv.get hx
  obtain⟨u2,UE,ru2⟩:=Vp.get hy
  have ZR:z<s.heap.objs.size:=aC hz
  refine wpAny_pyNext_zip_item D hz hTI hTO h1 h2 p.isList p2.isList (x:=u) (y:=u2) (by simpa using hu) (by simpa using UE) fun h' z' TO' Rx h2' hT hsz hk=>?_
  refine⟨_,rfl,wpAny_letOwnedTupleGo_zip (s:={ s with heap:=h' }) z' fun h'' Yt sb=>?_⟩
  have hT2:h''.get? s.heap.objs.size=some { cls:=.type "tuple",data:=.seq #[u,u2] }:=(sb.2 _ (Nat.ne_of_gt ZR)).trans hT
  have new:iW X.prog X.w (upd H s.heap.objs.size (.tup [x,y])) h'' s.heap.objs.size (.tup [x,y]):=
   ⟨by show 2≤sizeLine;decide,[u,u2],.cons ru (.cons ru2 .nil),⟨_,hT2,rfl,_,rfl⟩⟩
  have I1:Inv X pins σ (upd H s.heap.objs.size (.tup [x,y])) { s with heap:=h'' }:=
   I.GW (t':=s.toks) (ch:=[z,TI,TO,i1,i2]) (fun c o hb q=>(sb.2 c (fun q'=>hb (by simp[q']))).trans (hk c o (fun q'=>hb (by simp[q'])) (fun q'=>hb (by simp[q'])) (fun q'=>hb (by simp[q'])) (fun q'=>hb (by simp[q'])) q)) hf (aA _) new
  refine⟨.ref s.heap.objs.size,_,I1,rfl,⟨_,x,y,rfl,I.hok.fresh (aA _),rfl,fun l hl=>by rw[I.AG hl Tg];exact hx,fun l hl=>by rw[I.AG hl Th];exact hy⟩,⟨Yt,?_,⟨u,u2,?_⟩,?_,?_⟩,fun c Xl=>?_⟩
  ·exact(sb.2 _ D.TIz).trans (hk _ _ D.TIz D.TITO D.TIi1 D.TIi2 hTI)
  ·exact(sb.2 _ D.TOz).trans TO'
  ·exact Rx.at fun o q=>(sb.2 _ D.i1z).trans q
  ·exact h2'.at fun o q=>(sb.2 _ D.i2z).trans q
  ·have hlt:c<s.heap.objs.size:=by
    have e':c=z∨c=TI∨c=TO∨c=i1∨c=i2:=by simpa using Xl
    rcases e' with q | q | q | q | q
    ·rw[q];exact ZR
    ·rw[q];exact aC hTI
    ·rw[q];exact aC hTO
    ·rw[q];obtain⟨_,e1,_⟩:=h1;exact aC e1
    ·rw[q];obtain⟨_,e2,_⟩:=h2;exact aC e2
   rw[cV (aT hlt)]
   exact(hf c Xl).1
 done:=by
  intro X hP hw hK hc i pins s σ H E I hf st hg
  subst hP hw hK
  obtain⟨hz,hTI,⟨x0,y0,hTO⟩,h1,h2⟩:=st
  obtain⟨xs,ys,Tg,Th,hend⟩:=hg
  obtain⟨its,rv,p,_⟩:=I.list Tg
  obtain⟨its2,Vp,p2,_⟩:=I.list Th
  have l1:=rv.length
  have l2:=Vp.length
  have he:its.toArray[i]?=none∨its2.toArray[i]?=none:=by
   rcases hend with q | q
   ·exact .inl (by simp;omega)
   ·exact .inr (by simp;omega)
  exact wpAny_pyNext_zip_end (I.ok.hd hc) D hz hTI hTO h1 h2 p.isList p2.isList he fun h' hk=>⟨rfl,I.R8 (t':=s.toks) (ch:=[z,TI,TO,i1,i2]) (fun c o hb q=>
   hk c o (fun q'=>hb (by simp[q'])) (fun q'=>hb (by simp[q'])) (fun q'=>hb (by simp[q'])) (fun q'=>hb (by simp[q'])) q) hf⟩
 self:=fun A i s Q E st h=>wpAny_pyIter_zip st.1 h
def Yu(K:PySem.W.Frag)(ta:TA):TI:=fun σ H R=>ta σ H fun vs H1=>∃a b xs ys,vs=[.ref a,.ref b]/\dG K H1 a xs/\dG K H1 b ys/\R (Wd K a b) H1
theorem PF{X:Cx}{e e2:Expr}{ta:TA}{p pos tpos:Pos}{elts:List Expr}{kk:Nat}(hg:Gl X "zip")(hm:X.mg "zip"=none)(ha:PA X [e,e2] ta)
  (hs:starEach [e,e2] X.env=(false,eval e X.env)::starEach [e2] X.env:=by rfl)(hpl:(backTo pos (starEach [e2] X.env)).any (·.1)=false:=by rfl):
  PI X (.Tuple elts kk tpos) (.Call (.Name "zip" p) [e,e2] [] pos) (Yu X.K ta):=by
 intro pins s σ H R I h
 refine Call_ (qO I hg hm GY (PyProof.Rows.callWith_type1 (ig (ha pos pins s σ H _ I h) fun us s1 ⟨vs,H1,I1,r1,q1⟩=>?_) hs hpl))
 obtain⟨a,b,xs,ys,ex,Tg,Th,q⟩:=q1
 subst ex
 cases r1 with
 |cons r rr=>
  cases rr with
  |cons r' rr=>
   cases rr
   cases r
   cases r'
   obtain⟨its,rv,p1,_⟩:=I1.list Tg
   obtain⟨its2,Vp,p2,_⟩:=I1.list Th
   have la:a<s1.heap.objs.size:=p1.lt
   have lb:b<s1.heap.objs.size:=p2.lt
   refine call_zip_2 p1.isList p2.isList fun h' hz hTI hTO h1 h2 hsz hk=>wpAny_pyIter_zip hz ?_
   have I2:Inv X pins σ H1 { s1 with heap:=h' }:=I1.kept (t':=s1.toks) hk
   refine⟨s1.heap.objs.size+4,[s1.heap.objs.size+4,s1.heap.objs.size+2,s1.heap.objs.size+3,s1.heap.objs.size,s1.heap.objs.size+1],_,_,H1,rfl,I2,PD (PySem.W.ktu_apart s1.heap.objs.size a b la lb),⟨hz,hTI,⟨_,_,hTO⟩,h1,h2⟩,fun c Xl=>?_,q⟩
   have e':c=s1.heap.objs.size+4∨c=s1.heap.objs.size+2∨c=s1.heap.objs.size+3∨c=s1.heap.objs.size∨c=s1.heap.objs.size+1:=by simpa using Xl
   have hle:s1.heap.objs.size≤c:=by
    rcases e' with z | z | z | z | z
    ·rw[z];exact Nat.le_add_right _ _
    ·rw[z];exact Nat.le_add_right _ _
    ·rw[z];exact Nat.le_add_right _ _
    ·rw[z];exact aA _
    ·rw[z];exact Nat.le_add_right _ _
   exact I1.N1 hle (I1.hok.fresh hle)
end L2
section
namespace Yv
open PySem PyProof.Rows
end Yv
end
section
namespace TL
open PySem PySem.Builtin PySem.Builtin.Str PySem.StrLaws
end TL
end
namespace L2
open PySem PySem.Spec PyProof.Rows
section
variable {X:Cx} {pins:List (Addr×Obj)} {σ:St} {H:Hp} {s:Shared} {Q:VK}
end
section
variable {X:Cx}
end
section
variable {X:Cx} {o e:Expr} {to te:TE}
end
end L2
namespace L2
open PySem PySem.Spec PyProof.Rows
section
variable {X:Cx}
end
end L2
namespace Att
open PySem PySem.W PySem.Calls PyProof.Rows
section
variable {prog:Program} {w:World} {A:Around} {E:Value->Shared->Prop} {s:Shared} {K:Frag}
end
end Att
namespace L2
open PySem PySem.Spec PyProof.Rows
end L2
namespace L2
open PySem PySem.Spec PyProof.Rows
end L2
namespace L2
open PySem PySem.Spec PyProof.Rows
def inClass(s:Stmt)(j:Nat):Stmt:=match s with
 |.ClassDef _ _ _ body _ _ _ _ _ _ _=>body.getD j (.Pass ⟨0,0,0,0⟩)
 |_=>.Pass ⟨0,0,0,0⟩
def qo(s:Stmt):Arguments:=match s with
 |.FunctionDef _ a _ _ _ _ _ _ _ _=>a
 |_=>{ posonlyargs:=[],args:=[],vararg:=none,kwonlyargs:=[],kw_defaults:=[],kwarg:=none,defaults:=[] }
def lH(s:Stmt):List Stmt:=match s with
 |.FunctionDef _ _ b _ _ _ _ _ _ _=>b
 |_=>[]
def cJ(s:Stmt):Scope:=match s with
 |.FunctionDef _ _ _ _ _ _ sc _ _ _=>sc
 |_=>{ kind:=.function,names:=[],isGenerator:=false,isCoroutine:=false }
abbrev Js:O1:=fun _ _ _ _ _ _=>False
abbrev E0:XK:=fun _ _ _=>False
theorem GZ{X:Cx}:Passes Js X E0:=fun _ _ _ _ _ _ _ h=>h.elim
structure Ti(K:PySem.W.Frag)(x qual:Str)(st:Stmt)(f:Addr)(fd:FuncData):Prop where
 ex:∃(oc:Value)(od:Option Addr)(kV doc pm:Value)(an:Option Addr)(cdv ct:Value)(osl:Array (Option Value)),
  fd=PySem.W.fnOf x qual (qo st) (lH st) (cJ st) .none kV doc pm an cdv ct/\K.lookup f=some ⟨oc,od,.func fd,osl⟩/\PySem.W.codeIn K cdv qual=true
 kp:PySem.W.keepIn K (.ref f)=true
section
variable {P:Program} {w:World} {K:PySem.W.Frag} {mg:Str->Option Value} {base:Heap}
theorem Ti.ok{x qual:Str}{st:Stmt}{f:Addr}{fd:FuncData}{N ps:List Str}{k:Nat}{sp:Sp}(F:Ti K x qual st f fd)(S:cT N ps (cJ st))(len:∀vs H Q E,sp vs H Q E->vs.length=ps.length)
  (hbody:∀(cdv:Value)(A:Around)(outer:List Env)(s:Shared)(H:Hp)(vs:List V)(Q:VK)(E:XK),jW k (A.deeper (envOfC qual (cJ st) s.heap.objs.size f cdv))->sp vs H Q E->
   ∃t,Lq (JC Js P w K mg base N qual (cJ st) f cdv A outer s H E).Vl (lH st) t/\t { nx:=fun _ H'=>Q .f6 H',rt:=Q } (start N vs) H):yu P w K mg base Js (k+1) f fd ps sp:=by
 obtain⟨oc,od,kV,doc,pm,an,cdv,ct,osl,rfl,lk,hcd⟩:=F.ex
 refine VW lk hcd S len fun A outer s H vs Q E hr Ru=>?_
 obtain⟨t,h,q⟩:=hbody cdv A outer s H vs Q E hr Ru
 exact⟨t,h.Vl,q⟩
theorem Ti.binds{x qual:Str}{st:Stmt}{f:Addr}{fd:FuncData}{ps:List Str}(F:Ti K x qual st f fd)
  (h:∀(kV doc pm:Value)(an:Option Addr)(cdv ct:Value)(us:List Value),us.length=ps.length->bindArgs (PySem.W.fnOf x qual (qo st) (lH st) (cJ st) .none kV doc pm an cdv ct) ⟨us,[]⟩=pure (ps.zip us)):Binds K fd ps []:=by
 obtain⟨oc,od,kV,doc,pm,an,cdv,ct,osl,rfl,lk,hcd⟩:=F.ex
 exact .all (h kV doc pm an cdv ct)
theorem Ij{x qual:Str}{st:Stmt}{f:Addr}{oc:Value}{od an:Option Addr}{osl:Array (Option Value)}{kV doc pm cdv ct:Value}(l:K.lookup f=some ⟨oc,od,.func (PySem.W.fnOf x qual (qo st) (lH st) (cJ st) .none kV doc pm an cdv ct),osl⟩)
 (c:PySem.W.codeIn K cdv qual=true)(k:PySem.W.keepIn K (.ref f)=true):Ti K x qual st f (PySem.W.fnOf x qual (qo st) (lH st) (cJ st) .none kV doc pm an cdv ct):=⟨⟨oc,od,kV,doc,pm,an,cdv,ct,osl,rfl,l,c⟩,k⟩
end
theorem iX{A:Around}{k:Nat}(hr:jW k A):A.units+1<cLine:=bY (Nat.add_le_add_left (by decide:1≤64) _) hr.units
section
variable {X:Cx}
theorem pv(i:Nat){x:Str}{pos:Pos}(hN:X.N[i]?=some x:=by rfl)(hv:VE X.env.scope x:=by first | exact Or.inl rfl | exact Or.inr (Or.inl rfl) | exact Or.inr (Or.inr rfl))(hd:(x==("__debug__":Str))=false:=by decide)
 (hcd:(x==("__classdict__":Str))=false:=by decide):PE X (.Name x pos) (Uc i):=Ud hN hv hd hcd
end
theorem dR{A B:Prop}(h:B):if false=true then A else B:=by
 rw[bz aN]
 exact h
theorem dI{A B:Prop}(h:A):if true=true then A else B:=by
 rw[bA rfl]
 exact h
def cK(H H':Hp):Prop:=∀b o,H b=some o->H' b=some o
theorem cK.refl(H:Hp):cK H H:=fun _ _ h=>h
theorem cK.trans{H H1 H2:Hp}(a:cK H H1)(b:cK H1 H2):cK H H2:=fun c o h=>b c o (a c o h)
theorem cK.free{H H':Hp}(e:cK H H'){l:Addr}(h:H' l=Option.none):H l=Option.none:=by
 cases q:H l with
 |none=>rfl
 |some o=>
  rw[e l o q]at h
  cases h
theorem cK.seq{K:PySem.W.Frag}{H H':Hp}{a:Addr}{xs:List V}(e:cK H H')(h:dG K H a xs):dG K H' a xs:=by
 rcases h with (h | ⟨o,h⟩) | h
 ·exact .inl (.inl (e _ _ h))
 ·exact .inl (.inr ⟨o,e _ _ h⟩)
 ·exact .inr h
section
variable {κ:Type} [DecidableEq κ]
end
theorem at_of{xs:List V}{z:Int}{j:Nat}{v:V}(e:z=(j:Int))(h:xs[j]?=some v):RU xs z=some v:=by
 rw[e]
 exact kJ h
theorem cK.made{H H1:Hp}{x dx C:Addr}(nx:H x=Option.none)(nd:H dx=Option.none)(k:∀b o,(upd (upd H dx (.own x)) x (.ins C dx [])) b=some o->b≠x->H1 b=some o):cK H H1:=fun b o e=>
 k b o (by rw[cV (dj e nx),cV (dj e nd)];exact e) (dj e nx)
end L2
section
set_option Elab.async false
set_option linter.all false
set_option maxRecDepth 100000
set_option maxHeartbeats 2000000
namespace L2
open PySem PySem.Spec PyProof.Rows
open PySem.W (WData Codec OpenSpec Well WellAll ReadsW ReadsAllW)
mutual
inductive Dw(K:PySem.W.Frag)(H:Hp):V->WData->Prop
 |f6:Dw K H .f6 .none
 |bl (b:Bool):Dw K H (.bl b) (.bool b)
 |int (i:Int):Dw K H (.int i) (.int i)
 |str (x:Str):Dw K H (.str x) (.str x)
 |Ln (b:Array UInt8):Dw K H (.Ln b) (.bytes b.toList)
 |lst {a:Addr} {xs:List V} {ds:List WData}:dG K H a xs->r8 K H xs ds->Dw K H (.ref a) (.list ds)
 |tup {a:Addr} {xs:List V} {ds:List WData}:Jr K H a xs->r8 K H xs ds->Dw K H (.ref a) (.tuple ds)
inductive r8(K:PySem.W.Frag)(H:Hp):List V->List WData->Prop
 |nil:r8 K H [] []
 |cons {v:V} {vs:List V} {d:WData} {ds:List WData}:Dw K H v d->r8 K H vs ds->r8 K H (v::vs) (d::ds)
end
theorem M3{K:PySem.W.Frag}{H:Hp}:∀ns:List Int,r8 K H (ns.map V.int) (ns.map WData.int)
 |[]=>.nil
 |n::r=>.cons (.int n) (M3 r)
theorem M4{K:PySem.W.Frag}{H:Hp}:∀(ns:List Int)(xs:List V),r8 K H xs (ns.map WData.int)->xs=ns.map V.int
 |[],xs,h=>by
  cases h
  rfl
 |n::r,xs,h=>by
  cases h with
  |cons h1 h2=>
   cases h1
   rw[M4 r _ h2] <;> rfl
section
variable {P:Program} {w:World} {K:PySem.W.Frag} {H:Hp} {h:Heap} {R:PySem.W.WRecords} {cl:Str->Option Addr}
theorem UG{a:Addr}{xs:List V}(hok:vq P w H h)(KX:K.In h)(q:dG K H a xs):∃(its:List Value)(o:Obj)(n:Nat),Vals xs its/\h.get? a=some o/\o.cls= .type "list"/\o.data= .seq its.toArray n:=by
 rcases q with q | ⟨o,its,n,e,hc,_,hd,_,hv⟩
 ·obtain⟨_,its,n,hv,e⟩:=(show iW P w H h a (.lst xs)from q.ok hok)
  exact⟨its,_,n,hv,e,rfl,rfl⟩
 ·exact⟨its.toList,o,n,hv,KX _ _ e,hc,by simp[hd]⟩
theorem UH{a:Addr}{xs:List V}(hok:vq P w H h)(KX:K.In h)(q:Jr K H a xs):∃(its:List Value)(o:Obj)(n:Nat),Vals xs its/\h.get? a=some o/\o.cls= .type "tuple"/\o.data= .seq its.toArray n:=by
 rcases q with q | ⟨o,its,n,e,hc,hd,_,hv⟩
 ·obtain⟨_,its,hv,o,e,hc,n,hd⟩:=(show iW P w H h a (.tup xs)from q.ok hok)
  exact⟨its,o,n,hv,e,hc,hd⟩
 ·exact⟨its.toList,o,n,hv,KX _ _ e,hc,by simp[hd]⟩
mutual
theorem Dw.reads(hok:vq P w H h)(KX:K.In h):∀(d:WData)(v:V)(u:Value),Dw K H v d->RelV v u-> ∃as,ReadsW R cl h u d as
 |.none,_,_,x,r=>by
  cases x
  cases r
  exact⟨_,ReadsW.none⟩
 |.bool b,_,_,x,r=>by
  cases x
  cases r
  exact⟨_,ReadsW.bool b⟩
 |.int i,_,_,x,r=>by
  cases x
  obtain⟨t,rfl⟩:=r
  exact⟨_,ReadsW.int i t⟩
 |.str s,_,_,x,r=>by
  cases x
  obtain⟨t,rfl⟩:=r
  exact⟨_,ReadsW.str s t⟩
 |.bytes b,_,_,x,r=>by
  cases x
  obtain⟨t,rfl⟩:=r
  exact⟨_,ReadsW.bytes _ t⟩
 |.list ds,_,_,x,r=>by
  cases x with
  |lst hs ha=>
   cases r
   obtain⟨its,o,n,rv,ho,hc,hd⟩:=UG hok KX hs
   obtain⟨as,hr⟩:=Dw.readsAll hok KX ds _ its ha rv
   exact⟨_,ReadsW.list ho hc hd hr⟩
 |.tuple ds,_,_,x,r=>by
  cases x with
  |tup hs ha=>
   cases r
   obtain⟨its,o,n,rv,ho,hc,hd⟩:=UH hok KX hs
   obtain⟨as,hr⟩:=Dw.readsAll hok KX ds _ its ha rv
   exact⟨_,ReadsW.tuple ho hc hd hr⟩
 |.float _,_,_,x,_=>by cases x
 |.dict _,_,_,x,_=>by cases x
 |.bytearray _,_,_,x,_=>by cases x
 |.set _,_,_,x,_=>by cases x
 |.frozenset _,_,_,x,_=>by cases x
 |.obj _ _,_,_,x,_=>by cases x
theorem Dw.readsAll(hok:vq P w H h)(KX:K.In h):∀(ds:List WData)(vs:List V)(us:List Value),r8 K H vs ds->Vals vs us-> ∃as,ReadsAllW R cl h us ds as
 |[],_,_,x,r=>by
  cases x
  cases r
  exact⟨_,ReadsAllW.nil⟩
 |d::ds,_,_,x,r=>by
  cases x with
  |cons h1 h2=>
   cases r with
   |cons r1 r2=>
    obtain⟨as,q1⟩:=Dw.reads hok KX d _ _ h1 r1
    obtain⟨bs,q2⟩:=Dw.readsAll hok KX ds _ _ h2 r2
    exact⟨_,ReadsAllW.cons q1 q2⟩
end
end
mutual
def M5:WData->Bool
 |.none=>true
 |.bool _=>true
 |.int _=>true
 |.str _=>true
 |.bytes _=>true
 |.list xs=>DA xs
 |.tuple xs=>DA xs
 |_=>false
def DA:List WData->Bool
 |[]=>true
 |x::r=>M5 x&&DA r
end
theorem JR{α:Type}{f:α->WData}(h:∀a,M5 (f a)=true):∀l:List α,DA (l.map f)=true
 |[]=>rfl
 |x::r=>by
  show (M5 (f x)&&DA (r.map f))=true
  rw[h x,JR h r] <;> rfl
theorem vF:∀(c:Codec)(a:c.denote),M5 (c.enc a)=true
 |.unit,_=>rfl
 |.bool,_=>rfl
 |.int _ _,_=>rfl
 |.nat _ _,_=>rfl
 |.u8,_=>rfl
 |.bytes _ _,_=>rfl
 |.text _ _ _ _,_=>rfl
 |.list _ _ c,a=>JR (fun x=>vF c x) a
 |.pair c d,a=>by
  show (M5 (c.enc a.1)&&(M5 (d.enc a.2)&&true))=true
  rw[vF c a.1,vF d a.2] <;> rfl
 |.triple c d e,a=>by
  show (M5 (c.enc a.1)&&(M5 (d.enc a.2.1)&&(M5 (e.enc a.2.2)&&true)))=true
  rw[vF c a.1,vF d a.2.1,vF e a.2.2] <;> rfl
 |.option c,none=>rfl
 |.option c,some x=>vF c x
theorem G0:∀(cs:List Codec)(a:Codec.denoteAll cs),DA (Codec.encAll cs a)=true
 |[],_=>rfl
 |c::cs,a=>by
  show (M5 (c.enc a.1)&&DA (Codec.encAll cs a.2))=true
  rw[vF c a.1,G0 cs a.2] <;> rfl
theorem zP:∀{xs:List WData}{d:WData},d∈xs->d.weight≤WData.weightAll xs
 |[],d,h=>absurd h (by simp)
 |x::r,d,h=>by
  show d.weight≤x.weight+1+WData.weightAll r
  rcases aB.mp h with e | m
  ·rw[e]
   omega
  ·have z:=zP m
   omega
def toV:Value->V
 |.none=>.f6
 |.bool b=>.bl b
 |.int i _=>.int i
 |.str x _=>.str x
 |.bytes b _=>.Ln b
 |.ref a=>.ref a
 |_=>.f6
def Oh(A:List Addr):Value->Prop
 |.none=>True
 |.bool _=>True
 |.int _ _=>True
 |.str _ _=>True
 |.bytes _ _=>True
 |.ref a=>a∈A
 |_=>False
theorem Oh.mono{A B:List Addr}(h:∀a∈A,a∈B):∀{u:Value},Oh A u->Oh B u:=fun{u} x=>by
 cases u with
 |ref a=>exact h a x
 |none=>trivial
 |bool b=>trivial
 |int i t=>trivial
 |str s t=>trivial
 |bytes b t=>trivial
 |_=>exact False.elim x
theorem PJ{A:List Addr}{u:Value}(x:Oh A u):RelV (toV u) u:=by
 cases u with
 |ref a=>rfl
 |none=>rfl
 |bool b=>rfl
 |int i t=>exact⟨t,rfl⟩
 |str s t=>exact⟨t,rfl⟩
 |bytes b t=>exact⟨t,rfl⟩
 |_=>exact False.elim x
theorem r9{A:List Addr}:∀{vs:List Value},(∀u∈vs,Oh A u)->Vals (vs.map toV) vs
 |[],_=>.nil
 |u::r,h=>.cons (PJ (h u (aH ..))) (r9 fun x hx=>h x (au _ hx))
def uF(h:Heap)(A:List Addr)(a:Addr):Prop:=∃vs:List Value,vs.length≤sizeLine/\(∀u∈vs,Oh A u)/\
 (h.get? a=some { cls:=.type "list",data:=.seq vs.toArray }∨h.get? a=some { cls:=.type "tuple",data:=.seq vs.toArray })
theorem uF.mono{h:Heap}{A B:List Addr}{a:Addr}(k:∀a∈A,a∈B)(x:uF h A a):uF h B a:=by
 obtain⟨vs,h1,h2,h3⟩:=x
 exact⟨vs,h1,fun u hu=>(h2 u hu).mono k,h3⟩
theorem qp{P:Params}{h:Heap}:∀{vs:List Value}{ds:List WData},WellAll P h vs ds->vs.length=ds.length
 |_,_,.nil=>rfl
 |_,_,.cons _ b=>by
  show _+1=_+1
  rw[qp b]
theorem G1{P:Params}{h:Heap}{v:Value}{ds:List WData}(x:Well P h v (.list ds)):∃(a:Addr)(vs:List Value),v= .ref a/\h.get? a=some { cls:=.type "list",data:=.seq vs.toArray }/\WellAll P h vs ds:=by
 cases x with
 |list ho hall=>exact⟨_,_,rfl,ho,hall⟩
theorem Es{P:Params}{h:Heap}{v:Value}{ds:List WData}(x:Well P h v (.tuple ds)):∃(a:Addr)(vs:List Value),v= .ref a/\h.get? a=some { cls:=.type "tuple",data:=.seq vs.toArray }/\WellAll P h vs ds:=by
 cases x with
 |tuple ho hall=>exact⟨_,_,rfl,ho,hall⟩
theorem G2{P:Params}{h:Heap}{us:List Value}{d:WData}{ds:List WData}(x:WellAll P h us (d::ds)):∃(v:Value)(vs:List Value),us=v::vs/\Well P h v d/\WellAll P h vs ds:=by
 cases x with
 |cons a b=>exact⟨_,_,rfl,a,b⟩
theorem M6{n:Nat}(h:n≤1048576):n≤sizeLine:=aS h (by decide)
section
variable {P:Params} {h:Heap}
mutual
theorem PK:∀(d:WData)(v:Value),Well P h v d->M5 d=true->d.weight≤1048576-> ∃A:List Addr,Oh A v/\ ∀a∈A,uF h A a
 |.none,_,x,_,_=>by
  cases x
  exact⟨[],trivial,fun a m=>absurd m (by simp)⟩
 |.bool b,_,x,_,_=>by
  cases x
  exact⟨[],trivial,fun a m=>absurd m (by simp)⟩
 |.int i,_,x,_,_=>by
  cases x
  exact⟨[],trivial,fun a m=>absurd m (by simp)⟩
 |.str s,_,x,_,_=>by
  cases x
  exact⟨[],trivial,fun a m=>absurd m (by simp)⟩
 |.bytes b,_,x,_,_=>by
  cases x
  exact⟨[],trivial,fun a m=>absurd m (by simp)⟩
 |.list ds,_,x,p,z=>by
  obtain⟨a,vs,rfl,ho,hall⟩:=G1 x
  have z2:WData.weightAll ds≤1048576:=z
  obtain⟨A,h1,h2⟩:=AW ds _ hall p fun d hd=>aS (zP hd) z2
  have k:∀b∈A,b∈a::A:=fun b hb=>au _ hb
  refine⟨a::A,aH ..,fun b hb=>?_⟩
  rcases aB.mp hb with e | m
  ·rw[e]
   exact⟨vs,M6 (by rw[qp hall];exact aS (PySem.W.length_le_weightAllW ds) z2),fun u hu=>(h1 u hu).mono k,.inl ho⟩
  ·exact(h2 b m).mono k
 |.tuple ds,_,x,p,z=>by
  obtain⟨a,vs,rfl,ho,hall⟩:=Es x
  have z2:WData.weightAll ds≤1048576:=z
  obtain⟨A,h1,h2⟩:=AW ds _ hall p fun d hd=>aS (zP hd) z2
  have k:∀b∈A,b∈a::A:=fun b hb=>au _ hb
  refine⟨a::A,aH ..,fun b hb=>?_⟩
  rcases aB.mp hb with e | m
  ·rw[e]
   exact⟨vs,M6 (by rw[qp hall];exact aS (PySem.W.length_le_weightAllW ds) z2),fun u hu=>(h1 u hu).mono k,.inr ho⟩
  ·exact(h2 b m).mono k
 |.float _,_,_,p,_=>Bool.noConfusion (show false=true from p)
 |.dict _,_,_,p,_=>Bool.noConfusion (show false=true from p)
 |.bytearray _,_,_,p,_=>Bool.noConfusion (show false=true from p)
 |.set _,_,_,p,_=>Bool.noConfusion (show false=true from p)
 |.frozenset _,_,_,p,_=>Bool.noConfusion (show false=true from p)
 |.obj _ _,_,_,p,_=>Bool.noConfusion (show false=true from p)
theorem AW:∀(ds:List WData)(vs:List Value),WellAll P h vs ds->DA ds=true->(∀d∈ds,d.weight≤1048576)-> ∃A:List Addr,(∀u∈vs,Oh A u)/\ ∀a∈A,uF h A a
 |[],_,x,_,_=>by
  cases x
  exact⟨[],fun u m=>absurd m (by simp),fun a m=>absurd m (by simp)⟩
 |d::ds,_,x,p,z=>by
  obtain⟨v,vs,rfl,x1,x2⟩:=G2 x
  have q:M5 d=true/\DA ds=true:=Bool.and_eq_true_iff.mp p
  obtain⟨A,a1,a2⟩:=PK d v x1 q.1 (z d (aH ..))
  obtain⟨B,b1,b2⟩:=AW ds vs x2 q.2 fun e he=>z e (au _ he)
  have kA:∀b∈A,b∈A++B:=fun b hb=>bh.mpr (.inl hb)
  have kB:∀b∈B,b∈A++B:=fun b hb=>bh.mpr (.inr hb)
  refine⟨A++B,fun u hu=>?_,fun b hb=>?_⟩
  ·rcases aB.mp hu with e | m
   ·rw[e]
    exact a1.mono kA
   ·exact(b1 u m).mono kB
  ·rcases bh.mp hb with m | m
   ·exact(a2 b m).mono kA
   ·exact(b2 b m).mono kB
end
end
def Sa(o:Obj):Option HO:=match o.data with
 |.seq vs _=>if (o.cls==Value.type "list")=true then some (.oR o (.lst (vs.toList.map toV))) else some (.oR o (.tup (vs.toList.map toV)))
 |_=>none
def tP(K:PySem.W.Frag)(h:Heap)(A:List Addr):Hp:=fun b=>if b∈A then (if (K.lookup b).isNone=true then (h.get? b).bind Sa else none) else none
def G3(H:Hp):Prop:=∀b,H b=none∨ ∃o u,H b=some (.oR o u)
theorem JS(vs:List Value):Sa { cls:=.type "list",data:=.seq vs.toArray }=some (.oR { cls:=.type "list",data:=.seq vs.toArray } (.lst (vs.map toV))):=by
 show (if (Value.type "list"==Value.type "list")=true then some (HO.oR { cls:=.type "list",data:=.seq vs.toArray } (.lst (vs.toArray.toList.map toV))) else some (HO.oR { cls:=.type "list",data:=.seq vs.toArray } (.tup (vs.toArray.toList.map toV))))=_
 rw[bA (beq_self_eq_true _)]
theorem JT(vs:List Value):Sa { cls:=.type "tuple",data:=.seq vs.toArray }=some (.oR { cls:=.type "tuple",data:=.seq vs.toArray } (.tup (vs.map toV))):=by
 show (if (Value.type "tuple"==Value.type "list")=true then some (HO.oR { cls:=.type "tuple",data:=.seq vs.toArray } (.lst (vs.toArray.toList.map toV))) else some (HO.oR { cls:=.type "tuple",data:=.seq vs.toArray } (.tup (vs.toArray.toList.map toV))))=_
 rw[bz (by decide)]
section
variable {P:Program} {w:World} {K:PySem.W.Frag} {h:Heap} {A:List Addr}
theorem D0{b:Addr}{o:Obj}(hb:b∈A)(hk:K.lookup b=none)(e:h.get? b=some o):tP K h A b=Sa o:=by
 unfold tP
 rw[bA hb,hk,bA (show (none:Option Obj).isNone=true from rfl),e] <;> rfl
theorem Sb{b:Addr}{u:HO}(q:tP K h A b=some u):b∈A/\K.lookup b=none:=by
 unfold tP at q
 by_cases hb:b∈A
 ·rw[bA hb]at q
  cases hk:K.lookup b with
  |none=>exact⟨hb,rfl⟩
  |some o=>
   rw[hk,bz (by simp)]at q
   cases q
 ·rw[bz hb]at q
  cases q
theorem D3(ar:∀a∈A,uF h A a){b:Addr}{u:HO}(q:tP K h A b=some u):K.lookup b=none/\ ∃vs:List Value,vs.length≤sizeLine/\(∀u∈vs,Oh A u)/\
    ((h.get? b=some { cls:=.type "list",data:=.seq vs.toArray }/\u= .oR { cls:=.type "list",data:=.seq vs.toArray } (.lst (vs.map toV)))∨
     (h.get? b=some { cls:=.type "tuple",data:=.seq vs.toArray }/\u= .oR { cls:=.type "tuple",data:=.seq vs.toArray } (.tup (vs.map toV)))):=by
  obtain⟨hb,hk⟩:=Sb q
  obtain⟨vs,h1,h2,h3⟩:=ar b hb
  refine⟨hk,vs,h1,h2,?_⟩
  rcases h3 with e | e
  · rw[D0 hb hk e,JS]at q
    exact .inl ⟨e,(az q).symm⟩
  · rw[D0 hb hk e,JT]at q
    exact .inr ⟨e,(az q).symm⟩
theorem Oi(ar:∀a∈A,uF h A a):G3 (tP K h A):=fun b=>by
 cases q:tP K h A b with
 |none=>exact .inl rfl
 |some u=>
  obtain⟨_,vs,_,_,⟨_,e⟩ | ⟨_,e⟩⟩:=D3 ar q
  ·exact .inr ⟨_,_,by rw[e]⟩
  ·exact .inr ⟨_,_,by rw[e]⟩
theorem Sd(ar:∀a∈A,uF h A a):vq P w (tP K h A) h:=fun b u q=>by
 obtain⟨_,vs,h1,h2,⟨e,rfl⟩ | ⟨e,rfl⟩⟩:=D3 ar q
 ·exact⟨e,by rw[aa];exact h1,vs,_,r9 h2,e⟩
 ·exact⟨e,by rw[aa];exact h1,vs,r9 h2,_,e,rfl,_,rfl⟩
theorem D4{c c':Value}{vs us:List Value}(e:(some { cls:=c,data:=.seq vs.toArray }:Option Obj)=some { cls:=c',data:=.seq us.toArray }):c=c'/\vs=us:=by
 have e1:=az e
 have e2:c=c':=congrArg Obj.cls e1
 have e3:Data.seq vs.toArray=Data.seq us.toArray:=congrArg Obj.data e1
 injection e3 with e4
 refine⟨e2,?_⟩
 have e5:=congrArg Array.toList e4
 simpa using e5
theorem Yw(KX:K.In h)(ar:∀a∈A,uF h A a){a:Addr}{vs:List Value}(ha:a∈A)(e:h.get? a=some { cls:=.type "list",data:=.seq vs.toArray }):(∀u∈vs,Oh A u)/\dG K (tP K h A) a (vs.map toV):=by
 obtain⟨us,h1,h2,h3⟩:=ar a ha
 have hu:us=vs:=by
  rcases h3 with q | q
  ·rw[e]at q
   exact(D4 q).2.symm
  ·rw[e]at q
   exact absurd (Value.type.inj (D4 q).1) (by decide)
 subst hu
 refine⟨h2,?_⟩
 cases hk:K.lookup a with
 |none=>exact .inl (.inr ⟨_,by rw[D0 ha hk e,JS]⟩)
 |some o=>
  have e2:=KX a o hk
  rw[e]at e2
  obtain rfl:=az e2
  exact .inr ⟨_,us.toArray,_,hk,rfl,rfl,rfl,by rw[aR];exact h1,by simpa using r9 h2⟩
theorem Yx(KX:K.In h)(ar:∀a∈A,uF h A a){a:Addr}{vs:List Value}(ha:a∈A)(e:h.get? a=some { cls:=.type "tuple",data:=.seq vs.toArray }):(∀u∈vs,Oh A u)/\Jr K (tP K h A) a (vs.map toV):=by
 obtain⟨us,h1,h2,h3⟩:=ar a ha
 have hu:us=vs:=by
  rcases h3 with q | q
  ·rw[e]at q
   exact absurd (Value.type.inj (D4 q).1) (by decide)
  ·rw[e]at q
   exact(D4 q).2.symm
 subst hu
 refine⟨h2,?_⟩
 cases hk:K.lookup a with
 |none=>exact .inl (.inr ⟨_,by rw[D0 ha hk e,JT]⟩)
 |some o=>
  have e2:=KX a o hk
  rw[e]at e2
  obtain rfl:=az e2
  exact .inr ⟨_,us.toArray,_,hk,rfl,rfl,by rw[aR];exact h1,by simpa using r9 h2⟩
mutual
theorem UI{Pm:Params}(KX:K.In h)(ar:∀a∈A,uF h A a):∀(d:WData)(v:Value),Well Pm h v d->M5 d=true->Oh A v->Dw K (tP K h A) (toV v) d
 |.none,_,x,_,_=>by
  cases x
  exact .f6
 |.bool b,_,x,_,_=>by
  cases x
  exact .bl b
 |.int i,_,x,_,_=>by
  cases x
  exact .int i
 |.str s,_,x,_,_=>by
  cases x
  exact .str s
 |.bytes b,_,x,_,_=>by
  cases x
  have z:=Dw.Ln (K:=K) (H:=tP K h A) b.toArray
  exact z
 |.list ds,_,x,p,hu=>by
  obtain⟨a,vs,rfl,ho,hall⟩:=G1 x
  obtain⟨h2,hs⟩:=Yw KX ar hu ho
  exact .lst hs (Ik KX ar ds _ hall p h2)
 |.tuple ds,_,x,p,hu=>by
  obtain⟨a,vs,rfl,ho,hall⟩:=Es x
  obtain⟨h2,hs⟩:=Yx KX ar hu ho
  exact .tup hs (Ik KX ar ds _ hall p h2)
 |.float _,_,_,p,_=>Bool.noConfusion (show false=true from p)
 |.dict _,_,_,p,_=>Bool.noConfusion (show false=true from p)
 |.bytearray _,_,_,p,_=>Bool.noConfusion (show false=true from p)
 |.set _,_,_,p,_=>Bool.noConfusion (show false=true from p)
 |.frozenset _,_,_,p,_=>Bool.noConfusion (show false=true from p)
 |.obj _ _,_,_,p,_=>Bool.noConfusion (show false=true from p)
theorem Ik{Pm:Params}(KX:K.In h)(ar:∀a∈A,uF h A a):∀(ds:List WData)(vs:List Value),WellAll Pm h vs ds->DA ds=true->(∀u∈vs,Oh A u)->r8 K (tP K h A) (vs.map toV) ds
 |[],_,x,_,_=>by
  cases x
  exact .nil
 |d::ds,_,x,p,hu=>by
  obtain⟨v,vs,rfl,x1,x2⟩:=G2 x
  have q:M5 d=true/\DA ds=true:=Bool.and_eq_true_iff.mp p
  exact .cons (UI KX ar d v x1 q.1 (hu _ (aH ..))) (Ik KX ar ds vs x2 q.2 fun u m=>hu u (au _ m))
end
end
theorem Oj{P:Program}{w:World}{K:PySem.W.Frag}{mg mb:Str->Option Value}{CX:O1}{k:Nat}{fa:Addr}{fd:FuncData}{ps:List Str}{sp:Sp}{s₁:Shared}{vals:List Value}{ds:List WData}{R:PySem.W.WRecords}{cl:Str->Option Addr}{d0:WData}
  (KX:K.In s₁.heap)(hns:s₁.heap.Ns mainGlobals mg)(hb:s₁.heap.Ns builtinsNs mb)(hbb:∀x:Str,x≠"__name__"->mb x=bootBuiltins x)(hlim:s₁.heap.NoLimit)(hg:s₁.gens= #[])
  (hwl:WellAll w.params s₁.heap vals ds)(hpl:DA ds=true)(hwt:∀d∈ds,d.weight≤1048576)(hr:jW k callerA)
  (F:∀base:Heap,K.In base->base.Ns mainGlobals mg->yu P w K mg base CX k fa fd ps sp)(hbind:∀(s:Shared)(us:List Value),us.length=ps.length->BindsTo s fd ⟨us,[]⟩ (ps.zip us))(hlen:ds.length=ps.length)
  (Ru:∀(H:Hp)(xs:List V),G3 H->r8 K H xs ds->sp xs H (fun v H'=>Dw K H' v d0) fun _ _ _=>False)
  (We:∀H e s',CX [] H s₁ (fun _ _ _=>False) e s'->False):
  codeAny (model P w) callerA (.call (.ref fa) ⟨vals,[]⟩) (fun r s'=>∃u as,r= .ok (.ret u)/\ReadsW R cl s'.heap u d0 as/\OldK s₁.heap s'.heap/\s'.os=s₁.os/\AllBare s'.gens) s₁:=by
 obtain⟨A,ho,ar⟩:=AW ds vals hwl hpl hwt
 have hO:G3 (tP K s₁.heap A):=Oi ar
 have hok:vq P w (tP K s₁.heap A) s₁.heap:=Sd ar
 have hS:=Ik KX ar ds vals hwl hpl ho
 have hV:=r9 ho
 have hK:∀b u,tP K s₁.heap A b=some u->K.lookup b=none:=fun b u q=>(D3 ar q).1
 have Vm:∀{b:Addr}{o:Obj}{es:Array DictEntry}{ep:Nat},s₁.heap.get? b=some o->o.data= .dict es ep->tP K s₁.heap A b=none:=fun{b o es ep} e d=>by
  cases q:tP K s₁.heap A b with
  |none=>rfl
  |some u=>
   obtain⟨_,vs,_,_,⟨e2,_⟩ | ⟨e2,_⟩⟩:=D3 ar q
   ·rw[e2]at e
    cases e
    have d':Data.seq vs.toArray _=Data.dict es ep:=d
    cases d'
   ·rw[e2]at e
    cases e
    have d':Data.seq vs.toArray _=Data.dict es ep:=d
    cases d'
 generalize tP K s₁.heap A=H at hO hok hS hK Vm
 have M7:∀{b:Addr}{o:Obj},s₁.heap.get? b=some o->H b=none->(HX s₁.heap H).get? b=some o:=fun e n=>O5 e n
 have Xm:∀{b:Addr}{m:Str->Option Value},s₁.heap.Ns b m->(HX s₁.heap H).Ns b m:=fun{b m} ⟨o,es,ep,e,d,r⟩=>⟨o,es,ep,M7 e (Vm e d),d,r⟩
 have nK:∀b o,K.lookup b=some o->H b=none:=fun b o e=>by
  cases q:H b with
  |none=>rfl
  |some u=>
   rw[hK b u q]at e
   cases e
 have ZS:K.In (HX s₁.heap H):=fun b o e=>M7 (KX b o e) (nK b o e)
 have hM:Mod K mg (HX s₁.heap H):=⟨ZS,Xm hns,⟨mb,Xm hb,hbb⟩,let ⟨mc,h1,h2⟩:=hlim;⟨mc,Xm h1,h2⟩⟩
 have e0:Lz P w K mg (HX s₁.heap H) callerA [] s₁ H:=⟨rfl,hM,fun b o e=>RH e,Nat.le_of_eq (NY _ _),trivial,fun b hb=>absurd (show b∈([]:List Addr)from hb) (by simp),hok,.of_eq hg⟩
 have hl:vals.length=ps.length:=by rw[qp hwl];exact hlen
 refine codeAny_mono ((F _ ZS (Xm hns)).run callerA [] s₁ H ⟨vals,[]⟩ vals (vals.map toV) _ _ hr e0 (hbind s₁ vals hl) hV (Ru H _ hO hS)) fun r s' x=>?_
 cases r with
 |error e=>exact(We H e s' x).elim
 |ok fl=>
  cases fl with
  |next=>exact False.elim x
  |brk=>exact False.elim x
  |cont=>exact False.elim x
  |ret u=>
   obtain⟨v,H',os,bare,un,Wf,r',q⟩:=x
   have kept:∀b o,s₁.heap.get? b=some o->s'.heap.get? b=some o:=fun b o e=>by
    cases q2:H b with
    |none=>exact un.keep b o e q2 (by intro z;exact absurd (show b∈([]:List Addr)from z) (by simp)) (by simp)
    |some u2=>
     rcases hO b with z | ⟨ob,u3,z⟩
     ·rw[q2]at z
      cases z
     ·have z2:=un.Eh b ob _ z
      obtain⟨e1,_⟩:=hok b _ z
      obtain⟨e2,_⟩:=Wf b _ z2
      rw[e]at e1
      cases e1
      exact e2
   have KX':K.In s'.heap:=fun b o e=>kept b o (KX b o e)
   obtain⟨as,hrd⟩:=Dw.reads (R:=R) (cl:=cl) Wf KX' d0 v u q r'
   exact⟨u,as,rfl,hrd,OldK.of_keep kept,os,bare⟩
theorem Et{ds:List WData}(h:WData.layableAll ds=true):∀d∈ds,d.weight≤1048576:=fun d hd=>
 (PySem.W.layableW_iff.mp (List.all_eq_true.mp h d hd)).2.2
theorem Eu:∀(cs:List Codec)(a:Codec.denoteAll cs),(Codec.encAll cs a).length=cs.length
 |[],_=>rfl
 |c::cs,a=>by
  show (Codec.encAll cs a.2).length+1=cs.length+1
  rw[Eu cs a.2]
theorem Ol{r:OpenSpec}{k:Nat}{q:Program}{loose:List Str}{XP:(Str->Option Value)->Heap->Prop}{YP:World->Heap->Prop}{d:DefRec}{K:Params->PySem.W.Frag}{CX:World->O1}{ps:List Str}{sp:World->Sp}
  (PL:r.wellSaid=true)(hdf:d.params.defaults=[])(hlen:r.args.length=ps.length)(hr:jW k callerA)
  (hY:∀(w:World)(h:Heap),YP w h->(K w.params).In h)
  (F:∀(w:World)(mg:Str->Option Value)(fa:Addr)(h:Heap),YP w h->(K w.params).In h->h.Ns mainGlobals mg->mg d.name=some (.ref fa)->
   ∃fd:FuncData,(∀(s:Shared)(us:List Value),us.length=ps.length->BindsTo s fd ⟨us,[]⟩ (ps.zip us))/\
    ∀base:Heap,(K w.params).In base->base.Ns mainGlobals mg->yu r.prog w (K w.params) mg base (CX w) k fa fd ps (sp w))
  (Ru:∀(w:World)(H:Hp)(xs:List V)(a:Codec.denoteAll r.args),G3 H->Codec.withinAll r.args a=true->Codec.app r.args r.asked a=true->r8 (K w.params) H xs (Codec.encAll r.args a)->
   sp w xs H (fun v H'=>Dw (K w.params) H' v (r.ret.enc (Codec.app r.args r.f a))) fun _ _ _=>False)
  (We:∀(w:World)(H:Hp)(s:Shared)(e:Value)(s':Shared),CX w [] H s (fun _ _ _=>False) e s'->False):
  PySem.W.WalkOS q loose XP YP r d [] (fun f vs=>PySem.call f vs):=by
 intro w GI s₁ mg mb G Y fa o pm cd doc dV kV ho hd hcd hD hmg hg args vals as hpre hlay hrd hwl hlo
 obtain⟨a,e1,e2⟩:=PySem.W.os_pre_some hpre
 obtain⟨e3,hwi⟩:=Codec.encAll_of_decAll r.args args a e1
 subst e3
 have KX:=hY w _ Y
 obtain⟨fd,hb,hF⟩:=F w mg fa _ Y KX G.T.g hmg
 refine PySem.W.enter_call (codeAny_mono (Oj (R:=[]) (cl:=classAt GI.heap) (d0:=r.ret.enc (Codec.app r.args r.f a)) KX G.T.g G.T.b G.T.builtins G.T.nolimit hg hwl (G0 _ _) (Et hlay) hr hF hb (by rw[Eu];exact hlen)
  (fun H xs hO hS=>Ru w H xs a hO hwi e2 hS) fun H e s'=>We w H s₁ e s') fun r' s' hq=>?_)
 obtain⟨u,as',rfl,h1,h2,h3,h4⟩:=hq
 exact⟨.inl ⟨u,_,as',rfl,fun _=>rfl,h1,(OpenSpec.post_iff PL hwi _ _).mpr rfl,fun z=>Bool.noConfusion (show false=true from z)⟩,h2,h3,h4⟩
theorem LI{r:OpenSpec}{k:Nat}{q:Program}{loose:List Str}{XP:(Str->Option Value)->Heap->Prop}{YP:World->Heap->Prop}{d:DefRec}{K:Params->PySem.W.Frag}{CX:O1}{ps:List Str}{sp:PySem.W.Frag->Sp}
  (PL:r.wellSaid=true)(hdf:d.params.defaults=[])(hlen:r.args.length=ps.length)(hr:jW k callerA)
  (hY:∀(w:World)(h:Heap),YP w h->(K w.params).In h)
  (F:∀(w:World)(mg:Str->Option Value)(fa:Addr)(h:Heap),YP w h->(K w.params).In h->h.Ns mainGlobals mg->mg d.name=some (.ref fa)->
   ∃fd:FuncData,(∀(s:Shared)(us:List Value),us.length=ps.length->BindsTo s fd ⟨us,[]⟩ (ps.zip us))/\
    ∀base:Heap,(K w.params).In base->base.Ns mainGlobals mg->yu r.prog w (K w.params) mg base CX k fa fd ps (sp (K w.params)))
  (Ru:∀(K:PySem.W.Frag)(H:Hp)(xs:List V)(a:Codec.denoteAll r.args),G3 H->Codec.withinAll r.args a=true->Codec.app r.args r.asked a=true->r8 K H xs (Codec.encAll r.args a)->
   sp K xs H (fun v H'=>Dw K H' v (r.ret.enc (Codec.app r.args r.f a))) fun _ _ _=>False)
  (We:∀(H:Hp)(s:Shared)(e:Value)(s':Shared),CX [] H s (fun _ _ _=>False) e s'->False):
  PySem.W.WalkOS q loose XP YP r d [] (fun f vs=>PySem.call f vs):=
 Ol (K:=K) (CX:=fun _=>CX) (sp:=fun w=>sp (K w.params)) PL hdf hlen hr hY F (fun w H xs a h1 h2 h3 h4=>Ru (K w.params) H xs a h1 h2 h3 h4) fun _ H s e s'=>We H s e s'
end L2
end
namespace Rc
open Vblaaf
structure Ok(f:Frac):Prop where
 pos:0<f.den
 low:Nat.gcd f.num.natAbs f.den=1
theorem AX{n:Int}{d:Nat}(h:0<d):0<Nat.gcd n.natAbs d:=Nat.gcd_pos_of_pos_right _ h
theorem oW{n:Int}{d:Nat}(h:0<d):lowest n d=⟨n/(Nat.gcd n.natAbs d:Int),d/Nat.gcd n.natAbs d⟩:=by
 unfold lowest
 have:=AX (n:=n) h
 simp only[]
 rw[bz (by omega)]
theorem JU(n:Int)(d:Nat):((Nat.gcd n.natAbs d:Nat):Int)∣n:=by
 have h:Nat.gcd n.natAbs d∣n.natAbs:=Nat.gcd_dvd_left _ _
 exact Int.ofNat_dvd_left.mpr h
theorem zQ{n:Int}{d:Nat}(h:0<d):(lowest n d).num*(Nat.gcd n.natAbs d:Int)=n:=by
 rw[oW h]
 exact Int.ediv_mul_cancel (JU n d)
theorem zR{n:Int}{d:Nat}(h:0<d):(lowest n d).den*Nat.gcd n.natAbs d=d:=by
 rw[oW h]
 exact Nat.div_mul_cancel (Nat.gcd_dvd_right _ _)
theorem lX{n:Int}{d:Nat}(h:0<d):Ok (lowest n d):=by
 have g:=AX (n:=n) h
 have hn:=zQ (n:=n) h
 have hd:=zR (n:=n) h
 refine⟨?_,?_⟩
 ·rcases Nat.eq_zero_or_pos (lowest n d).den with e | e
  ·rw[e]at hd;omega
  ·exact e
 ·have e1:n.natAbs=(lowest n d).num.natAbs*Nat.gcd n.natAbs d:=by
   have:=congrArg Int.natAbs hn
   rw[Int.natAbs_mul,br]at this
   exact this.symm
  have e2:Nat.gcd ((lowest n d).num.natAbs*Nat.gcd n.natAbs d) ((lowest n d).den*Nat.gcd n.natAbs d)=Nat.gcd n.natAbs d:=by
   rw[<-e1,hd]
  rw[Nat.gcd_mul_right]at e2
  exact Nat.eq_of_mul_eq_mul_right g (by omega)
theorem cQ(n:Int):Ok (whole n):=⟨Nat.one_pos,Nat.gcd_one_right _⟩
structure Is(f:Frac)(a b:Int):Prop where
 pos:0<b
 eq:f.num*b=a*(f.den:Int)
theorem oA{n:Int}{d:Nat}(h:0<d):Is (lowest n d) n d:=by
 refine⟨by omega,?_⟩
 have hn:=zQ (n:=n) h
 have hd:=zR (n:=n) h
 have hd':((lowest n d).den:Int)*(Nat.gcd n.natAbs d:Int)=d:=by exact_mod_cast hd
 generalize (lowest n d).num=p at*
 generalize ((lowest n d).den:Int)=q at*
 generalize (Nat.gcd n.natAbs d:Int)=g at*
 subst hn
 rw[<-hd']
 grind
theorem Ok.is{f:Frac}(h:Ok f):Is f f.num f.den:=⟨by have:=h.pos;omega,rfl⟩
theorem j9(n:Int):Is (whole n) n 1:=⟨by decide,rfl⟩
theorem Ew{a b c d:Nat}(h:a*d=c*b)(hg:Nat.gcd a b=1):b∣d:=by
 have:b∣a*d:=⟨c,by rw[h,Nat.mul_comm]⟩
 exact(Nat.Coprime.dvd_of_dvd_mul_left (Nat.Coprime.symm hg) this)
theorem JV{x y:Frac}(hx:Ok x)(hy:Ok y)(e:x.num*(y.den:Int)=y.num*(x.den:Int)):x=y:=by
 have e':x.num.natAbs*y.den=y.num.natAbs*x.den:=by
  have:=congrArg Int.natAbs e
  simpa [Int.natAbs_mul] using this
 have d1:x.den∣y.den:=Ew e' hx.low
 have d2:y.den∣x.den:=Ew e'.symm hy.low
 have ed:x.den=y.den:=Nat.dvd_antisymm d1 d2
 have px:=hx.pos
 have en:x.num=y.num:=by
  rw[ed]at e
  exact Int.eq_of_mul_eq_mul_right (by have:=hy.pos;omega) e
 cases x;cases y;simp_all
theorem jP{x y:Frac}{a b c d:Int}(hx:Ok x)(hy:Ok y)(ix:Is x a b)(iy:Is y c d)(e:a*d=c*b):x=y:=by
 refine JV hx hy ?_
 have pb:=ix.pos
 have pd:=iy.pos
 have ex:=ix.eq
 have ey:=iy.eq
 have h:(x.num*(y.den:Int))*(b*d)=(y.num*(x.den:Int))*(b*d):=by
  generalize x.num=xn at*;generalize y.num=yn at*;generalize (x.den:Int)=xd at*;generalize (y.den:Int)=yd at*
  grind
 exact Int.eq_of_mul_eq_mul_right (by have:=Int.mul_pos pb pd;omega) h
theorem D5{x y:Frac}(hx:Ok x)(hy:Ok y):Ok (plus x y):=lX (Nat.mul_pos hx.pos hy.pos)
theorem dS{x y:Frac}(hx:Ok x)(hy:Ok y):Ok (minus x y):=lX (Nat.mul_pos hx.pos hy.pos)
theorem gM{x y:Frac}(hx:Ok x)(hy:Ok y):Ok (times x y):=lX (Nat.mul_pos hx.pos hy.pos)
theorem xX{x y:Frac}(hx:Ok x)(hy:0<y.num):Ok (over x y):=lX (Nat.mul_pos hx.pos (by omega))
theorem Is.mk'{f:Frac}{a b c d:Int}(h:Is f a b)(hd:0<d)(e:a*d=c*b):Is f c d:=by
 refine⟨hd,?_⟩
 have pb:=h.pos
 have eb:=h.eq
 refine Int.eq_of_mul_eq_mul_right (a:=b) (by omega) ?_
 generalize f.num=n at*;generalize (f.den:Int)=q at*
 grind
theorem M8{x y:Frac}{a b c d:Int}(hx:Ok x)(hy:Ok y)(ix:Is x a b)(iy:Is y c d):Is (plus x y) (a*d+c*b) (b*d):=by
 have h:=oA (n:=x.num*(y.den:Int)+y.num*(x.den:Int)) (Nat.mul_pos hx.pos hy.pos)
 refine h.mk' (Int.mul_pos ix.pos iy.pos) ?_
 have ex:=ix.eq;have ey:=iy.eq
 rw[Int.natCast_mul]
 generalize x.num=xn at*;generalize y.num=yn at*;generalize (x.den:Int)=xd at*;generalize (y.den:Int)=yd at*
 grind
theorem m6{x y:Frac}{a b c d:Int}(hx:Ok x)(hy:Ok y)(ix:Is x a b)(iy:Is y c d):Is (minus x y) (a*d-c*b) (b*d):=by
 have h:=oA (n:=x.num*(y.den:Int)-y.num*(x.den:Int)) (Nat.mul_pos hx.pos hy.pos)
 refine h.mk' (Int.mul_pos ix.pos iy.pos) ?_
 have ex:=ix.eq;have ey:=iy.eq
 rw[Int.natCast_mul]
 generalize x.num=xn at*;generalize y.num=yn at*;generalize (x.den:Int)=xd at*;generalize (y.den:Int)=yd at*
 grind
theorem JW{x y:Frac}{a b c d:Int}(hx:Ok x)(hy:Ok y)(ix:Is x a b)(iy:Is y c d):Is (times x y) (a*c) (b*d):=by
 have h:=oA (n:=x.num*y.num) (Nat.mul_pos hx.pos hy.pos)
 refine h.mk' (Int.mul_pos ix.pos iy.pos) ?_
 have ex:=ix.eq;have ey:=iy.eq
 rw[Int.natCast_mul]
 generalize x.num=xn at*;generalize y.num=yn at*;generalize (x.den:Int)=xd at*;generalize (y.den:Int)=yd at*
 grind
theorem Is.M9{y:Frac}{c d:Int}(hy:Ok y)(iy:Is y c d):0<y.num↔0<c:=by
 have e:=iy.eq
 have p:=iy.pos
 have q:(0:Int)<y.den:=by have:=hy.pos;omega
 constructor
 ·intro h
  have h1:0<y.num*d:=Int.mul_pos h p
  rw[e]at h1
  exact Int.pos_of_mul_pos_left h1 q |> fun z=>z
 ·intro h
  have h1:0<c*(y.den:Int):=Int.mul_pos h q
  rw[<-e]at h1
  exact Int.pos_of_mul_pos_left h1 p
theorem Na{x y:Frac}{a b c d:Int}(hx:Ok x)(hy:Ok y)(ix:Is x a b)(iy:Is y c d)(hc:0<c):Is (over x y) (a*d) (b*c):=by
 have hn:0<y.num:=(iy.M9 hy).mpr hc
 have h:=oA (n:=x.num*(y.den:Int)) (Nat.mul_pos hx.pos (show 0<y.num.natAbs by omega))
 refine h.mk' (Int.mul_pos ix.pos hc) ?_
 have ex:=ix.eq;have ey:=iy.eq
 have en:((y.num.natAbs:Nat):Int)=y.num:=by omega
 rw[Int.natCast_mul,en]
 generalize x.num=xn at*;generalize y.num=yn at*;generalize (x.den:Int)=xd at*;generalize (y.den:Int)=yd at*
 grind
theorem Nb{x y:Frac}{a b c d:Int}(hx:Ok x)(hy:Ok y)(ix:Is x a b)(iy:Is y c d):less x y=decide (a*d<c*b):=by
 unfold less
 refine decide_eq_decide.mpr ?_
 have ex:=ix.eq;have ey:=iy.eq
 have pb:=ix.pos;have pd:=iy.pos
 have px:(0:Int)<x.den:=by have:=hx.pos;omega
 have py:(0:Int)<y.den:=by have:=hy.pos;omega
 have k1:(0:Int)<b*d:=Int.mul_pos pb pd
 have k2:(0:Int)<(x.den:Int)*(y.den:Int):=Int.mul_pos px py
 have e1:(x.num*(y.den:Int))*(b*d)=(a*d)*((x.den:Int)*(y.den:Int)):=by
  generalize x.num=xn at*;generalize y.num=yn at*;generalize (x.den:Int)=xd at*;generalize (y.den:Int)=yd at*
  grind
 have e2:(y.num*(x.den:Int))*(b*d)=(c*b)*((x.den:Int)*(y.den:Int)):=by
  generalize x.num=xn at*;generalize y.num=yn at*;generalize (x.den:Int)=xd at*;generalize (y.den:Int)=yd at*
  grind
 constructor
 ·intro h
  have h1:=Int.mul_lt_mul_of_pos_right h k1
  rw[e1,e2]at h1
  exact Int.lt_of_mul_lt_mul_right h1 (Int.le_of_lt k2)
 ·intro h
  have h1:=Int.mul_lt_mul_of_pos_right h k2
  rw[<-e1,<-e2]at h1
  exact Int.lt_of_mul_lt_mul_right h1 (Int.le_of_lt k1)
theorem fz(x y:Frac):atMost x y= !less y x:=by
 unfold atMost less
 by_cases h:x.num*(y.den:Int)≤y.num*(x.den:Int)
 ·rw[aX h,aW (by omega)];rfl
 ·rw[aW h,aX (by omega)];rfl
def iK(l:List Int):Int:=l.foldr (· + ·) 0
theorem gW(a:Int)(l:List Int):iK (a::l)=a+iK l:=rfl
theorem PM:iK []=0:=rfl
theorem jt:∀(l m:List Int),iK (l++m)=iK l+iK m
 |[],m=>by simp[iK]
 |a::l,m=>by rw[List.cons_append,gW,gW,jt l m];omega
theorem lu:∀{l:List Int},(∀x∈l,0≤x)->0≤iK l
 |[],_=>by simp[iK]
 |a::l,h=>by
  have:=lu (l:=l) fun x hx=>h x (au _ hx)
  have:=h a aH
  rw[gW];omega
def heapOf(p:Point):Heap:=⟨p.dose,p.weight,p.weight*p.response⟩
def oX(l:List Heap):Prop:=l.Pairwise (fun a b=>a.dose<b.dose)
theorem m7{p:Point}:∀{l:List Heap}{d:Int},d∈(putHeap p l).map (·.dose)↔d=p.dose∨d∈l.map (·.dose)
 |[],d=>by simp[putHeap]
 |h::l,d=>by
  unfold putHeap
  split
  ·rename_i e
   simp[e]
  ·split
   ·simp
   ·have ih:=m7 (p:=p) (l:=l) (d:=d)
    simp only[aL,aB,ih]
    grind
theorem JX{p:Point}{P:Int->Prop}{l:List Heap}(h1:P p.dose)(h2:∀h∈l,P h.dose):∀h∈putHeap p l,P h.dose:=by
 intro h hm
 have:h.dose∈(putHeap p l).map (·.dose):=List.mem_map_of_mem hm
 rcases m7.mp this with e | e
 ·rw[e];exact h1
 ·obtain⟨g,hg,e⟩:=aQ.mp e
  rw[<-e];exact h2 g hg
theorem AY{p:Point}:∀{l:List Heap},oX l->oX (putHeap p l)
 |[],_=>by simp[putHeap,oX]
 |h::l,hr=>by
  have hr':=List.pairwise_cons.mp hr
  unfold putHeap
  split
  ·exact List.pairwise_cons.mpr ⟨fun b hb=>hr'.1 b hb,hr'.2⟩
  ·split
   ·rename_i hlt
    refine List.pairwise_cons.mpr ⟨fun b hb=>?_,hr⟩
    rcases aB.mp hb with e | e
    ·subst e;exact hlt
    ·have:=hr'.1 b e
     show p.dose<b.dose;omega
   ·rename_i hne hlt
    refine List.pairwise_cons.mpr ⟨?_,AY hr'.2⟩
    exact JX (P:=fun d=>h.dose<d) (by omega) (fun b hb=>hr'.1 b hb)
theorem sf:∀(ps:List Point)(l:List Heap),oX l->oX (ps.foldl (fun l p=>putHeap p l) l)
 |[],l,h=>h
 |p::ps,l,h=>sf ps (putHeap p l) (AY h)
theorem kP(ps:List Point):oX (heaps ps):=sf ps [] List.Pairwise.nil
theorem Ex(ps:List Point)(p:Point):heaps (ps++[p])=putHeap p (heaps ps):=by
 unfold heaps;rw[List.foldl_append];rfl
def jX(l:List Heap)(d:Int):Option Heap:=l.find? fun h=>h.dose==d
theorem ju(h:Heap)(l:List Heap)(d:Int):jX (h::l) d=if h.dose=d then some h else jX l d:=by
 unfold jX
 rw[List.find?_cons]
 by_cases e:h.dose=d
 ·simp[e]
 ·have:(h.dose==d)=false:=by simpa using e
  rw[this,bz e]
theorem Ey{l:List Heap}{d:Int}(h:∀x∈l,x.dose≠d):jX l d=none:=by
 unfold jX
 refine List.find?_eq_none.mpr ?_
 intro x hx;simpa using h x hx
theorem Ez{p:Point}{d:Int}:∀{l:List Heap},oX l->jX (putHeap p l) d=
  if p.dose=d then some (match jX l d with | none=>heapOf p | some h=>⟨d,h.weight+p.weight,h.sum+p.weight*p.response⟩) else jX l d
 |[],_=>by
  unfold putHeap
  rw[ju];rfl
 |h::l,hr=>by
  have hr':=List.pairwise_cons.mp hr
  unfold putHeap
  split
  ·rename_i e
   rw[ju,ju]
   by_cases e2:h.dose=d
   ·rw[bA e2,bA (by omega),bA e2]
    simp only[e2]
   ·rw[bz e2,bz (by omega),bz e2]
  ·rename_i hne
   split
   ·rename_i hlt
    rw[ju]
    by_cases e2:p.dose=d
    ·rw[bA e2,bA e2]
     have:jX (h::l) d=none:=by
      refine Ey ?_
      intro x hx
      rcases aB.mp hx with e | e
      ·subst e;omega
      ·have:=hr'.1 x e;omega
     rw[this];rfl
    ·rw[bz e2,bz e2]
   ·rename_i hlt
    rw[ju,ju]
    by_cases e2:h.dose=d
    ·rw[bA e2,bA e2,bz (by omega)]
    ·rw[bz e2,bz e2]
     exact Ez hr'.2
theorem yy:∀{l:List Heap}{h:Heap},oX l->h∈l->jX l h.dose=some h
 |a::l,h,hr,hm=>by
  have hr':=List.pairwise_cons.mp hr
  rw[ju]
  rcases aB.mp hm with e | e
  ·subst e;rw[bA rfl]
  ·have:=hr'.1 h e
   rw[bz (by omega)]
   exact yy hr'.2 e
theorem EA(p:Point):∀(l:List Heap),iK ((putHeap p l).map (·.weight))=iK (l.map (·.weight))+p.weight
 |[]=>by simp[putHeap,iK]
 |h::l=>by
  unfold putHeap
  have ih:=EA p l
  split
  ·simp only[aL,gW];omega
  ·split
   ·simp only[aL,gW];omega
   ·simp only[aL,gW,ih];omega
theorem Nc(p:Point):∀(l:List Heap),iK ((putHeap p l).map fun h=>(h.sum.natAbs:Int))≤iK (l.map fun h=>(h.sum.natAbs:Int))+((p.weight*p.response).natAbs:Int)
 |[]=>by simp[putHeap,iK]
 |h::l=>by
  unfold putHeap
  have ih:=Nc p l
  split
  ·simp only[aL,gW]
   have:=Int.natAbs_add_le h.sum (p.weight*p.response)
   omega
  ·split
   ·simp only[aL,gW];omega
   ·simp only[aL,gW];omega
theorem Nd{p:Point}(hp:0<p.weight):∀{l:List Heap},(∀h∈l,0<h.weight)-> ∀h∈putHeap p l,0<h.weight
 |[],_,h,hm=>by
  unfold putHeap at hm
  rw[bW]at hm;subst hm;exact hp
 |a::l,hl,h,hm=>by
  unfold putHeap at hm
  have ha:=hl a aH
  have hl':=fun x hx=>hl x (au a hx)
  split at hm
  ·rcases aB.mp hm with e | e
   ·subst e;show 0<a.weight+p.weight;omega
   ·exact hl' h e
  ·split at hm
   ·rcases aB.mp hm with e | e
    ·subst e;exact hp
    ·exact hl h e
   ·rcases aB.mp hm with e | e
    ·subst e;exact ha
    ·exact Nd hp hl' h e
theorem oB{P:List Point->List Heap->Prop}(h0:P [] [])(h1:∀ps l p,P ps l->P (ps++[p]) (putHeap p l)):∀(ps:List Point),P ps (heaps ps):=by
 intro ps
 have key:∀(qs pre:List Point),P pre (heaps pre)->P (pre++qs) (heaps (pre++qs)):=by
  intro qs
  induction qs with
  |nil=>intro pre h;simpa using h
  |cons q qs ih=>
   intro pre h
   have:=ih (pre++[q]) (by rw[Ex];exact h1 _ _ _ h)
   simpa using this
 simpa using key ps [] h0
theorem xY(ps:List Point)(d:Int):d∈(heaps ps).map (·.dose)↔d∈ps.map (·.dose):=by
 refine oB (P:=fun ps l=>d∈l.map (·.dose)↔d∈ps.map (·.dose)) (by simp) ?_ ps
 intro ps l p h
 rw[m7,h]
 simp only[ay,bh,aL,bV,bW]
 grind
theorem Il(ps:List Point):iK ((heaps ps).map (·.weight))=iK (ps.map (·.weight)):=by
 refine oB (P:=fun ps l=>iK (l.map (·.weight))=iK (ps.map (·.weight))) rfl ?_ ps
 intro ps l p h
 rw[EA,h,ay,jt]
 simp[iK]
theorem Om(ps:List Point):iK ((heaps ps).map fun h=>(h.sum.natAbs:Int))≤iK (ps.map fun p=>((p.weight*p.response).natAbs:Int)):=by
 refine oB (P:=fun ps l=>iK (l.map fun h=>(h.sum.natAbs:Int))≤iK (ps.map fun p=>((p.weight*p.response).natAbs:Int))) (Int.le_refl _) ?_ ps
 intro ps l p h
 have:=Nc p l
 rw[ay,jt]
 simp only[aL,bV,gW,PM]
 omega
theorem xZ{ps:List Point}(hp:∀p∈ps,0<p.weight):∀h∈heaps ps,0<h.weight:=by
 refine oB (P:=fun ps l=>(∀p∈ps,0<p.weight)-> ∀h∈l,0<h.weight) (by intro _ h hm;cases hm) ?_ ps hp
 intro ps l p ih qP
 exact Nd (qP p (by simp)) (ih fun q hq=>qP q (by simp[hq]))
theorem EB(p:Point):∀(l:List Heap),(putHeap p l).length≤l.length+1
 |[]=>by simp[putHeap]
 |h::l=>by
  unfold putHeap
  have ih:=EB p l
  split
  ·simp
  ·split
   ·simp
   ·simp;omega
theorem fh(ps:List Point):(heaps ps).length≤ps.length:=by
 refine oB (P:=fun ps l=>l.length≤ps.length) (aA _) ?_ ps
 intro ps l p h
 have:=EB p l
 simp;omega
theorem UJ(p:Point)(l:List Heap):putHeap p l≠[]:=by
 cases l with
 |nil=>simp[putHeap]
 |cons h l=>unfold putHeap;split <;> (try split) <;> simp
theorem PN{ps:List Point}(h:ps≠[]):heaps ps≠[]:=by
 refine oB (P:=fun ps l=>ps≠[]->l≠[]) (by simp) ?_ ps h
 intro ps l p _ _
 exact UJ p l
structure PR(g:List Heap)(b:Block):Prop where
 ne:g≠[]
 first:(g.head?.map (·.dose))=some b.first
 last:(g.getLast?.map (·.dose))=some b.last
 doses:b.doses=g.length
 weight:b.weight=iK (g.map (·.weight))
 sum:b.sum=iK (g.map (·.sum))
def single(h:Heap):Block:=⟨h.dose,h.dose,1,h.weight,h.sum⟩
theorem zS(h:Heap):PR [h] (single h):=⟨by simp,rfl,rfl,rfl,by simp[single,iK],by simp[single,iK]⟩
def join(c b:Block):Block:=⟨c.first,b.last,c.doses+b.doses,c.weight+b.weight,c.sum+b.sum⟩
theorem JY{g g':List Heap}{b c:Block}(h:PR g b)(h':PR g' c):PR (g'++g) (join c b):=by
 refine⟨by simp[h.ne],?_,?_,?_,?_,?_⟩
 ·have:=h'.first
  cases g' with
  |nil=>exact absurd rfl h'.ne
  |cons a l=>exact this
 ·have:=h.last
  obtain⟨z,hz,e⟩:=aI.mp this
  rw[List.getLast?_append,hz];simpa [join] using e
 ·simp[join,h.doses,h'.doses]
 ·simp[join,h.weight,h'.weight,jt]
 ·simp[join,h.sum,h'.sum,jt]
inductive sj:List Heap->List Block->Prop
 |nil:sj [] []
 |snoc {pre g:List Heap} {b:Block} {st:List Block}:sj pre st->PR g b->sj (pre++g) (b::st)
theorem CT:∀{st:List Block}{pre:List Heap}{b:Block}{g:List Heap},sj pre st->PR g b->sj (pre++g) (pooled b st)
 |[],pre,b,g,hp,hg=>.snoc hp hg
 |c::l,_,b,g,hp,hg=>by
  unfold pooled
  split
  ·cases hp with
   |snoc qP hg'=>
    rw[bT]
    exact CT qP (JY hg hg')
  ·exact .snoc hp hg
def stack(hs:List Heap):List Block:=hs.foldl (fun l h=>pooled ⟨h.dose,h.dose,1,h.weight,h.sum⟩ l) []
theorem zT(hs:List Heap)(h:Heap):stack (hs++[h])=pooled (single h) (stack hs):=by
 unfold stack;rw[List.foldl_append];rfl
theorem blocks_eq(ps:List Point):blocks ps=(stack (heaps ps)).reverse:=rfl
theorem snoc_ind{α:Type}{P:List α->Prop}(h0:P [])(h1:∀l a,P l->P (l++[a])):∀l,P l:=by
 intro l
 have key:∀(qs pre:List α),P pre->P (pre++qs):=by
  intro qs
  induction qs with
  |nil=>intro pre h;simpa using h
  |cons q qs ih=>intro pre h;have:=ih (pre++[q]) (h1 _ _ h);simpa using this
 simpa using key l [] h0
theorem EC(hs:List Heap):sj hs (stack hs):=by
 refine snoc_ind (P:=fun hs=>sj hs (stack hs)) .nil ?_ hs
 intro l a h
 rw[zT]
 exact CT (g:=[a]) h (zS a)
inductive Part:List Heap->List Block->Prop
 |nil:Part [] []
 |cons {g hs:List Heap} {b:Block} {bs:List Block}:PR g b->Part hs bs->Part (g++hs) (b::bs)
theorem Part.app{hs:List Heap}{bs:List Block}(h:Part hs bs){g:List Heap}{b:Block}(hg:PR g b):Part (hs++g) (bs++[b]):=by
 induction h with
 |nil=>simpa using Part.cons hg Part.nil
 |cons hg' _ ih=>rw[bT];exact .cons hg' ih
theorem sj.part{hs:List Heap}{st:List Block}(h:sj hs st):Part hs st.reverse:=by
 induction h with
 |nil=>exact .nil
 |snoc _ hg ih=>rw[List.reverse_cons];exact ih.app hg
theorem jv(ps:List Point):Part (heaps ps) (blocks ps):=(EC (heaps ps)).part
def dh(bs:List Block):List Frac:=bs.flatMap fun b=>List.replicate b.doses (mean b)
theorem vG{b:Block}{bs:List Block}{hs:List Heap}:∀{g:List Heap},g≠[]->oX g->(g.getLast?.map (·.dose))=some b.last->
  valuesOf (g++hs) (b::bs)=(g.map fun h=>(h.dose,mean b))++valuesOf hs bs
 |[],h,_,_=>absurd rfl h
 |[a],_,_,hl=>by
  have e:a.dose=b.last:=by simpa using hl
  simp[valuesOf,e]
 |a::c::g,_,hr,hl=>by
  have hr':=List.pairwise_cons.mp hr
  have hl':((c::g).getLast?.map (·.dose))=some b.last:=by simpa [List.getLast?_cons] using hl
  have ne:a.dose≠b.last:=by
   obtain⟨z,hz,e⟩:=aI.mp hl'
   have hm:z∈c::g:=List.mem_of_getLast? hz
   have:=hr'.1 z hm
   omega
  have ih:=vG (b:=b) (bs:=bs) (hs:=hs) (g:=c::g) (by simp) hr'.2 hl'
  show (a.dose,mean b)::(if a.dose=b.last then valuesOf ((c::g)++hs) bs else valuesOf ((c::g)++hs) (b::bs))=_
  rw[bz ne,ih]
  rfl
theorem vH{l m:List Heap}(h:oX (l++m)):oX l/\oX m:=⟨(List.pairwise_append.mp h).1,(List.pairwise_append.mp h).2.1⟩
theorem yz{hs:List Heap}{bs:List Block}(h:Part hs bs):oX hs->valuesOf hs bs=(hs.map (·.dose)).zip (dh bs)/\hs.length=(dh bs).length:=by
 induction h with
 |nil=>intro _;exact⟨rfl,rfl⟩
 |@cons g hs b bs hg _ ih=>
  intro hr
  obtain⟨r1,r2⟩:=vH hr
  obtain⟨i1,i2⟩:=ih r2
  have el:(dh (b::bs))=List.replicate b.doses (mean b)++dh bs:=rfl
  constructor
  ·rw[vG hg.ne r1 hg.last,i1,el,ay,List.zip_append (by simp[hg.doses]),hg.doses]
   congr 1
   clear hg
   induction g with
   |nil=>rfl
   |cons a g ihg=>simp[List.replicate_succ];exact(ihg (vH (l:=[a]) hr).2 (vH (l:=[a]) r1).2)
  ·rw[el];simp[hg.doses,i2]
theorem oE(ps:List Point):curve ps=((heaps ps).map (·.dose)).zip (dh (blocks ps)):=(yz (jv ps) (kP ps)).1
theorem eO(ps:List Point):(dh (blocks ps)).length=(heaps ps).length:=(yz (jv ps) (kP ps)).2.symm
theorem jw(ps:List Point):(curve ps).map (·.1)=(heaps ps).map (·.dose):=by
 rw[oE]
 exact List.map_fst_zip (by simp[eO])
theorem mR(ps:List Point):(curve ps).map (·.2)=dh (blocks ps):=by
 rw[oE]
 exact List.map_snd_zip (by simp[eO])
theorem fF(ps:List Point):(curve ps).length=(heaps ps).length:=by
 have:=congrArg List.length (jw ps);simpa using this
theorem Im{g:List Heap}(hg:∀h∈g,0<h.weight)(ne:g≠[]):0<iK (g.map (·.weight)):=by
 cases g with
 |nil=>exact absurd rfl ne
 |cons a g=>
  have h1:=hg a aH
  have h2:0≤iK (g.map (·.weight)):=lu (by
   intro x hx
   obtain⟨h,hm,e⟩:=aQ.mp hx
   have:=hg h (au _ hm);omega)
  simp only[aL,gW];omega
theorem CV:∀(g:List Heap),((iK (g.map (·.sum))).natAbs:Int)≤iK (g.map fun h=>(h.sum.natAbs:Int))
 |[]=>by simp[iK]
 |a::g=>by
  have:=CV g
  simp only[aL,gW]
  omega
theorem PU{hs:List Heap}{bs:List Block}(h:Part hs bs):∀b∈bs,∃pre g post,hs=pre++g++post/\PR g b:=by
 induction h with
 |nil=>intro b hb;cases hb
 |@cons g hs b bs hg _ ih=>
  intro c hc
  rcases aB.mp hc with e | e
  ·subst e;exact⟨[],g,hs,by simp,hg⟩
  ·obtain⟨pre,g',post,e1,h1⟩:=ih c e
   exact⟨g++pre,g',post,by rw[e1];simp,h1⟩
theorem x6{hs:List Heap}{bs:List Block}(h:Part hs bs)(hp:∀x∈hs,0<x.weight):∀b∈bs,0<b.weight/\b.weight≤iK (hs.map (·.weight))/\(b.sum.natAbs:Int)≤iK (hs.map fun x=>(x.sum.natAbs:Int))/\0<b.doses/\b.doses≤hs.length:=by
 intro b hb
 obtain⟨pre,g,post,e,hg⟩:=PU h b hb
 subst e
 have hw:∀l:List Heap,(∀x∈l,0<x.weight)->0≤iK (l.map (·.weight)):=fun l hl=>lu (by
  intro x hx
  obtain⟨y,hm,e⟩:=aQ.mp hx
  have:=hl y hm;omega)
 have ha:∀l:List Heap,0≤iK (l.map fun x=>(x.sum.natAbs:Int)):=fun l=>lu (by
  intro x hx
  obtain⟨y,hm,e⟩:=aQ.mp hx
  omega)
 have p1:=hw pre fun x hx=>hp x (by simp[hx])
 have p2:=hw post fun x hx=>hp x (by simp[hx])
 have q1:=ha pre
 have q2:=ha post
 have pg:=Im (g:=g) (fun x hx=>hp x (by simp[hx])) hg.ne
 have ag:=CV g
 have gl:0<g.length:=List.length_pos_iff.mpr hg.ne
 simp only[ay,jt,hg.weight,hg.sum,hg.doses,ao]
 refine⟨?_,?_,?_,?_,?_⟩ <;> omega
def Below(c b:Block):Prop:=c.sum*b.weight<b.sum*c.weight
inductive Chain:List Block->Prop
 |nil:Chain []
 |one (b:Block):Chain [b]
 |cons {b c:Block} {l:List Block}:Below c b->Chain (c::l)->Chain (b::c::l)
theorem Chain.tail{b:Block}{l:List Block}(h:Chain (b::l)):Chain l:=by
 cases h with
 |one=>exact .nil
 |cons _ h=>exact h
theorem AZ:∀{st:List Block}{b:Block},Chain st->Chain (pooled b st)
 |[],b,_=>.one b
 |c::l,b,h=>by
  unfold pooled
  split
  ·exact AZ h.tail
  ·rename_i hn
   exact .cons (by unfold Below;omega) h
theorem JZ(hs:List Heap):Chain (stack hs):=by
 refine snoc_ind (P:=fun hs=>Chain (stack hs)) .nil ?_ hs
 intro l a h
 rw[zT]
 exact AZ h
theorem J0{a b c:Block}(ha:0<a.weight)(hb:0<b.weight)(hc:0<c.weight)(h1:Below a b)(h2:Below b c):Below a c:=by
 unfold Below at*
 have k1:a.sum*b.weight*c.weight<b.sum*a.weight*c.weight:=Int.mul_lt_mul_of_pos_right h1 hc
 have k2:b.sum*c.weight*a.weight<c.sum*b.weight*a.weight:=Int.mul_lt_mul_of_pos_right h2 ha
 have k3:(a.sum*c.weight)*b.weight<(c.sum*a.weight)*b.weight:=by
  have e1:a.sum*c.weight*b.weight=a.sum*b.weight*c.weight:=by grind
  have e2:b.sum*a.weight*c.weight=b.sum*c.weight*a.weight:=by grind
  have e3:c.sum*a.weight*b.weight=c.sum*b.weight*a.weight:=by grind
  omega
 exact Int.lt_of_mul_lt_mul_right k3 (by omega)
theorem ED{l:List Block}(h:Chain l):(∀b∈l,0<b.weight)->l.Pairwise (fun b c=>Below c b):=by
 induction h with
 |nil=>intro _;exact List.Pairwise.nil
 |one b=>intro _;exact List.pairwise_singleton _ _
 |@cons b c l hb _ ih=>
  intro hp
  have ih':=ih fun x hx=>hp x (au _ hx)
  refine List.pairwise_cons.mpr ⟨fun x hx=>?_,ih'⟩
  rcases aB.mp hx with e | e
  ·subst e;exact hb
  ·exact J0 (hp x (by simp[e])) (hp c (by simp)) (hp b (by simp)) ((List.pairwise_cons.mp ih').1 x e) hb
theorem Io{ps:List Point}(hp:∀p∈ps,0<p.weight):(blocks ps).Pairwise Below:=by
 rw[blocks_eq,List.pairwise_reverse]
 refine ED (JZ _) fun b hb=>?_
 exact(x6 (jv ps) (xZ hp) b (by rw[blocks_eq,List.mem_reverse];exact hb)).1
theorem D6{b:Block}(h:0<b.weight):Ok (mean b):=lX (by omega)
theorem Nf{b:Block}(h:0<b.weight):Is (mean b) b.sum b.weight:=by
 have:=oA (n:=b.sum) (d:=b.weight.toNat) (by omega)
 have e:((b.weight.toNat:Nat):Int)=b.weight:=by omega
 rw[e]at this
 exact this
theorem Oo{b c:Block}(hb:0<b.weight)(hc:0<c.weight):less (mean b) (mean c)=decide (b.sum*c.weight<c.sum*b.weight):=
 Nb (D6 hb) (D6 hc) (Nf hb) (Nf hc)
def PV(l:List Frac):Prop:=l.Pairwise (fun x y=>less y x=false)
theorem jy(x:Frac):less x x=false:=by unfold less;exact aW (by omega)
theorem iu{x y:Frac}(h:less x y=true):less y x=false:=by
 unfold less at*
 have:=bB h
 exact aW (by omega)
theorem EE{ps:List Point}(hp:∀p∈ps,0<p.weight):PV (dh (blocks ps)):=by
 have hb:=Io hp
 have hw:=fun b hb=>(x6 (jv ps) (xZ hp) b hb).1
 revert hb hw
 generalize blocks ps=bs
 induction bs with
 |nil=>intro _ _;exact List.Pairwise.nil
 |cons b bs ih=>
  intro hb hw
  have hb':=List.pairwise_cons.mp hb
  have el:(dh (b::bs))=List.replicate b.doses (mean b)++dh bs:=rfl
  rw[el]
  refine List.pairwise_append.mpr ⟨?_,ih hb'.2 (fun c hc=>hw c (au _ hc)),?_⟩
  ·rw[List.pairwise_replicate];exact Or.inr (jy _)
  ·intro x hx y hy
   rw[List.mem_replicate]at hx
   obtain⟨c,hc,hy⟩:=List.mem_flatMap.mp hy
   rw[List.mem_replicate]at hy
   rw[hx.2,hy.2]
   have hB:Below b c:=hb'.1 c hc
   refine iu ?_
   rw[Oo (hw b aH) (hw c (au _ hc))]
   exact aX hB
theorem LJ{ps:List Point}(hp:∀p∈ps,0<p.weight):∀f∈dh (blocks ps),Ok f:=by
 intro f hf
 obtain⟨b,hb,hf⟩:=List.mem_flatMap.mp hf
 rw[List.mem_replicate]at hf
 rw[hf.2]
 exact D6 (x6 (jv ps) (xZ hp) b hb).1
theorem lt_of_le_of_lt{x y z:Frac}(hy:Ok y)(hx:Ok x)(hz:Ok z)(h1:less y x=false)(h2:less y z=true):less x z=true:=by
 unfold less at*
 have h1:=bC h1
 have h2:=bB h2
 refine aX ?_
 have px:(0:Int)<x.den:=by have:=hx.pos;omega
 have py:(0:Int)<y.den:=by have:=hy.pos;omega
 have pz:(0:Int)<z.den:=by have:=hz.pos;omega
 have k1:x.num*(y.den:Int)*z.den≤y.num*(x.den:Int)*z.den:=Int.mul_le_mul_of_nonneg_right (by omega) (by omega)
 have k2:y.num*(z.den:Int)*x.den<z.num*(y.den:Int)*x.den:=Int.mul_lt_mul_of_pos_right h2 px
 refine Int.lt_of_mul_lt_mul_right (a:=(y.den:Int)) ?_ (by omega)
 have e1:x.num*(z.den:Int)*y.den=x.num*(y.den:Int)*z.den:=by grind
 have e2:y.num*(x.den:Int)*z.den=y.num*(z.den:Int)*x.den:=by grind
 have e3:z.num*(x.den:Int)*y.den=z.num*(y.den:Int)*x.den:=by grind
 omega
theorem lt_of_lt_of_le{x y z:Frac}(hy:Ok y)(hx:Ok x)(hz:Ok z)(h1:less x y=true)(h2:less z y=false):less x z=true:=by
 unfold less at*
 have h1:=bB h1
 have h2:=bC h2
 refine aX ?_
 have px:(0:Int)<x.den:=by have:=hx.pos;omega
 have py:(0:Int)<y.den:=by have:=hy.pos;omega
 have pz:(0:Int)<z.den:=by have:=hz.pos;omega
 have k1:x.num*(y.den:Int)*z.den<y.num*(x.den:Int)*z.den:=Int.mul_lt_mul_of_pos_right h1 pz
 have k2:y.num*(z.den:Int)*x.den≤z.num*(y.den:Int)*x.den:=Int.mul_le_mul_of_nonneg_right (by omega) (by omega)
 refine Int.lt_of_mul_lt_mul_right (a:=(y.den:Int)) ?_ (by omega)
 have e1:x.num*(z.den:Int)*y.den=x.num*(y.den:Int)*z.den:=by grind
 have e2:y.num*(x.den:Int)*z.den=y.num*(z.den:Int)*x.den:=by grind
 have e3:z.num*(x.den:Int)*y.den=z.num*(y.den:Int)*x.den:=by grind
 omega
theorem G4{x y z:Frac}(hy:Ok y)(hx:Ok x)(hz:Ok z)(h1:less x y=true)(h2:less y z=true):less x z=true:=
 lt_of_lt_of_le hy hx hz h1 (iu h2)
theorem fB(a b:Int):less (whole a) (whole b)=decide (a<b):=by
 unfold less whole;simp
theorem iO{x y:Frac}(hx:Ok x)(hy:Ok y)(h1:less x y=false)(h2:less y x=false):x=y:=by
 unfold less at*
 have h1:=bC h1
 have h2:=bC h2
 exact JV hx hy (by omega)
def gO(a0 a1 u0 u1 x:Frac):Frac:=plus u0 (times (over (minus x a0) (minus a1 a0)) (minus u1 u0))
theorem J1(a b:Int):minus (whole a) (whole b)=whole (a-b):=by
 refine jP (dS (cQ _) (cQ _)) (cQ _) (m6 (cQ _) (cQ _) (j9 a) (j9 b)) (j9 (a-b)) ?_
 grind
theorem EF{a0 a1:Frac}(h0:Ok a0)(h1:Ok a1)(h:less a0 a1=true):0<a1.num*(a0.den:Int)-a0.num*(a1.den:Int):=by
 have h:=bB h
 omega
theorem mS{a0 a1:Frac}(h0:Ok a0)(h1:Ok a1)(h:less a0 a1=true):0<(minus a1 a0).num:=
 ((m6 h1 h0 h1.is h0.is).M9 (dS h1 h0)).mpr (EF h0 h1 h)
theorem lz{a0 a1 u0 u1 x:Frac}(h0:Ok a0)(h1:Ok a1)(k0:Ok u0)(k1:Ok u1)(kx:Ok x)(h:less a0 a1=true):Ok (gO a0 a1 u0 u1 x):=
 D5 k0 (gM (xX (dS kx h0) (mS h0 h1 h)) (dS k1 k0))
theorem lA{a0 a1 u0 u1 x:Frac}{p0 q0 p1 q1 r0 s0 r1 s1 m n:Int}(h0:Ok a0)(h1:Ok a1)(k0:Ok u0)(k1:Ok u1)(kx:Ok x)(h:less a0 a1=true)
  (i0:Is a0 p0 q0)(i1:Is a1 p1 q1)(j0:Is u0 r0 s0)(j1:Is u1 r1 s1)(ix:Is x m n):
  Is (gO a0 a1 u0 u1 x) (r0*((n*q0)*(p1*q0-p0*q1)*(s1*s0))+(m*q0-p0*n)*(q1*q0)*(r1*s0-r0*s1)*s0) (s0*((n*q0)*(p1*q0-p0*q1)*(s1*s0))):=by
 have hc:0<p1*q0-p0*q1:=by
  have:=Nb h0 h1 i0 i1
  rw[h]at this
  have:=bB this.symm
  omega
 exact M8 k0 (gM (xX (dS kx h0) (mS h0 h1 h)) (dS k1 k0)) j0
  (JW (xX (dS kx h0) (mS h0 h1 h)) (dS k1 k0) (Na (dS kx h0) (dS h1 h0) (m6 kx h0 ix i0) (m6 h1 h0 i1 i0) hc) (m6 k1 k0 j1 j0))
theorem lI{x:Frac}{n:Int}(hx:Ok x)(h:0<n):Ok (over x (whole n)):=xX hx h
theorem tQ{a b:Knot}{x:Frac}(ha:Ok a.2)(hb:Ok b.2)(hx:Ok x)(h:a.1<b.1):Ok (between a b x):=
 D5 ha (gM (lI (dS hb ha) (by omega)) (dS hx (cQ _)))
theorem zU{a b:Knot}{x:Frac}{r0 s0 r1 s1 m n:Int}(ha:Ok a.2)(hb:Ok b.2)(hx:Ok x)(h:a.1<b.1)(j0:Is a.2 r0 s0)(j1:Is b.2 r1 s1)(ix:Is x m n):
  Is (between a b x) (r0*((s1*s0)*(b.1-a.1)*(n*1))+((r1*s0-r0*s1)*1*(m*1-a.1*n))*s0) (s0*((s1*s0)*(b.1-a.1)*(n*1))):=
 M8 ha (gM (lI (dS hb ha) (by omega)) (dS hx (cQ _))) j0
  (JW (lI (dS hb ha) (by omega)) (dS hx (cQ _)) (Na (dS hb ha) (cQ _) (m6 hb ha j1 j0) (j9 _) (by omega)) (m6 hx (cQ _) ix (j9 _)))
theorem B6{a b:Knot}{x:Frac}(ha:Ok a.2)(hb:Ok b.2)(hx:Ok x)(h:a.1<b.1):gO (whole a.1) (whole b.1) a.2 b.2 x=between a b x:=by
 have hl:less (whole a.1) (whole b.1)=true:=by rw[fB];exact aX h
 refine jP (lz (cQ _) (cQ _) ha hb hx hl) (tQ ha hb hx h) (lA (cQ _) (cQ _) ha hb hx hl (j9 _) (j9 _) ha.is hb.is hx.is) (zU ha hb hx h ha.is hb.is hx.is) ?_
 generalize a.2.num=r0;generalize (a.2.den:Int)=s0;generalize b.2.num=r1;generalize (b.2.den:Int)=s1;generalize x.num=m;generalize (x.den:Int)=n
 generalize a.1=p0;generalize b.1=p1
 grind
theorem A1{a b:Knot}(ha:Ok a.2)(hb:Ok b.2)(h:a.1<b.1):between a b (whole a.1)=a.2:=by
 refine jP (tQ ha hb (cQ _) h) ha (zU ha hb (cQ _) h ha.is hb.is (j9 _)) ha.is ?_
 grind
theorem yC{a b:Knot}(ha:Ok a.2)(hb:Ok b.2)(h:a.1<b.1):between a b (whole b.1)=b.2:=by
 refine jP (tQ ha hb (cQ _) h) hb (zU ha hb (cQ _) h ha.is hb.is (j9 _)) hb.is ?_
 grind
structure Kn(l:List Knot):Prop where
 rise:l.Pairwise (fun a b=>a.1<b.1)
 ok:∀k∈l,Ok k.2
 EG:l.Pairwise (fun a b=>less b.2 a.2=false)
theorem Kn.tail{a:Knot}{l:List Knot}(h:Kn (a::l)):Kn l:=⟨(List.pairwise_cons.mp h.rise).2,fun k hk=>h.ok k (au _ hk),(List.pairwise_cons.mp h.EG).2⟩
theorem Kn.lt{a:Knot}{l:List Knot}(h:Kn (a::l)){b:Knot}(hb:b∈l):a.1<b.1:=(List.pairwise_cons.mp h.rise).1 b hb
theorem Kn.le{a:Knot}{l:List Knot}(h:Kn (a::l)){b:Knot}(hb:b∈l):less b.2 a.2=false:=(List.pairwise_cons.mp h.EG).1 b hb
theorem kh{ps:List Point}(hp:∀p∈ps,0<p.weight):Kn (curve ps):=by
 refine⟨?_,?_,?_⟩
 ·have h:=kP ps
  have:((heaps ps).map (·.dose)).Pairwise (· < ·):=List.pairwise_map.mpr h
  rw[<-jw,List.pairwise_map]at this
  exact this
 ·intro k hk
  have:k.2∈(curve ps).map (·.2):=List.mem_map_of_mem hk
  rw[mR]at this
  exact LJ hp _ this
 ·have h:=EE hp
  unfold PV at h
  rw[<-mR,List.pairwise_map]at h
  exact h
theorem LK{x:Frac}{a:Knot}{l:List Knot}(h:less x (whole a.1)=true):valueAt x (a::l)=none:=by
 cases l with
 |nil=>
  unfold valueAt
  rw[bz]
  intro e
  rw[e,jy]at h;cases h
 |cons b l=>unfold valueAt;rw[bA h]
theorem CW{x:Frac}:∀{l:List Knot},Kn l->(∀k∈l,less (whole k.1) x=true)->valueAt x l=none
 |[],_,_=>rfl
 |[a],_,h=>by
  unfold valueAt
  rw[bz]
  intro e
  have:=h a (by simp)
  rw[e,jy]at this;cases this
 |a::b::l,hk,h=>by
  unfold valueAt
  rw[bz (by rw[iu (h a (by simp))];decide),fz,h b (by simp)]
  exact CW hk.tail fun k hk'=>h k (au _ hk')
theorem x8{x:Frac}(hx:Ok x):∀{l:List Knot}{p:Nat}{a b:Knot},Kn l->l[p]?=some a->l[p+1]?=some b->less x (whole a.1)=false->less (whole b.1) x=false->
  valueAt x l=some (between a b x)
 |[],p,a,b,_,h,_,_,_=>by simp at h
 |[c],p,a,b,_,_,h,_,_=>by simp at h
 |c::d::l,0,a,b,hk,ha,hb,h1,h2=>by
  have ea:c=a:=by simpa using ha
  have eb:d=b:=by simpa using hb
  subst ea eb
  unfold valueAt
  rw[bz (by rw[h1];decide),fz,h2]
  rfl
 |c::d::l,p+1,a,b,hk,ha,hb,h1,h2=>by
  have ha':(d::l)[p]?=some a:=by simpa using ha
  have hb':(d::l)[p+1]?=some b:=by simpa using hb
  have ma:a∈d::l:=ak ha'
  have mb:b∈d::l:=ak hb'
  have Wg:c.1<a.1:=hk.lt ma
  have ka:=hk.ok a (au _ ma)
  have kb:=hk.ok b (au _ mb)
  have kc:=hk.ok c (by simp)
  have hcx:less x (whole c.1)=false:=by
   refine iu (lt_of_lt_of_le (cQ a.1) (cQ c.1) hx ?_ h1)
   rw[fB];exact aX Wg
  unfold valueAt
  rw[bz (by rw[hcx];decide),fz]
  cases p with
  |zero=>
   have ea:d=a:=by simpa using ha'
   subst ea
   cases hdx:less (whole d.1) x with
   |true=>exact x8 hx hk.tail ha' hb' h1 h2
   |false=>
    have e:x=whole d.1:=iO hx (cQ _) h1 hdx
    subst e
    have ldb:d.1<b.1:=by
     have:(d::l)[1]?=some b:=hb'
     have:l[0]?=some b:=by simpa using this
     exact hk.tail.lt (ak this)
    rw[A1 ka kb ldb,yC kc ka Wg]
    rfl
  |succ p=>
   have Wh:a∈l:=by
    have:l[p]?=some a:=by simpa using ha'
    exact ak this
   have lda:d.1<a.1:=hk.tail.lt Wh
   have hdx:less (whole d.1) x=true:=by
    refine lt_of_lt_of_le (cQ a.1) (cQ d.1) hx ?_ h1
    rw[fB];exact aX lda
   rw[hdx]
   exact x8 hx hk.tail ha' hb' h1 h2
theorem J2:∀{l:List Knot}{p:Nat}{a:Knot},Kn l->l[p]?=some a->valueAt (whole a.1) l=some a.2
 |[],p,a,_,h=>by simp at h
 |[c],p,a,_,h=>by
  have e:c=a:=by
   cases p with
   |zero=>simpa using h
   |succ p=>simp at h
  subst e
  unfold valueAt;rw[bA rfl]
 |c::d::l,0,a,hk,h=>by
  have e:c=a:=by simpa using h
  subst e
  have hlt:c.1<d.1:=hk.lt (by simp)
  rw[x8 (p:=0) (cQ _) hk rfl rfl (jy _) (iu (by rw[fB];exact aX hlt))]
  rw[A1 (hk.ok c (by simp)) (hk.ok d (by simp)) hlt]
 |c::d::l,p+1,a,hk,h=>by
  have ha':(d::l)[p]?=some a:=by simpa using h
  have ma:a∈d::l:=ak ha'
  have Wg:c.1<a.1:=hk.lt ma
  have ih:=J2 hk.tail ha'
  unfold valueAt
  rw[bz (by rw[iu (by rw[fB];exact aX Wg)];decide),fz]
  cases hd:less (whole d.1) (whole a.1)with
  |true=>exact ih
  |false=>
   have e:d=a:=by
    cases p with
    |zero=>simpa using ha'
    |succ p=>
     have Wh:a∈l:=by
      have:l[p]?=some a:=by simpa using ha'
      exact ak this
     have:=hk.tail.lt Wh
     rw[fB,aX this]at hd
     cases hd
   subst e
   show some (between c d (whole d.1))=some d.2
   rw[yC (hk.ok c (by simp)) (hk.ok d (by simp)) Wg]
theorem zV{r:Frac}:∀{l:List Knot},(∀k∈l,less k.2 r=true)->firstAt r l=none
 |[],_=>rfl
 |[a],h=>by unfold firstAt;rw[fz,h a (by simp)];rfl
 |a::b::l,h=>by
  unfold firstAt
  rw[fz,h a (by simp),fz,h b (by simp)]
  exact zV fun k hk=>h k (au _ hk)
theorem zW{r:Frac}{a:Knot}{l:List Knot}(h:less a.2 r=false):firstAt r (a::l)=some (whole a.1):=by
 cases l with
 |nil=>unfold firstAt;rw[fz,h];rfl
 |cons b l=>unfold firstAt;rw[fz,h];rfl
theorem x9{r:Frac}(hr:Ok r):∀{l:List Knot}{p:Nat}{a b:Knot},Kn l->l[p]?=some a->l[p+1]?=some b->less a.2 r=true->less b.2 r=false->
  firstAt r l=some (gO a.2 b.2 (whole a.1) (whole b.1) r)
 |[],p,a,b,_,h,_,_,_=>by simp at h
 |[c],p,a,b,_,_,h,_,_=>by simp at h
 |c::d::l,0,a,b,hk,ha,hb,h1,h2=>by
  have ea:c=a:=by simpa using ha
  have eb:d=b:=by simpa using hb
  subst ea eb
  unfold firstAt gO
  rw[fz,h1,fz,h2,J1]
  rfl
 |c::d::l,p+1,a,b,hk,ha,hb,h1,h2=>by
  have ha':(d::l)[p]?=some a:=by simpa using ha
  have hb':(d::l)[p+1]?=some b:=by simpa using hb
  have ma:a∈d::l:=ak ha'
  have ka:=hk.ok a (au _ ma)
  have kc:=hk.ok c (by simp)
  have kd:=hk.ok d (by simp)
  have hc:less c.2 r=true:=lt_of_le_of_lt ka kc hr (hk.le ma) h1
  have hd:less d.2 r=true:=by
   cases p with
   |zero=>
    have e:d=a:=by simpa using ha'
    subst e;exact h1
   |succ p=>
    have Wh:a∈l:=by
     have:l[p]?=some a:=by simpa using ha'
     exact ak this
    exact lt_of_le_of_lt ka kd hr (hk.tail.le Wh) h1
  unfold firstAt
  rw[fz,hc,fz,hd]
  exact x9 hr hk.tail ha' hb' h1 h2
theorem jz{x:Frac}(h:Ok x):Ok (negated x):=⟨h.pos,by show Nat.gcd (-x.num).natAbs x.den=1;rw[Int.natAbs_neg];exact h.low⟩
theorem zX{x:Frac}{a b:Int}(h:Is x a b):Is (negated x) (-a) b:=⟨h.pos,by have:=h.eq;show -x.num*b= -a*(x.den:Int);rw[Int.neg_mul,Int.neg_mul,this]⟩
theorem EH{x:Frac}(h:Ok x):minus (whole 0) x=negated x:=by
 refine jP (dS (cQ _) h) (jz h) (m6 (cQ _) h (j9 0) h.is) (zX h.is) ?_
 grind
theorem sr(x y:Frac):less (negated x) (negated y)=less y x:=by
 unfold less
 refine decide_eq_decide.mpr ?_
 show -x.num*(y.den:Int)< -y.num*(x.den:Int)↔_
 rw[Int.neg_mul,Int.neg_mul];omega
theorem m8{l:List Knot}(h:∀k∈l,Ok k.2):mirrored l=(l.map fun k=>(-k.1,negated k.2)).reverse:=by
 unfold mirrored
 congr 1
 refine List.map_congr_left fun k hk=>?_
 rw[EH (h k hk)]
theorem J3{l:List Knot}(h:Kn l):Kn (mirrored l):=by
 rw[m8 h.ok]
 refine⟨?_,?_,?_⟩
 ·rw[List.pairwise_reverse,List.pairwise_map]
  refine h.rise.imp ?_
  intro a b hab;show -b.1< -a.1;omega
 ·intro k hk
  rw[List.mem_reverse]at hk
  obtain⟨z,hz,e⟩:=aQ.mp hk
  subst e
  exact jz (h.ok z hz)
 ·rw[List.pairwise_reverse,List.pairwise_map]
  refine h.EG.imp ?_
  intro a b hab
  show less (negated a.2) (negated b.2)=false
  rw[sr];exact hab
theorem Oq(a:Int):negated (whole (-a))=whole a:=by unfold negated whole;simp
theorem Ot{r:Frac}{l:List Knot}(hk:Kn l)(h:∀k∈l,less r k.2=true):lastAt r l=none:=by
 unfold lastAt
 rw[zV];rfl
 intro k hm
 rw[m8 hk.ok,List.mem_reverse]at hm
 obtain⟨z,hz,e⟩:=aQ.mp hm
 subst e
 show less (negated z.2) (negated r)=true
 rw[sr];exact h z hz
theorem PX{r:Frac}{l:List Knot}{a:Knot}(hk:Kn (l++[a]))(h:less r a.2=false):lastAt r (l++[a])=some (whole a.1):=by
 unfold lastAt
 rw[m8 hk.ok,ay,List.reverse_append]
 show Option.map negated (firstAt (negated r) ((-a.1,negated a.2)::_))=_
 rw[zW (by show less (negated a.2) (negated r)=false;rw[sr];exact h)]
 show some (negated (whole (-a.1)))=_
 rw[Oq]
theorem Ip{a0 a1 u0 u1 r:Frac}(h0:Ok a0)(h1:Ok a1)(k0:Ok u0)(k1:Ok u1)(kr:Ok r)(h:less a0 a1=true):
  negated (gO (negated a1) (negated a0) (negated u1) (negated u0) (negated r))=gO a0 a1 u0 u1 r:=by
 have hl:less (negated a1) (negated a0)=true:=by rw[sr];exact h
 refine jP (jz (lz (jz h1) (jz h0) (jz k1) (jz k0) (jz kr) hl)) (lz h0 h1 k0 k1 kr h)
  (zX (lA (jz h1) (jz h0) (jz k1) (jz k0) (jz kr) hl (zX h1.is) (zX h0.is) (zX k1.is) (zX k0.is) (zX kr.is)))
  (lA h0 h1 k0 k1 kr h h0.is h1.is k0.is k1.is kr.is) ?_
 generalize a0.num=p0;generalize (a0.den:Int)=q0;generalize a1.num=p1;generalize (a1.den:Int)=q1
 generalize u0.num=r0;generalize (u0.den:Int)=s0;generalize u1.num=r1;generalize (u1.den:Int)=s1;generalize r.num=m;generalize (r.den:Int)=n
 grind
theorem G5(a:Int):whole (-a)=negated (whole a):=rfl
theorem J4{r:Frac}(hr:Ok r){l:List Knot}{p:Nat}{a b:Knot}(hk:Kn l)(ha:l[p]?=some a)(hb:l[p+1]?=some b)(h1:less r a.2=false)(h2:less r b.2=true):
  lastAt r l=some (gO a.2 b.2 (whole a.1) (whole b.1) r):=by
 have hl:p+1<l.length:=(af.mp hb).1
 have ka:=hk.ok a (ak ha)
 have kb:=hk.ok b (ak hb)
 have hab:less a.2 b.2=true:=lt_of_le_of_lt hr ka kb h1 h2
 have hm:=J3 hk
 have e:=m8 hk.ok
 have g1:(mirrored l)[l.length-1-(p+1)]?=some (-b.1,negated b.2):=by
  rw[e,List.getElem?_reverse (by simp;omega)]
  simp only[aa]
  have:l.length-1-(l.length-1-(p+1))=p+1:=by omega
  rw[this,aE,hb];rfl
 have g2:(mirrored l)[l.length-1-(p+1)+1]?=some (-a.1,negated a.2):=by
  rw[e,List.getElem?_reverse (by simp;omega)]
  simp only[aa]
  have:l.length-1-(l.length-1-(p+1)+1)=p:=by omega
  rw[this,aE,ha];rfl
 have hf:=x9 (jz hr) hm g1 g2 (by show less (negated b.2) (negated r)=true;rw[sr];exact h2) (by show less (negated a.2) (negated r)=false;rw[sr];exact h1)
 unfold lastAt
 rw[hf]
 show some (negated (gO (negated b.2) (negated a.2) (whole (-b.1)) (whole (-a.1)) (negated r)))=_
 rw[G5,G5,Ip ka kb (cQ _) (cQ _) hr hab]
theorem Iq{r:Frac}{a:Knot}{l:List Knot}(hk:Kn (a::l))(hr:Ok r)(h:less r a.2=true):doseOf r (a::l)= .below:=by
 have h1:firstAt r (a::l)=some (whole a.1):=zW (iu h)
 have h2:lastAt r (a::l)=none:=Ot hk fun k hm=>by
  rcases aB.mp hm with e | e
  ·subst e;exact h
  ·exact lt_of_lt_of_le (hk.ok a (by simp)) hr (hk.ok k hm) h (hk.le e)
 unfold doseOf
 rw[h1,h2]
theorem Se{l:List Knot}{a:Knot}(hk:Kn (l++[a])){k:Knot}(hm:k∈l):less a.2 k.2=false:=(List.pairwise_append.mp hk.EG).2.2 k hm a (by simp)
theorem Ir{r:Frac}{l:List Knot}{a:Knot}(hk:Kn (l++[a]))(hr:Ok r)(h:less a.2 r=true):doseOf r (l++[a])= .over_:=by
 have h1:firstAt r (l++[a])=none:=zV fun k hm=>by
  rcases bh.mp hm with e | e
  ·exact lt_of_le_of_lt (hk.ok a (by simp)) (hk.ok k hm) hr (Se hk e) h
  ·rw[bW]at e;subst e;exact h
 unfold doseOf
 rw[h1]
theorem qQ{r x y:Frac}{l:List Knot}(h1:firstAt r l=some x)(h2:lastAt r l=some y):doseOf r l= .inside x y:=by
 unfold doseOf
 rw[h1,h2]
theorem PY{x:Int}{l:List Knot}(h:∀k∈l,x<k.1):stepLow x l=none:=by
 unfold stepLow
 have:l.filter (fun k=>decide (k.1≤x))=[]:=by
  rw[List.filter_eq_nil_iff]
  intro k hk
  have:=h k hk
  simp;omega
 rw[this];rfl
theorem PZ{x:Int}{l:List Knot}{p:Nat}{a:Knot}(ha:l[p]?=some a)(h1:a.1≤x)(h2:∀q k,p<q->l[q]?=some k->x<k.1):stepLow x l=some a.2:=by
 unfold stepLow
 have hp:p<l.length:=(af.mp ha).1
 have e:l=l.take p++a::l.drop (p+1):=by
  have:=af.mp ha
  rw[<-this.2,<-List.drop_eq_getElem_cons hp,List.take_append_drop]
 rw[e,List.filter_append,bN,bA (by simpa using h1)]
 have:(l.drop (p+1)).filter (fun k=>decide (k.1≤x))=[]:=by
  rw[List.filter_eq_nil_iff]
  intro k hk
  obtain⟨j,hj,e⟩:=List.mem_iff_getElem.mp hk
  have:l[p+1+j]?=some k:=by rw[<-List.getElem?_drop,<-e];exact ah hj
  have:=h2 _ k (by omega) this
  simp;omega
 rw[this]
 simp
theorem Ou{x:Int}{l:List Knot}(h:∀k∈l,k.1<x):stepHigh x l=none:=by
 unfold stepHigh
 have:l.filter (fun k=>decide (x≤k.1))=[]:=by
  rw[List.filter_eq_nil_iff]
  intro k hk
  have:=h k hk
  simp;omega
 rw[this];rfl
theorem Ov{x:Int}{l:List Knot}{p:Nat}{a:Knot}(ha:l[p]?=some a)(h1:x≤a.1)(h2:∀q k,q<p->l[q]?=some k->k.1<x):stepHigh x l=some a.2:=by
 unfold stepHigh
 have hp:p<l.length:=(af.mp ha).1
 have e:l=l.take p++a::l.drop (p+1):=by
  have:=af.mp ha
  rw[<-this.2,<-List.drop_eq_getElem_cons hp,List.take_append_drop]
 rw[e,List.filter_append]
 have:(l.take p).filter (fun k=>decide (x≤k.1))=[]:=by
  rw[List.filter_eq_nil_iff]
  intro k hk
  obtain⟨j,hj,e⟩:=List.mem_iff_getElem.mp hk
  rw[aJ]at hj
  have:l[j]?=some k:=by
   rw[<-e,List.getElem_take];exact ah _
  have:=h2 _ k (by omega) this
  simp;omega
 rw[this,bN,bA (by simpa using h1)]
 rfl
structure Sz(n d:Nat)(f:Frac):Prop where
 num:f.num.natAbs<2^n
 den:f.den<2^d
theorem Sz.mono{n d n' d':Nat}{f:Frac}(h:Sz n d f)(h1:n≤n')(h2:d≤d'):Sz n' d' f:=
 ⟨aM h.num (Nat.pow_le_pow_right (by decide) h1),aM h.den (Nat.pow_le_pow_right (by decide) h2)⟩
theorem oF{n:Int}{d a b:Nat}(hd:0<d)(h1:n.natAbs<2^a)(h2:d<2^b):Sz a b (lowest n d):=by
 have g:=AX (n:=n) hd
 have hn:=zQ (n:=n) hd
 have hd':=zR (n:=n) hd
 constructor
 ·have:=congrArg Int.natAbs hn
  rw[Int.natAbs_mul,br]at this
  have:=Nat.le_mul_of_pos_right (lowest n d).num.natAbs g
  omega
 ·have:=Nat.le_mul_of_pos_right (lowest n d).den g
  omega
theorem gH{x y a b:Nat}(h1:x<2^a)(h2:y<2^b):x*y<2^(a+b):=by
 rw[Nat.pow_add]
 exact Nat.mul_lt_mul_of_lt_of_le h1 (Nat.le_of_lt h2) (Nat.two_pow_pos b)
theorem LL{x y a b:Nat}(h1:x<2^a)(h2:y<2^b):x+y<2^(max a b+1):=by
 have k1:2^a≤2^(max a b):=Nat.pow_le_pow_right (by decide) (by omega)
 have k2:2^b≤2^(max a b):=Nat.pow_le_pow_right (by decide) (by omega)
 rw[Nat.pow_succ];omega
theorem Iu{a b c d:Nat}{x y:Frac}(ox:Ok x)(oy:Ok y)(hx:Sz a b x)(hy:Sz c d y):Sz (max (a+d) (c+b)+1) (b+d) (plus x y):=by
 refine oF (Nat.mul_pos ox.pos oy.pos) ?_ (gH hx.den hy.den)
 have h:=Int.natAbs_add_le (x.num*(y.den:Int)) (y.num*(x.den:Int))
 rw[Int.natAbs_mul,Int.natAbs_mul,br,br]at h
 exact bY h (LL (gH hx.num hy.den) (gH hy.num hx.den))
theorem vI(a b:Int):(a-b).natAbs≤a.natAbs+b.natAbs:=by omega
theorem iP{a b c d:Nat}{x y:Frac}(ox:Ok x)(oy:Ok y)(hx:Sz a b x)(hy:Sz c d y):Sz (max (a+d) (c+b)+1) (b+d) (minus x y):=by
 refine oF (Nat.mul_pos ox.pos oy.pos) ?_ (gH hx.den hy.den)
 have h:=vI (x.num*(y.den:Int)) (y.num*(x.den:Int))
 rw[Int.natAbs_mul,Int.natAbs_mul,br,br]at h
 exact bY h (LL (gH hx.num hy.den) (gH hy.num hx.den))
theorem lJ{a b c d:Nat}{x y:Frac}(ox:Ok x)(oy:Ok y)(hx:Sz a b x)(hy:Sz c d y):Sz (a+c) (b+d) (times x y):=by
 refine oF (Nat.mul_pos ox.pos oy.pos) ?_ (gH hx.den hy.den)
 rw[Int.natAbs_mul]
 exact gH hx.num hy.num
theorem Iv{a b c d:Nat}{x y:Frac}(ox:Ok x)(hy0:0<y.num)(hx:Sz a b x)(hy:Sz c d y):Sz (a+d) (b+c) (over x y):=by
 refine oF (Nat.mul_pos ox.pos (by omega)) ?_ (gH hx.den hy.num)
 rw[Int.natAbs_mul,br]
 exact gH hx.num hy.den
theorem jc{n:Int}{a:Nat}(h:n.natAbs<2^a):Sz a 1 (whole n):=⟨h,by show 1<2^1;decide⟩
theorem oY(l:List Frac)(x:Frac):total (l++[x])=plus (total l) x:=by unfold total;rw[List.foldl_append];rfl
theorem EI{l:List Frac}(h:∀x∈l,Ok x):Ok (total l):=by
 revert h
 refine snoc_ind (P:=fun l=>(∀x∈l,Ok x)->Ok (total l)) (fun _=>cQ 0) ?_ l
 intro l a ih h
 rw[oY]
 exact D5 (ih fun x hx=>h x (by simp[hx])) (h a (by simp))
theorem J5{a b:Nat}{l:List Frac}(h:∀x∈l,Ok x)(hs:∀x∈l,Sz a b x):Sz (a+1+l.length*(b+1)) (1+l.length*b) (total l):=by
 revert h hs
 refine snoc_ind (P:=fun l=>(∀x∈l,Ok x)->(∀x∈l,Sz a b x)->Sz (a+1+l.length*(b+1)) (1+l.length*b) (total l)) (fun _ _=>?_) ?_ l
 ·exact(jc (n:=0) (a:=0) (by decide)).mono (by omega) (by omega)
 ·intro l x ih h hs
  rw[oY]
  have k1:=ih (fun y hy=>h y (by simp[hy])) (fun y hy=>hs y (by simp[hy]))
  have k2:=Iu (EI fun y hy=>h y (by simp[hy])) (h x (by simp)) k1 (hs x (by simp))
  refine k2.mono ?_ ?_
  ·rw[ao,List.length_singleton,Nat.add_mul,Nat.one_mul]
   have:l.length*b≤l.length*(b+1):=Nat.mul_le_mul_left _ (by omega)
   omega
  ·rw[ao,List.length_singleton,Nat.add_mul,Nat.one_mul]
   omega
structure J6(p:Point):Prop where
 d0:0≤p.dose
 d1:p.dose≤1000000
 r0: -1000000≤p.response
 r1:p.response≤1000000
 w0:1≤p.weight
 w1:p.weight≤1000
 b0:0≤p.bound
 b1:p.bound≤1000000
theorem d9(x lo hi:Int):inside x lo hi=true↔lo≤x/\x≤hi:=by unfold inside;simp
theorem CY(p:Point):okPoint p=true↔J6 p:=by
 unfold okPoint okResponse
 simp only[aZ,d9,DOSE,RESPONSE,WEIGHT]
 constructor
 ·rintro⟨⟨h1,h2⟩,⟨h3,h4⟩,⟨h5,h6⟩,h7,h8⟩
  exact⟨h1,h2,h3,h4,h5,h6,h7,h8⟩
 ·intro h
  exact⟨⟨h.d0,h.d1⟩,⟨h.r0,h.r1⟩,⟨h.w0,h.w1⟩,h.b0,h.b1⟩
structure eF(ps:List Point):Prop where
 all:∀p∈ps,J6 p
 len:ps.length≤40
theorem eF.pos{ps:List Point}(h:eF ps):∀p∈ps,0<p.weight:=fun p hp=>by have:=(h.all p hp).w0;omega
theorem zY{f:Point->Int}{m:Int}:∀{ps:List Point},(∀p∈ps,f p≤m)->iK (ps.map f)≤m*ps.length
 |[],_=>by simp[iK]
 |p::ps,h=>by
  have ih:=zY (f:=f) (m:=m) (ps:=ps) fun q hq=>h q (au _ hq)
  have:=h p aH
  simp only[aL,gW,aj]
  have e:m*((ps.length+1:Nat):Int)=m*(ps.length:Int)+m:=by
   rw[Int.natCast_add,Int.mul_add];omega
  omega
theorem J6.abs{p:Point}(h:J6 p):((p.weight*p.response).natAbs:Int)≤1000000000:=by
 rw[Int.natAbs_mul]
 have h1:p.weight.natAbs≤1000:=by have:=h.w0;have:=h.w1;omega
 have h2:p.response.natAbs≤1000000:=by have:=h.r0;have:=h.r1;omega
 have:=Nat.mul_le_mul h1 h2
 omega
theorem eF.weight{ps:List Point}(h:eF ps):iK ((heaps ps).map (·.weight))≤40000:=by
 rw[Il]
 have:=zY (f:=fun p=>p.weight) (m:=1000) (ps:=ps) fun p hp=>(h.all p hp).w1
 have:=h.len
 omega
theorem eF.abs{ps:List Point}(h:eF ps):iK ((heaps ps).map fun x=>(x.sum.natAbs:Int))≤40000000000:=by
 have h1:=Om ps
 have h2:=zY (f:=fun p=>((p.weight*p.response).natAbs:Int)) (m:=1000000000) (ps:=ps) fun p hp=>(h.all p hp).abs
 have:=h.len
 omega
structure sA(b:Block):Prop where
 w0:0<b.weight
 w1:b.weight≤40000
 s0: -40000000000≤b.sum
 s1:b.sum≤40000000000
 d0:0<b.doses
 d1:b.doses≤40
theorem eF.part{ps:List Point}(h:eF ps){pre:List Heap}{post:List Heap}{bs:List Block}(e:heaps ps=pre++post)(hp:Part pre bs):∀b∈bs,sA b:=by
 intro b hb
 have h0:=xZ h.pos
 rw[e]at h0
 have hw:=h.weight
 have ha:=h.abs
 have hl:=fh ps
 have hl':=h.len
 rw[e]at hw ha hl
 have k:=x6 hp (fun x hx=>h0 x (by simp[hx])) b hb
 have n1:0≤iK (post.map (·.weight)):=lu (by
  intro x hx
  obtain⟨y,hm,e⟩:=aQ.mp hx
  have:=h0 y (by simp[hm]);omega)
 have n2:0≤iK (post.map fun x=>(x.sum.natAbs:Int)):=lu (by
  intro x hx
  obtain⟨y,hm,e⟩:=aQ.mp hx
  omega)
 simp only[ay,jt,ao]at hw ha hl
 refine⟨?_,?_,?_,?_,?_,?_⟩ <;> omega
theorem eF.blocks{ps:List Point}(h:eF ps):∀b∈blocks ps,sA b:=h.part (post:=[]) (by simp) (jv ps)
theorem A2:∀(hs:List Heap),Part hs (hs.map single)
 |[]=>.nil
 |h::hs=>Part.cons (g:=[h]) (zS h) (A2 hs)
theorem eF.tR{ps:List Point}(h:eF ps):∀x∈heaps ps,sA (single x):=fun x hx=>h.part (post:=[]) (by simp) (A2 (heaps ps)) _ (List.mem_map_of_mem hx)
theorem sA.Sf{b:Block}(h:sA b):Sz 36 16 (mean b):=by
 have:=h.w0;have:=h.w1;have:=h.s0;have:=h.s1
 exact oF (by omega) (by omega) (by omega)
theorem eF.gA{ps:List Point}(h:eF ps):∀f∈dh (Vblaaf.blocks ps),Ok f/\Sz 36 16 f:=by
 intro f hf
 obtain⟨b,hb,hf⟩:=List.mem_flatMap.mp hf
 rw[List.mem_replicate]at hf
 rw[hf.2]
 exact⟨D6 (h.blocks b hb).w0,(h.blocks b hb).Sf⟩
def LM(x:Heap×Frac):Frac:=minus (whole x.1.sum) (times (whole x.1.weight) x.2)
def terms(ps:List Point):List Frac:=((heaps ps).zip (dh (blocks ps))).map LM
theorem CZ:∀(hs:List Heap)(fs:List Frac),(hs.zip ((hs.map (·.dose)).zip fs)).map (fun x=>minus (whole x.1.sum) (times (whole x.1.weight) x.2.2))=(hs.zip fs).map LM
 |[],_=>rfl
 |h::hs,[]=>by simp
 |h::hs,f::fs=>by
  simp only[aL,List.zip_cons_cons]
  rw[CZ hs fs];rfl
theorem EJ(ps:List Point):above ps=(List.range (heaps ps).length).map fun i=>total ((terms ps).take (i+1)):=by
 unfold above
 refine List.map_congr_left fun i _=>?_
 rw[List.map_take,oE,CZ]
 rfl
theorem Iw(ps:List Point):(terms ps).length=(heaps ps).length:=by
 unfold terms;simp[eO]
theorem eF.terms{ps:List Point}(h:eF ps):∀x∈terms ps,Ok x/\Sz 70 20 x:=by
 intro x hx
 obtain⟨y,hy,e⟩:=aQ.mp hx
 subst e
 have h1:=(List.of_mem_zip (a:=y.1) (b:=y.2) hy).1
 have h2:=(List.of_mem_zip (a:=y.1) (b:=y.2) hy).2
 obtain⟨o,s⟩:=h.gA y.2 h2
 have g:=h.tR y.1 h1
 have w0:0<y.1.weight:=g.w0
 have w1:y.1.weight≤40000:=g.w1
 have s0: -40000000000≤y.1.sum:=g.s0
 have s1:y.1.sum≤40000000000:=g.s1
 have k1:Sz 36 1 (whole y.1.sum):=jc (by omega)
 have k2:Sz 16 1 (whole y.1.weight):=jc (by omega)
 have k3:=lJ (cQ _) o k2 s
 exact⟨dS (cQ _) (gM (cQ _) o),(iP (cQ _) (gM (cQ _) o) k1 k3).mono (by omega) (by omega)⟩
theorem di{α:Type}{l:List α}{i:Nat}{x:α}(h:l[i]?=some x):l.take (i+1)=l.take i++[x]:=by
 rw[List.take_add_one,h];rfl
def vJ(w r:Int)(f:Frac):Frac:=times (whole w) (times (minus (whole r) f) (minus (whole r) f))
theorem J7{d:Int}:∀{ds:List Int}{fs:List Frac}{i:Nat}{f:Frac},ds.Nodup->ds[i]?=some d->fs[i]?=some f->(ds.zip fs).find? (fun k=>k.1==d)=some (d,f)
 |[],_,i,_,_,h,_=>by simp at h
 |a::ds,[],i,_,_,_,h=>by simp at h
 |a::ds,g::fs,0,f,_,h1,h2=>by
  have e1:a=d:=by simpa using h1
  have e2:g=f:=by simpa using h2
  subst e1 e2
  simp
 |a::ds,g::fs,i+1,f,hn,h1,h2=>by
  have Rx:ds[i]?=some d:=by simpa using h1
  have h2':fs[i]?=some f:=by simpa using h2
  obtain⟨n1,n2⟩:=bQ.mp hn
  have ne:a≠d:=fun e=>n1 (e▸ak Rx)
  have:(a==d)=false:=by simpa using ne
  rw[List.zip_cons_cons,List.find?_cons]
  simp only[this]
  exact J7 n2 Rx h2'
theorem C0(ps:List Point):((heaps ps).map (·.dose)).Nodup:=by
 have h:((heaps ps).map (·.dose)).Pairwise (· < ·):=List.pairwise_map.mpr (kP ps)
 exact h.imp fun hab e=>by omega
def gX(ps:List Point)(ds:List Int)(fs:List Frac):List Frac:=ps.map fun p=>match (ds.zip fs).find? fun k=>k.1==p.dose with
 |none=>whole 0
 |some k=>vJ p.weight p.response k.2
theorem yD(ps:List Point)(ds:List Int)(fs:List Frac):squaresBy ps (ds.zip fs)=total (gX ps ds fs):=rfl
theorem EK{ps:List Point}{p:Point}{ds:List Int}{fs:List Frac}{i:Nat}{f:Frac}(hn:ds.Nodup)(h1:ds[i]?=some p.dose)(h2:fs[i]?=some f):
  gX (ps++[p]) ds fs=gX ps ds fs++[vJ p.weight p.response f]:=by
 unfold gX
 rw[ay]
 simp only[aL,bV,J7 hn h1 h2]
theorem C1{w r:Int}{f:Frac}(h:Ok f):Ok (vJ w r f):=gM (cQ _) (gM (dS (cQ _) h) (dS (cQ _) h))
theorem C2{w r:Int}{f:Frac}(h:Ok f)(s:Sz 36 16 f)(hw:w.natAbs<2^10)(hr:r.natAbs<2^20):Sz 100 40 (vJ w r f):=by
 have k1:=iP (cQ r) h (jc hr) s
 have k2:=lJ (dS (cQ r) h) (dS (cQ r) h) k1 k1
 exact(lJ (cQ w) (gM (dS (cQ r) h) (dS (cQ r) h)) (jc hw) k2).mono (by omega) (by omega)
theorem Iz(hs:List Heap)(vs:List Int):((hs.zip vs).map fun x=>(x.1.dose,whole x.2))=(hs.map (·.dose)).zip (vs.map whole):=by
 induction hs generalizing vs with
 |nil=>rfl
 |cons h hs ih=>cases vs with
  |nil=>rfl
  |cons v vs=>simp[ih]
theorem tS:∀(l:List Int),isRising l=true↔ ∀(i:Nat)(a b:Int),l[i]?=some a->l[i+1]?=some b->a≤b
 |[]=>by simp[isRising]
 |[a]=>by
  simp only[isRising,true_iff]
  intro i x y _ h;simp at h
 |a::b::l=>by
  unfold isRising
  rw[aZ,decide_eq_true_iff,tS (b::l)]
  constructor
  ·rintro⟨h1,h2⟩ i x y hx hy
   cases i with
   |zero=>
    have ex:a=x:=by simpa using hx
    have ey:b=y:=by simpa using hy
    omega
   |succ i=>exact h2 i x y (by simpa using hx) (by simpa using hy)
  ·intro h
   refine⟨h 0 a b rfl rfl,fun i x y hx hy=>h (i+1) x y (by simpa using hx) (by simpa using hy)⟩
theorem oZ:∀(l:List Int)(a:Int),(l.foldl max a=a∨l.foldl max a∈l)/\a≤l.foldl max a/\ ∀x∈l,x≤l.foldl max a
 |[],a=>by simp
 |b::l,a=>by
  obtain⟨h1,h2,h3⟩:=oZ l (max a b)
  rw[bU]
  refine⟨?_,by omega,?_⟩
  ·rcases h1 with e | e
   ·rw[e]
    rcases Int.le_total a b with h | h
    ·right;rw[Int.max_eq_right h];simp
    ·left;rw[Int.max_eq_left h]
   ·right;simp[e]
  ·intro x hx
   rcases aB.mp hx with e | e
   ·subst e;omega
   ·exact h3 x e
theorem o5:∀(l:List Int)(a:Int),(l.foldl min a=a∨l.foldl min a∈l)/\l.foldl min a≤a/\ ∀x∈l,l.foldl min a≤x
 |[],a=>by simp
 |b::l,a=>by
  obtain⟨h1,h2,h3⟩:=o5 l (min a b)
  rw[bU]
  refine⟨?_,by omega,?_⟩
  ·rcases h1 with e | e
   ·rw[e]
    rcases Int.le_total a b with h | h
    ·left;rw[Int.min_eq_left h]
    ·right;rw[Int.min_eq_right h];simp
   ·right;simp[e]
  ·intro x hx
   rcases aB.mp hx with e | e
   ·subst e;omega
   ·exact h3 x e
theorem C3{l:List Int}{m:Int}(hm:m∈l)(h:∀x∈l,x≤m):greatestOf l=some m:=by
 cases l with
 |nil=>cases hm
 |cons a l=>
  obtain⟨h1,h2,h3⟩:=oZ l a
  show some (l.foldl max a)=some m
  have k1:l.foldl max a∈a::l:=by
   rcases h1 with e | e
   ·rw[e];simp
   ·simp[e]
  have k2:=h _ k1
  have k3:m≤l.foldl max a:=by
   rcases aB.mp hm with e | e
   ·subst e;exact h2
   ·exact h3 m e
  rw[Int.le_antisymm k2 k3]
theorem J8{l:List Int}{m:Int}(hm:m∈l)(h:∀x∈l,m≤x):leastOf l=some m:=by
 cases l with
 |nil=>cases hm
 |cons a l=>
  obtain⟨h1,h2,h3⟩:=o5 l a
  show some (l.foldl min a)=some m
  have k1:l.foldl min a∈a::l:=by
   rcases h1 with e | e
   ·rw[e];simp
   ·simp[e]
  have k2:=h _ k1
  have k3:l.foldl min a≤m:=by
   rcases aB.mp hm with e | e
   ·subst e;exact h2
   ·exact h3 m e
  rw[Int.le_antisymm k3 k2]
theorem P0(c:List (List Int)):PyVblaaf.whole c=c:=by
 unfold PyVblaaf.whole
 split <;> rfl
theorem G6(cs:List (List (List Int))):cs.map PyVblaaf.whole=cs:=by
 have:PyVblaaf.whole=id:=funext P0
 rw[this,List.map_id]
theorem LN{f:Nat}{p:Int}{r:List Int}{cs:List (List (List Int))}(h:PyFlat.calls PyVblaaf.shape f (p::r)=some cs):
  ∃f' c t cs',PyFlat.call PyVblaaf.shape (p::r)=some (c,t)/\PyFlat.calls PyVblaaf.shape f' t=some cs'/\cs=c::cs':=by
 cases f with
 |zero=>simp[PyFlat.calls]at h
 |succ f=>
  unfold PyFlat.calls at h
  split at h
  ·cases h
  ·rename_i c t hc
   split at h
   ·cases h
   ·rename_i cs' hcs
    exact⟨f,c,t,cs',hc,hcs,by simpa using h.symm⟩
theorem Ow{f:Nat}{cs:List (List (List Int))}(h:PyFlat.calls PyVblaaf.shape f []=some cs):cs=[]:=by
 cases f <;> simpa [PyFlat.calls] using h.symm
inductive Head:List Int->Int->List (List Int)->List Int->Prop
 |plain {p:Int} {n:Nat} {r:List Int}:PyVblaaf.shape p=some (n,0)->n≤r.length->Head (p::r) p [p::r.take n] (r.drop n)
 |trial {a m:Int} {r:List Int}:0≤m->m.toNat≤r.length->Head (8::a::m::r) 8 [[8,a],r.take m.toNat] (r.drop m.toNat)
theorem dM{c:Prop} [Decidable c] {x y:Option (Nat×Nat)}{z:Nat×Nat}(h:(if c then x else y)=some z):(c/\x=some z)∨(¬c/\y=some z):=by
 by_cases e:c
 ·rw[bA e]at h;exact .inl ⟨e,h⟩
 ·rw[bz e]at h;exact .inr ⟨e,h⟩
theorem Ox{p:Int}{n k:Nat}(h:PyVblaaf.shape p=some (n,k)):k=0∨(p=8/\n=1/\k=1):=by
 unfold PyVblaaf.shape at h
 rcases dM h with ⟨e,h'⟩ | ⟨_,h⟩
 ·cases h';exact Or.inl rfl
 rcases dM h with ⟨e,h'⟩ | ⟨_,h⟩
 ·cases h';exact Or.inl rfl
 rcases dM h with ⟨e,h'⟩ | ⟨_,h⟩
 ·cases h';exact Or.inl rfl
 rcases dM h with ⟨e,h'⟩ | ⟨_,h⟩
 ·cases h';exact Or.inl rfl
 rcases dM h with ⟨e,h'⟩ | ⟨_,h⟩
 ·cases h';exact Or.inl rfl
 rcases dM h with ⟨e,h'⟩ | ⟨_,h⟩
 ·cases h';exact Or.inl rfl
 rcases dM h with ⟨e,h'⟩ | ⟨_,h⟩
 ·cases h';exact Or.inl rfl
 rcases dM h with ⟨e,h'⟩ | ⟨_,h⟩
 ·cases h';exact Or.inl rfl
 rcases dM h with ⟨e,h'⟩ | ⟨_,h⟩
 ·cases h';exact Or.inr ⟨e,rfl,rfl⟩
 rcases dM h with ⟨e,h'⟩ | ⟨_,h⟩
 ·cases h';exact Or.inl rfl
 rcases dM h with ⟨e,h'⟩ | ⟨_,h⟩
 ·cases h';exact Or.inl rfl
 rcases dM h with ⟨e,h'⟩ | ⟨_,h⟩
 ·cases h';exact Or.inl rfl
 rcases dM h with ⟨e,h'⟩ | ⟨_,h⟩
 ·cases h';exact Or.inl rfl
 rcases dM h with ⟨e,h'⟩ | ⟨_,h⟩
 ·cases h';exact Or.inl rfl
 rcases dM h with ⟨e,h'⟩ | ⟨_,h⟩
 ·cases h';exact Or.inl rfl
 rcases dM h with ⟨e,h'⟩ | ⟨_,h⟩
 ·cases h';exact Or.inl rfl
 rcases dM h with ⟨e,h'⟩ | ⟨_,h⟩
 ·cases h';exact Or.inl rfl
 rcases dM h with ⟨e,h'⟩ | ⟨_,h⟩
 ·cases h';exact Or.inl rfl
 rcases dM h with ⟨e,h'⟩ | ⟨_,h⟩
 ·cases h';exact Or.inl rfl
 rcases dM h with ⟨e,h'⟩ | ⟨_,h⟩
 ·cases h';exact Or.inl rfl
 rcases dM h with ⟨e,h'⟩ | ⟨_,h⟩
 ·cases h';exact Or.inl rfl
 rcases dM h with ⟨e,h'⟩ | ⟨_,h⟩
 ·cases h';exact Or.inl rfl
 rcases dM h with ⟨e,h'⟩ | ⟨_,h⟩
 ·cases h';exact Or.inl rfl
 rcases dM h with ⟨e,h'⟩ | ⟨_,h⟩
 ·cases h';exact Or.inl rfl
 rcases dM h with ⟨e,h'⟩ | ⟨_,h⟩
 ·cases h';exact Or.inl rfl
 cases h
theorem Sg{p:Int}{r:List Int}{c:List (List Int)}{t:List Int}(h:PyFlat.call PyVblaaf.shape (p::r)=some (c,t)):Head (p::r) p c t:=by
 simp only[PyFlat.call]at h
 cases hs:PyVblaaf.shape p with
 |none=>rw[hs]at h;cases h
 |some nk=>
  obtain⟨n,k⟩:=nk
  rw[hs]at h
  simp only[]at h
  by_cases hl:r.length<n
  ·rw[bA hl]at h;cases h
  ·rw[bz hl]at h
   rcases Ox hs with e | ⟨e1,e2,e3⟩
   ·subst e
    simp only[PyFlat.rows]at h
    injection h with h
    injection h with h1 h2
    subst h1 h2
    exact .plain hs (by omega)
   ·subst e1 e2 e3
    cases r with
    |nil=>simp at hl
    |cons a r=>
     simp only[List.drop_succ_cons,List.drop_zero,List.take_succ_cons,List.take_zero]at h
     cases r with
     |nil=>simp[PyFlat.rows,PyFlat.row]at h
     |cons m r=>
      simp only[PyFlat.rows,PyFlat.row]at h
      by_cases hm:0≤m/\m.toNat≤r.length
      ·rw[bA hm]at h
       simp only[]at h
       injection h with h
       injection h with h1 h2
       subst h1 h2
       exact .trial hm.1 hm.2
      ·rw[bz hm]at h
       simp at h
theorem LO{l:List Int}{cs:List (List (List Int))}(h:PyFlat.calls PyVblaaf.shape l.length l=some cs):PyVblaaf.answers l=PyFlat.told (PyFlat.played VblaafNeutral.step VblaafNeutral.start cs):=by
 unfold PyVblaaf.answers PyVblaaf.calls
 rw[h]
 simp only[]
 rw[G6]
theorem P1{l:List Int}(h:PyVblaaf.answers_asked l=true):∃cs,PyFlat.calls PyVblaaf.shape l.length l=some cs/\cs.length≤400/\ ∀c∈cs,VblaafNeutral.asked1 c=true:=by
 unfold PyVblaaf.answers_asked PyVblaaf.calls at h
 cases hc:PyFlat.calls PyVblaaf.shape l.length l with
 |none=>rw[hc]at h;cases h
 |some cs=>
  rw[hc]at h
  simp only[]at h
  rw[G6]at h
  unfold PyFlat.atMost VblaafNeutral.asked at h
  simp only[aZ,decide_eq_true_iff,List.all_eq_true]at h
  exact⟨cs,rfl,h.1,h.2.2.2⟩
theorem Oz(a:List Int)(l:List (List Int)):PyFlat.told (a::l)=(a.length:Int)::a++PyFlat.told l:=by
 unfold PyFlat.told;rw[List.flatMap_cons]
theorem J9{S:Type}(step:S->List (List Int)->S×List Int)(s:S)(c:List (List Int))(r:List (List (List Int))):
 PyFlat.played step s (c::r)=(step s c).2::PyFlat.played step (step s c).1 r:=rfl
def Cl(p q:Point):Prop:=p.dose≤q.dose/\q.response+q.bound<p.response-p.bound
def Wi(ps:List Point)(i j:Nat):Bool:=match ps[i]?,ps[j]? with
 |some p,some q=>decide (p.dose≤q.dose)&&decide (q.response+q.bound<p.response-p.bound)
 |_,_=>false
theorem G7(ps:List Point):clash ps=(List.range ps.length).findSome? fun i=>((List.range ps.length).find? fun j=>Wi ps i j).map fun j=>(i,j):=rfl
theorem Ng{ps:List Point}{i j:Nat}:Wi ps i j=true↔ ∃p q,ps[i]?=some p/\ps[j]?=some q/\Cl p q:=by
 unfold Wi Cl
 cases hp:ps[i]? with
 |none=>simp
 |some p=>cases hq:ps[j]? with
  |none=>simp
  |some q=>simp
theorem B7{ps:List Point}{i j:Nat}(h:∀p q,ps[i]?=some p->ps[j]?=some q-> ¬Cl p q):Wi ps i j=false:=by
 cases e:Wi ps i j with
 |false=>rfl
 |true=>obtain⟨p,q,h1,h2,h3⟩:=Ng.mp e;exact absurd h3 (h p q h1 h2)
theorem EL{α:Type}{f:Nat->Option α}{n i:Nat}{x:α}(hi:i<n)(h:f i=some x)(h0:∀j,j<i->f j=none):(List.range n).findSome? f=some x:=by
 rw[List.findSome?_eq_some_iff]
 refine⟨List.range i,i,(List.range n).drop (i+1),?_,h,fun j hj=>h0 j (List.mem_range.mp hj)⟩
 have hl:i<(List.range n).length:=by simpa using hi
 have e1:=(List.take_append_drop i (List.range n)).symm
 rw[List.drop_eq_getElem_cons hl,List.take_range,List.getElem_range]at e1
 have:min i n=i:=by omega
 rw[this]at e1
 exact e1
theorem LP{f:Nat->Bool}{n i:Nat}(hi:i<n)(h:f i=true)(h0:∀j,j<i->f j=false):(List.range n).find? f=some i:=by
 rw[List.find?_range_eq_some]
 exact⟨h,List.mem_range.mpr hi,fun j hj=>by rw[h0 j hj];rfl⟩
theorem uG{f:Nat->Bool}{n:Nat}(h0:∀j,j<n->f j=false):(List.range n).find? f=none:=by
 rw[List.find?_eq_none]
 intro j hj
 rw[h0 j (List.mem_range.mp hj)];decide
theorem LQ{ps:List Point}(h:∀p∈ps,∀q∈ps,¬Cl p q):clash ps=none:=by
 rw[G7,List.findSome?_eq_none_iff]
 intro i _
 rw[uG];rfl
 intro j _
 exact B7 fun p q hp hq=>h p (ak hp) q (ak hq)
theorem LR{ps:List Point}{i j:Nat}{p q:Point}(hp:ps[i]?=some p)(hq:ps[j]?=some q)(h:Cl p q)
  (h1:∀(i' j':Nat)(p' q':Point),i'<i->ps[i']?=some p'->ps[j']?=some q'-> ¬Cl p' q')(h2:∀(j':Nat)(q':Point),j'<j->ps[j']?=some q'-> ¬Cl p q'):clash ps=some (i,j):=by
 have hi:i<ps.length:=(af.mp hp).1
 have hj:j<ps.length:=(af.mp hq).1
 rw[G7]
 refine EL hi ?_ ?_
 ·rw[LP hj (Ng.mpr ⟨p,q,hp,hq,h⟩)];rfl
  intro j' hj'
  exact B7 fun p' q' qP hq'=>by
   rw[hp]at qP;cases qP
   exact h2 j' q' hj' hq'
 ·intro i' hi'
  rw[uG];rfl
  intro j' _
  exact B7 fun p' q' qP hq'=>h1 i' j' p' q' hi' qP hq'
theorem Gm{l:List Int}{m:Int}(h:greatestOf l=some m):m∈l/\ ∀x∈l,x≤m:=by
 cases l with
 |nil=>cases h
 |cons a l=>
  have h:l.foldl max a=m:=az h
  obtain⟨h1,h2,h3⟩:=oZ l a
  rw[h]at h1 h2 h3
  refine⟨?_,?_⟩
  ·rcases h1 with e | e
   ·rw[e];simp
   ·simp[e]
  ·intro x hx
   rcases aB.mp hx with e | e
   ·subst e;exact h2
   ·exact h3 x e
theorem LS{l:List Int}{m:Int}(h:leastOf l=some m):m∈l/\ ∀x∈l,m≤x:=by
 cases l with
 |nil=>cases h
 |cons a l=>
  have h:l.foldl min a=m:=az h
  obtain⟨h1,h2,h3⟩:=o5 l a
  rw[h]at h1 h2 h3
  refine⟨?_,?_⟩
  ·rcases h1 with e | e
   ·rw[e];simp
   ·simp[e]
  ·intro x hx
   rcases aB.mp hx with e | e
   ·subst e;exact h2
   ·exact h3 x e
def zZ(ps:List Point)(lo:Int):Int:=(greatestOf ((ps.filter fun p=>decide (p.response+p.bound<lo)).map fun p=>p.dose+1)).getD 0
def z4(ps:List Point)(hi:Int):Int:=(leastOf ((ps.filter fun p=>decide (hi<p.response-p.bound)).map fun p=>p.dose-1)).getD DOSE
theorem IA(ps:List Point)(lo hi:Int):doseRange ps lo hi=if zZ ps lo≤z4 ps hi/\zZ ps lo≤DOSE/\0≤z4 ps hi then some (max (zZ ps lo) 0,min (z4 ps hi) DOSE) else none:=rfl
theorem vK{x:Frac}(hx:Ok x):∀{l:List Knot}{v:Frac},Kn l->valueAt x l=some v->Ok v
 |[],v,_,h=>by cases h
 |[a],v,hk,h=>by
  unfold valueAt at h
  split at h
  ·rw[<-az h];exact hk.ok a (by simp)
  ·cases h
 |a::b::l,v,hk,h=>by
  unfold valueAt at h
  split at h
  ·cases h
  ·split at h
   ·rw[<-az h];exact tQ (hk.ok a (by simp)) (hk.ok b (by simp)) hx (hk.lt (by simp))
   ·exact vK hx hk.tail h
theorem vL{x:Frac}(hx:Ok x):∀{l:List Knot}{a z:Knot},Kn l->l.head?=some a->l.getLast?=some z->((valueAt x l).isSome=true↔less x (whole a.1)=false/\less (whole z.1) x=false)
 |[],a,z,_,h,_=>by cases h
 |[c],a,z,hk,h1,h2=>by
  have e1:c=a:=by simpa using h1
  have e2:c=z:=by simpa using h2
  subst e1 e2
  unfold valueAt
  split
  ·rename_i e;subst e;simp[jy]
  ·rename_i e
   simp only[Option.isSome_none,bq,false_iff]
   intro h
   exact e (iO hx (cQ _) h.1 h.2)
 |c::d::l,a,z,hk,h1,h2=>by
  have e1:c=a:=by simpa using h1
  subst e1
  have h2':(d::l).getLast?=some z:=by simpa [List.getLast?_cons] using h2
  have hdz:less (whole z.1) (whole d.1)=false:=by
   rw[fB]
   have hm:=List.mem_of_getLast? h2'
   rcases aB.mp hm with e | e
   ·rw[e];simp
   ·have:=hk.tail.lt e
    exact aW (by omega)
  unfold valueAt
  cases hc:less x (whole c.1)with
  |true=>simp
  |false=>
   rw[bz (by decide),fz]
   cases hd:less (whole d.1) x with
   |false=>
    simp only[Bool.not_false,if_true,Option.isSome_some,true_and,true_iff]
    cases hz:less (whole z.1) x with
    |false=>rfl
    |true=>
     have:=lt_of_le_of_lt (cQ z.1) (cQ d.1) hx hdz hz
     rw[this]at hd;cases hd
   |true=>
    simp only[Bool.not_true,bq,if_false,true_and]
    rw[vL hx hk.tail (a:=d) rfl h2']
    have:less x (whole d.1)=false:=iu hd
    rw[this];simp
def ki(a b:List Knot)(x:Int):Option Frac:=match valueAt (whole x) a,valueAt (whole x) b with
 |some u,some v=>some (size (minus u v))
 |_,_=>none
theorem Nh{x:Frac}(h:Ok x):Ok (size x):=⟨h.pos,by show Nat.gcd ((x.num.natAbs:Int)).natAbs x.den=1;rw[br];exact h.low⟩
theorem vM{a b:List Knot}(ha:Kn a)(hb:Kn b){x:Int}{d:Frac}(h:ki a b x=some d):Ok d:=by
 unfold ki at h
 split at h
 ·rename_i u v hu hv
  rw[<-az h]
  exact Nh (dS (vK (cQ _) ha hu) (vK (cQ _) hb hv))
 ·cases h
def qt(a b:List Knot)(best:Option (Frac×Int))(x:Int):Option (Frac×Int):=match ki a b x with
 |some d=>(match best with
  |none=>some (d,x)
  |some y=>if less y.1 d=true∨(y.1=d/\x<y.2) then some (d,x) else best)
 |none=>best
theorem vN(a b:List Knot):greatestGap a b=(common a b).foldl (qt a b) none:=by
 unfold greatestGap
 congr 1
 funext best x
 unfold qt ki
 cases valueAt (whole x) a with
 |none=>rfl
 |some u=>cases valueAt (whole x) b with
  |none=>rfl
  |some v=>rfl
structure o6(a b:List Knot)(S:List Int)(d:Frac)(x:Int):Prop where
 mem:x∈S
 at_:ki a b x=some d
 most:∀y∈S,∀e,ki a b y=some e->less d e=false
 least:∀y∈S,ki a b y=some d->x≤y
theorem o6.unique{a b:List Knot}(ha:Kn a)(hb:Kn b){S:List Int}{d e:Frac}{x y:Int}(h:o6 a b S d x)(h':o6 a b S e y):d=e/\x=y:=by
 have ed:d=e:=iO (vM ha hb h.at_) (vM ha hb h'.at_) (h.most y h'.mem e h'.at_) (h'.most x h.mem d h.at_)
 subst ed
 exact⟨rfl,Int.le_antisymm (h.least y h'.mem h'.at_) (h'.least x h.mem h.at_)⟩
theorem P4{a b:List Knot}(ha:Kn a)(hb:Kn b)(S:List Int):(∀x∈S,(ki a b x).isSome=true)->
  (S=[]/\S.foldl (qt a b) none=none)∨ ∃d x,S.foldl (qt a b) none=some (d,x)/\o6 a b S d x:=by
 refine snoc_ind (P:=fun S=>(∀x∈S,(ki a b x).isSome=true)->(S=[]/\S.foldl (qt a b) none=none)∨ ∃d x,S.foldl (qt a b) none=some (d,x)/\o6 a b S d x) (fun _=>.inl ⟨rfl,rfl⟩) ?_ S
 intro S z ih h
 refine .inr ?_
 obtain⟨e,he⟩:=Option.isSome_iff_exists.mp (h z (by simp))
 have ih':=ih fun x hx=>h x (by simp[hx])
 rw[List.foldl_append]
 rcases ih' with ⟨rfl,e0⟩ | ⟨d,x,e0,B⟩
 ·rw[e0]
  refine⟨e,z,?_,⟨by simp,he,fun y hy f hf=>?_,fun y hy _=>?_⟩⟩
  ·simp only[bU,List.foldl_nil];unfold qt;rw[he]
  ·have:y=z:=by simpa using hy
   subst this
   rw[he]at hf;cases hf;exact jy _
  ·have:y=z:=by simpa using hy
   omega
 ·rw[e0]
  simp only[bU,List.foldl_nil]
  unfold qt
  rw[he]
  simp only[]
  have od:=vM ha hb B.at_
  have oe:=vM ha hb he
  by_cases hc:less d e=true∨(d=e/\z<x)
  ·rw[bA hc]
   refine⟨e,z,rfl,⟨by simp,he,fun y hy f hf=>?_,fun y hy hy'=>?_⟩⟩
   ·rcases bh.mp hy with m | m
    ·have k:=B.most y m f hf
     rcases hc with c | ⟨c,_⟩
     ·cases hef:less e f with
      |false=>rfl
      |true=>rw[G4 oe od (vM ha hb hf) c hef]at k;cases k
     ·rw[<-c];exact k
    ·have:y=z:=by simpa using m
     subst this
     rw[he]at hf;cases hf;exact jy _
   ·rcases bh.mp hy with m | m
    ·rcases hc with c | ⟨c,hz⟩
     ·have k:=B.most y m e hy'
      rw[c]at k;cases k
     ·subst c
      have:=B.least y m hy'
      omega
    ·have:y=z:=by simpa using m
     omega
  ·rw[bz hc]
   have c1:less d e=false:=by
    cases hde:less d e with
    |false=>rfl
    |true=>exact absurd (Or.inl hde) hc
   refine⟨d,x,rfl,⟨by simp[B.mem],B.at_,fun y hy f hf=>?_,fun y hy hy'=>?_⟩⟩
   ·rcases bh.mp hy with m | m
    ·exact B.most y m f hf
    ·have:y=z:=by simpa using m
     subst this
     rw[he]at hf;cases hf;exact c1
   ·rcases bh.mp hy with m | m
    ·exact B.least y m hy'
    ·have:y=z:=by simpa using m
     subst this
     rw[he]at hy'
     have:e=d:=az hy'
     by_cases hz:y<x
     ·exact absurd (Or.inr ⟨this.symm,hz⟩) hc
     ·omega
theorem tT{a b:List Knot}{x:Int}:x∈common a b↔(x∈a.map (·.1)∨x∈b.map (·.1))/\(ki a b x).isSome=true:=by
 unfold common
 rw[bS,ay,bh,aZ]
 unfold ki
 cases valueAt (whole x) a with
 |none=>simp
 |some u=>cases valueAt (whole x) b with
  |none=>simp
  |some v=>simp
theorem P5{a b:List Knot}(ha:Kn a)(hb:Kn b){d:Frac}{x:Int}(h:o6 a b (common a b) d x):greatestGap a b=some (d,x):=by
 rw[vN]
 rcases P4 ha hb (common a b) (fun x hx=>(tT.mp hx).2)with ⟨e,_⟩ | ⟨d',x',e,B⟩
 ·have:=h.mem;rw[e]at this;cases this
 ·rw[e]
  obtain⟨e1,e2⟩:=B.unique ha hb h
  rw[e1,e2]
theorem P6{a b:List Knot}(h:∀x,x∈a.map (·.1)∨x∈b.map (·.1)->ki a b x=none):greatestGap a b=none:=by
 have e:common a b=[]:=by
  cases hc:common a b with
  |nil=>rfl
  |cons x l=>
   have hm:x∈common a b:=by rw[hc];simp
   have k:=tT.mp hm
   rw[h x k.1]at k
   cases k.2
 rw[vN,e];rfl
structure Ry(k:Knot):Prop where
 ok:Ok k.2
 sz:Sz 36 16 k.2
 at_:k.1.natAbs≤1000000
theorem yb{ps:List Point}(h:eF ps):∀k∈curve ps,Ry k:=by
 intro k hk
 have h2:k.2∈(curve ps).map (·.2):=List.mem_map_of_mem hk
 rw[mR]at h2
 obtain⟨o,s⟩:=h.gA _ h2
 refine⟨o,s,?_⟩
 have h1:k.1∈(curve ps).map (·.1):=List.mem_map_of_mem hk
 rw[jw,xY]at h1
 obtain⟨p,hp,e⟩:=aQ.mp h1
 have g:=h.all p hp
 have:=g.d0;have:=g.d1
 omega
theorem eS{n:Int}(h:n.natAbs≤2000000):Sz 21 1 (whole n):=jc (by omega)
theorem LU{a b:Knot}{x:Frac}{e f:Nat}(ha:Ry a)(hb:Ry b)(ox:Ok x)(h:a.1<b.1)(sx:Sz e f x):Sz (max e f+150) (f+90) (between a b x):=by
 have k1:=iP hb.ok ha.ok hb.sz ha.sz
 have k2:Sz 21 1 (whole (b.1-a.1)):=eS (by have:=ha.at_;have:=hb.at_;omega)
 have k3:=Iv (dS hb.ok ha.ok) (show 0<(whole (b.1-a.1)).num by show 0<b.1-a.1;omega) k1 k2
 have k4:Sz 21 1 (whole a.1):=eS (by have:=ha.at_;omega)
 have k5:=iP ox (cQ _) sx k4
 have o3:=lI (dS hb.ok ha.ok) (show 0<b.1-a.1 by omega)
 have k6:=lJ o3 (dS ox (cQ a.1)) k3 k5
 have k7:=Iu ha.ok (gM o3 (dS ox (cQ a.1))) ha.sz k6
 exact k7.mono (by omega) (by omega)
theorem EM{x:Frac}{e f:Nat}(ox:Ok x)(sx:Sz e f x):∀{l:List Knot}{v:Frac},Kn l->(∀k∈l,Ry k)->valueAt x l=some v->Sz (max e f+150) (f+90) v
 |[],v,_,_,h=>by cases h
 |[a],v,_,hs,h=>by
  unfold valueAt at h
  split at h
  ·rw[<-az h];exact(hs a (by simp)).sz.mono (by omega) (by omega)
  ·cases h
 |a::b::l,v,hk,hs,h=>by
  unfold valueAt at h
  split at h
  ·cases h
  ·split at h
   ·rw[<-az h];exact LU (hs a (by simp)) (hs b (by simp)) ox (hk.lt (by simp)) sx
   ·exact EM ox sx hk.tail (fun k hk'=>hs k (au _ hk')) h
theorem P7{a b:Knot}{r:Frac}{e f:Nat}(ha:Ry a)(hb:Ry b)(o:Ok r)(s:Sz e f r)(h:less a.2 b.2=true):
  Ok (plus (whole a.1) (times (over (minus r a.2) (minus b.2 a.2)) (whole (b.1-a.1))))/\Sz (max e f+150) (f+90) (plus (whole a.1) (times (over (minus r a.2) (minus b.2 a.2)) (whole (b.1-a.1)))):=by
 have k1:=iP hb.ok ha.ok hb.sz ha.sz
 have k2:Sz 21 1 (whole (b.1-a.1)):=eS (by have:=ha.at_;have:=hb.at_;omega)
 have k3:=iP o ha.ok s ha.sz
 have np:=mS ha.ok hb.ok h
 have k4:=Iv (dS o ha.ok) np k3 k1
 have o4:=xX (dS o ha.ok) np
 have k5:=lJ o4 (cQ (b.1-a.1)) k4 k2
 have k6:Sz 21 1 (whole a.1):=eS (by have:=ha.at_;omega)
 have k7:=Iu (cQ a.1) (gM o4 (cQ (b.1-a.1))) k6 k5
 exact⟨D5 (cQ _) (gM o4 (cQ _)),k7.mono (by omega) (by omega)⟩
theorem B8{r:Frac}{e f:Nat}(o:Ok r)(s:Sz e f r):∀{l:List Knot}{v:Frac},(∀k∈l,Ry k)->firstAt r l=some v->Ok v/\Sz (max e f+150) (f+90) v
 |[],v,_,h=>by cases h
 |[a],v,hs,h=>by
  unfold firstAt at h
  split at h
  ·rw[<-az h]
   exact⟨cQ _,(eS (by have:=(hs a (by simp)).at_;omega)).mono (by omega) (by omega)⟩
  ·cases h
 |a::b::l,v,hs,h=>by
  unfold firstAt at h
  have ka:=hs a (by simp)
  have kb:=hs b (by simp)
  split at h
  ·rw[<-az h]
   exact⟨cQ _,(eS (by have:=ka.at_;omega)).mono (by omega) (by omega)⟩
  ·rename_i h1
   split at h
   ·rename_i h2
    rw[<-az h]
    refine P7 ka kb o s ?_
    rw[fz]at h1 h2
    have c1:less a.2 r=true:=by
     cases hc:less a.2 r with
     |true=>rfl
     |false=>rw[hc]at h1;exact absurd rfl h1
    have c2:less b.2 r=false:=by
     cases hc:less b.2 r with
     |false=>rfl
     |true=>rw[hc]at h2;cases h2
    exact lt_of_lt_of_le o ka.ok kb.ok c1 c2
   ·exact B8 o s (fun k hk=>hs k (au _ hk)) h
theorem LV{n d:Nat}{f:Frac}(h:Sz n d f):Sz n d (negated f):=⟨by show (-f.num).natAbs<2^n;rw[Int.natAbs_neg];exact h.num,h.den⟩
theorem P8{r:Frac}{e f:Nat}(o:Ok r)(s:Sz e f r){l:List Knot}{v:Frac}(hs:∀k∈l,Ry k)(h:lastAt r l=some v):Ok v/\Sz (max e f+150) (f+90) v:=by
 unfold lastAt at h
 obtain⟨z,hz,ez⟩:=aI.mp h
 have hm:∀k∈mirrored l,Ry k:=by
  intro k hk
  rw[m8 fun k hk=>(hs k hk).ok,List.mem_reverse]at hk
  obtain⟨y,hy,ey⟩:=aQ.mp hk
  subst ey
  have q:=hs y hy
  exact⟨jz q.ok,LV q.sz,by show (-y.1).natAbs≤_;rw[Int.natAbs_neg];exact q.at_⟩
 obtain⟨o',s'⟩:=B8 (jz o) (LV s) hm hz
 rw[<-ez]
 exact⟨jz o',LV s'⟩
def P9:Found->Prop
 |.inside a b=>(Ok a/\Sz 3300 2800 a)/\(Ok b/\Sz 3300 2800 b)
 |_=>True
theorem Ka{r:Frac}{l:List Knot}(o:Ok r)(s:Sz 3000 2650 r)(hs:∀k∈l,Ry k):P9 (doseOf r l):=by
 cases h1:firstAt r l with
 |none=>unfold doseOf;rw[h1];trivial
 |some a=>cases h2:lastAt r l with
  |none=>unfold doseOf;rw[h1,h2];trivial
  |some b=>
   rw[qQ h1 h2]
   obtain⟨o1,s1⟩:=B8 o s hs h1
   obtain⟨o2,s2⟩:=P8 o s hs h2
   exact⟨⟨o1,s1.mono (by omega) (by omega)⟩,⟨o2,s2.mono (by omega) (by omega)⟩⟩
structure GoodC(c:Control):Prop where
 d0:0≤c.dose
 d1:c.dose≤1000000
 r0: -1000000≤c.response
 r1:c.response≤1000000
 w0:1≤c.weight
 w1:c.weight≤1000
theorem yE(c:Control):okControl c=true↔GoodC c:=by
 unfold okControl okResponse
 simp only[aZ,d9,DOSE,RESPONSE,WEIGHT]
 constructor
 ·rintro⟨⟨h1,h2⟩,⟨h3,h4⟩,h5,h6⟩
  exact⟨h1,h2,h3,h4,h5,h6⟩
 ·intro h
  exact⟨⟨h.d0,h.d1⟩,⟨h.r0,h.r1⟩,h.w0,h.w1⟩
theorem yc{l:List Knot}:∀{cs:List Control}{c:Control},c∈cs->valueAt (whole c.dose) l=none->offs l cs=none
 |d::cs,c,hm,h=>by
  unfold offs
  rcases aB.mp hm with e | e
  ·subst e;rw[h]
  ·rw[yc e h]
   cases valueAt (whole d.dose) l <;> rfl
theorem G8{l:List Knot}{c:Control}{v:Frac}(hv:valueAt (whole c.dose) l=some v):∀{cs:List Control}{m:List (Int×Frac)},offs l cs=some m->
  offs l (cs++[c])=some (m++[(c.weight,minus (whole c.response) v)])
 |[],m,h=>by
  have e:m=[]:=by unfold offs at h;exact(az h).symm
  subst e
  show offs l [c]=_
  unfold offs
  rw[hv]
  unfold offs
  rfl
 |d::cs,m,h=>by
  unfold offs at h
  split at h
  ·rename_i u n hu hn
   have ih:=G8 hv hn
   rw[List.cons_append]
   unfold offs
   rw[hu,ih]
   rw[<-az h]
   rfl
  ·cases h
theorem Kc{l:List Knot}:∀{cs:List Control}{m:List (Int×Frac)},offs l cs=some m-> ∀x∈m,∃c∈cs,∃v,valueAt (whole c.dose) l=some v/\x=(c.weight,minus (whole c.response) v)
 |[],m,h,x,hx=>by
  have e:m=[]:=by unfold offs at h;exact(az h).symm
  rw[e]at hx;cases hx
 |d::cs,m,h,x,hx=>by
  unfold offs at h
  split at h
  ·rename_i u n hu hn
   rw[<-az h]at hx
   rcases aB.mp hx with e | e
   ·exact⟨d,by simp,u,hu,e⟩
   ·obtain⟨c,hc,v,hv,e⟩:=Kc hn x e
    exact⟨c,by simp[hc],v,hv,e⟩
  ·cases h
theorem m9{l:List Knot}:∀{cs:List Control}{m:List (Int×Frac)},offs l cs=some m->m.length=cs.length
 |[],m,h=>by
  have e:m=[]:=by unfold offs at h;exact(az h).symm
  rw[e];rfl
 |d::cs,m,h=>by
  unfold offs at h
  split at h
  ·rename_i u n hu hn
   rw[<-az h]
   simp[m9 hn]
  ·cases h
def wsum(m:List (Int×Frac)):Int:=m.foldl (fun n x=>n+x.1) 0
theorem wsum_snoc(m:List (Int×Frac))(x:Int×Frac):wsum (m++[x])=wsum m+x.1:=by unfold wsum;rw[List.foldl_append];rfl
def iQ(m:List (Int×Frac)):List Frac:=m.map fun x=>times (whole x.1) x.2
theorem Gn(m:List (Int×Frac))(x:Int×Frac):iQ (m++[x])=iQ m++[times (whole x.1) x.2]:=by unfold iQ;rw[ay];rfl
theorem z5{l:List Knot}{cs:List Control}{m:List (Int×Frac)}(h:offs l cs=some m):shiftOf l cs=some (over (total (iQ m)) (whole (wsum m))):=by
 unfold shiftOf;rw[h];rfl
theorem A3{l:List Knot}{cs:List Control}(h:offs l cs=none):shiftOf l cs=none:=by
 unfold shiftOf;rw[h];rfl
theorem EN:∀(m:List (Int×Frac)),(∀x∈m,1≤x.1/\x.1≤1000)->(m.length:Int)≤wsum m/\wsum m≤1000*m.length:=by
 refine snoc_ind ?_ ?_
 ·intro _;simp[wsum]
 ·intro m x ih h
  rw[wsum_snoc,ao,List.length_singleton]
  have:=ih fun y hy=>h y (by simp[hy])
  have:=h x (by simp)
  omega
structure Qa(m:List (Int×Frac)):Prop where
 ok:∀x∈iQ m,Ok x
 sz:∀x∈iQ m,Sz 190 95 x
 ws:∀x∈m,1≤x.1/\x.1≤1000
theorem LW{ps:List Point}(hp:eF ps){cs:List Control}(hc:∀c∈cs,GoodC c){m:List (Int×Frac)}(h:offs (curve ps) cs=some m):Qa m:=by
 have key:∀x∈m,Ok x.2/\Sz 173 92 x.2/\1≤x.1/\x.1≤1000:=by
  intro x hx
  obtain⟨c,hm,v,hv,e⟩:=Kc h x hx
  subst e
  have g:=hc c hm
  have o:=vK (cQ _) (kh hp.pos) hv
  have s:=EM (cQ c.dose) (eS (by have:=g.d0;have:=g.d1;omega)) (kh hp.pos) (yb hp) hv
  have k:=iP (cQ c.response) o (eS (by have:=g.r0;have:=g.r1;omega)) s
  exact⟨dS (cQ _) o,k.mono (by omega) (by omega),g.w0,g.w1⟩
 refine⟨?_,?_,fun x hx=>(key x hx).2.2⟩
 ·intro x hx
  obtain⟨y,hy,e⟩:=aQ.mp hx
  rw[<-e];exact gM (cQ _) (key y hy).1
 ·intro x hx
  obtain⟨y,hy,e⟩:=aQ.mp hx
  obtain⟨o,s,w0,w1⟩:=key y hy
  rw[<-e]
  exact(lJ (cQ y.1) o (jc (a:=10) (by omega)) s).mono (by omega) (by omega)
theorem Qa.total{m:List (Int×Frac)}(h:Qa m)(hl:m.length≤20):Ok (Vblaaf.total (iQ m))/\Sz 2111 1901 (Vblaaf.total (iQ m)):=by
 refine⟨EI h.ok,(J5 h.ok h.sz).mono ?_ ?_⟩
 ·have:(iQ m).length=m.length:=by unfold iQ;simp
  rw[this]
  have:m.length*(95+1)≤20*96:=Nat.mul_le_mul_right _ hl
  omega
 ·have:(iQ m).length=m.length:=by unfold iQ;simp
  rw[this]
  have:m.length*95≤20*95:=Nat.mul_le_mul_right _ hl
  omega
theorem G9{ps:List Point}(hp:eF ps){cs:List Control}(hc:∀c∈cs,GoodC c)(hl:cs.length≤20)(hne:cs≠[]){f:Frac}(h:shiftOf (curve ps) cs=some f):Ok f/\Sz 2112 1916 f:=by
 cases e:offs (curve ps) cs with
 |none=>rw[A3 e]at h;cases h
 |some m=>
  rw[z5 e]at h
  have hm:=m9 e
  have g:=LW hp hc e
  obtain⟨o,s⟩:=g.total (by omega)
  have w:=EN m g.ws
  have:0<cs.length:=List.length_pos_iff.mpr hne
  rw[<-az h]
  have hw:0<(whole (wsum m)).num:=by show 0<wsum m;omega
  exact⟨xX o hw,(Iv o hw s (jc (a:=15) (by omega))).mono (by omega) (by omega)⟩
structure EO(l:Lot):Prop where
 ps:eF l.points
 cs:∀c∈l.controls,GoodC c
 cl:l.controls.length≤20
 e0:0≤l.expires
 e1:l.expires≤END
structure GoodR(r:Result):Prop where
 t0:0≤r.time
 t1:r.time≤END
 lot:r.lot<4
 r0: -1000000≤r.response
 r1:r.response≤1000000
 told:P9 r.told
structure je(s:State):Prop where
 n0:0≤s.now
 n1:s.now≤END
 len:s.lots.length=4
 lot:∀(n:Nat)(l:Lot),s.lots[n]?=some (some l)->EO l
 rl:s.results.length≤100
 rs:∀r∈s.results,GoodR r
 rt:∀r∈s.results,∃l,s.lots[r.lot]?=some (some l)
theorem LX:je start:=by
 refine⟨by decide,by decide,rfl,?_,by decide,(by intro r hr;cases hr),by intro r hr;cases hr⟩
 intro n l h
 have:n=0∨n=1∨n=2∨n=3∨4≤n:=by omega
 rcases this with e | e | e | e | e
 ·subst e;cases h
 ·subst e;cases h
 ·subst e;cases h
 ·subst e;cases h
 ·rw[bf (by show 4≤n;exact e)]at h;cases h
theorem OA{l:Lot}(hl:EO l){r:Int}(r0: -1000000≤r)(r1:r≤1000000){c:Bool}{f:Found}(h:tellBy l r c= .ok f):P9 f:=by
 unfold tellBy at h
 have k:Sz 21 1 (whole r):=eS (by omega)
 split at h
 ·cases h
 ·split at h
  ·cases h
   exact Ka (cQ _) (k.mono (by omega) (by omega)) (yb hl.ps)
  ·split at h
   ·cases h
   ·rename_i f' hf
    cases h
    unfold shiftIn at hf
    split at hf
    ·cases hf
    ·rename_i hne
     split at hf
     ·cases hf
     ·rename_i g hg
      cases hf
      obtain⟨o,s⟩:=G9 hl.ps hl.cs hl.cl (by intro e;rw[e]at hne;exact hne rfl) hg
      exact Ka (dS (cQ _) o) ((iP (cQ _) o k s).mono (by omega) (by omega)) (yb hl.ps)
theorem iZ{s:State}{n:Int}{l:Lot}(h:lotAt s n=some l):0≤n/\n≤3/\s.lots[n.toNat]?=some (some l):=by
 unfold lotAt at h
 split at h
 ·rename_i hn
  have hn':=(d9 _ _ _).mp hn
  refine⟨hn'.1,hn'.2,?_⟩
  rw[List.getD_eq_getElem?_getD]at h
  cases e:s.lots[n.toNat]? with
  |none=>rw[e]at h;cases h
  |some o=>rw[e]at h;simp at h;rw[h]
 ·cases h
theorem eX{s:State}(hs:je s){n:Int}{l:Lot}(h:lotAt s n=some l):EO l:=hs.lot _ _ (iZ h).2.2
theorem sC{s:State}(hs:je s){n:Int}{l:Lot}(hl:EO l):je (putLot s n l):=by
 refine⟨hs.n0,hs.n1,by show (s.lots.set _ _).length=4;rw[List.length_set];exact hs.len,?_,hs.rl,hs.rs,?_⟩
 rotate_left
 ·intro r hr
  obtain⟨k,hk⟩:=hs.rt r hr
  show ∃k,(s.lots.set n.toNat (some l))[r.lot]?=some (some k)
  rw[List.getElem?_set]
  split
  ·rw[bA (by have:=(af.mp hk).1;omega)]
   exact⟨l,rfl⟩
  ·exact⟨k,hk⟩
 intro m k h
 have h:(s.lots.set n.toNat (some l))[m]?=some (some k):=h
 rw[List.getElem?_set]at h
 split at h
 ·split at h
  ·rw[<-az (az h)];exact hl
  ·cases h
 ·exact hs.lot m k h
theorem eE{s:State}{n:Int}{f:Lot->State×List Int}(hs:je s)(h:∀l,lotAt s n=some l->je (f l).1):je (withLot s n f).1:=by
 unfold withLot
 split
 ·exact hs
 ·split
  ·exact hs
  ·rename_i l hl;exact h l hl
theorem LY{l:List Point}(h:l.all okPoint=true)(hl:l.length≤40):eF l:=⟨fun p hp=>(CY p).mp (List.all_eq_true.mp h p hp),hl⟩
theorem OB{s:State}(hs:je s)(c:Call):je (step s c).1:=by
 cases c with
 |lot n e=>
  dsimp only[step]
  split
  ·exact hs
  ·split
   ·exact hs
   ·rename_i h1 h2
    have h2':inside e 0 END=true:=by simpa using h2
    have h2':=(d9 _ _ _).mp h2'
    exact sC hs ⟨⟨(by intro p hp;cases hp),(by show 0≤40;omega)⟩,(by intro c hc;cases hc),(by show 0≤20;omega),h2'.1,h2'.2⟩
 |point n x y w d=>
  refine eE hs fun l hl=>?_
  have g:=eX hs hl
  show je (if okPoint ⟨x,y,w,d⟩=false then (s,[-3]) else if POINTS≤l.points.length then (s,[-4]) else (putLot s n { l with points:=l.points++[⟨x,y,w,d⟩] },[(l.points.length:Int)])).1
  split
  ·exact hs
  ·split
   ·exact hs
   ·rename_i h1 h2
    refine sC hs ⟨⟨?_,?_⟩,g.cs,g.cl,g.e0,g.e1⟩
    ·intro p hp
     rcases bh.mp hp with m | m
     ·exact g.ps.all p m
     ·rw[bW]at m
      subst m
      exact(CY _).mp (by simpa using h1)
    ·show (l.points++_).length≤40
     rw[ao]
     have:POINTS=40:=rfl
     simp only[List.length_singleton]
     omega
 |unpoint n k=>
  refine eE hs fun l hl=>?_
  have g:=eX hs hl
  try dsimp only
  split
  ·exact hs
  ·refine sC hs ⟨⟨fun p hp=>g.ps.all p (List.mem_of_mem_eraseIdx hp),aS (List.length_eraseIdx_le _ _) g.ps.len⟩,g.cs,g.cl,g.e0,g.e1⟩
 |points n=>exact eE hs fun l hl=>hs
 |fit n=>exact eE hs fun l hl=>by split <;> exact hs
 |blocks n=>exact eE hs fun l hl=>by split <;> exact hs
 |sums n=>exact eE hs fun l hl=>by split <;> exact hs
 |squares n=>exact eE hs fun l hl=>by split <;> exact hs
 |trial n v=>exact eE hs fun l hl=>by split <;> (try split) <;> exact hs
 |value n a b=>exact eE hs fun l hl=>by split <;> (try split) <;> (try split) <;> exact hs
 |dose n a b=>exact eE hs fun l hl=>by split <;> (try split) <;> exact hs
 |step n x=>exact eE hs fun l hl=>by split <;> (try split) <;> exact hs
 |truth n x=>exact eE hs fun l hl=>by split <;> (try split) <;> (try split) <;> exact hs
 |clash n=>exact eE hs fun l hl=>by split <;> exact hs
 |range n lo hi=>exact eE hs fun l hl=>by split <;> (try split) <;> (try split) <;> (try split) <;> exact hs
 |control n x y w=>
  refine eE hs fun l hl=>?_
  have g:=eX hs hl
  show je (if okControl ⟨x,y,w⟩=false then (s,[-3]) else if CONTROLS≤l.controls.length then (s,[-4]) else (putLot s n { l with controls:=l.controls++[⟨x,y,w⟩] },[(l.controls.length:Int)])).1
  split
  ·exact hs
  ·split
   ·exact hs
   ·rename_i h1 h2
    refine sC hs ⟨g.ps,?_,?_,g.e0,g.e1⟩
    ·intro p hp
     rcases bh.mp hp with m | m
     ·exact g.cs p m
     ·rw[bW]at m
      subst m
      exact(yE _).mp (by simpa using h1)
    ·show (l.controls++_).length≤20
     rw[ao]
     have:CONTROLS=20:=rfl
     simp only[List.length_singleton]
     omega
 |clear n=>
  refine eE hs fun l hl=>?_
  have g:=eX hs hl
  exact sC hs ⟨g.ps,(by intro c hc;cases hc),(by show 0≤20;omega),g.e0,g.e1⟩
 |shift n=>exact eE hs fun l hl=>by split <;> (try split) <;> exact hs
 |gap n m=>exact eE hs fun l hl=>eE hs fun l' hl'=>by split <;> (try split) <;> exact hs
 |tick k=>
  dsimp only[step]
  split
  ·exact hs
  ·split
   ·exact hs
   ·rename_i h1 h2
    have Rx:inside k 1 1000000000=true:=by simpa using h1
    have Rx:=(d9 _ _ _).mp Rx
    have:=hs.n0
    exact⟨by show 0≤s.now+k;omega,by show s.now+k≤END;omega,hs.len,hs.lot,hs.rl,hs.rs,hs.rt⟩
 |read n r c=>
  refine eE hs fun l hl=>?_
  have g:=eX hs hl
  try dsimp only
  split
  ·exact hs
  ·rename_i h1
   have Rx:(okResponse r&&inside c 0 1)=true:=by simpa using h1
   rw[aZ]at Rx
   have hr:=(d9 _ _ _).mp Rx.1
   split
   ·exact hs
   ·rename_i f hf
    split
    ·exact hs
    ·split
     ·exact hs
     ·rename_i h2 h3
      have:RESULTS=100:=rfl
      have:RESPONSE=1000000:=rfl
      refine⟨hs.n0,hs.n1,hs.len,hs.lot,?_,?_,?_⟩
      ·show (s.results++_).length≤100
       rw[ao];simp only[List.length_singleton];omega
      ·intro x hx
       rcases bh.mp hx with m | m
       ·exact hs.rs x m
       ·rw[bW]at m
        subst m
        have:=(iZ hl)
        exact⟨hs.n0,hs.n1,by show n.toNat<4;omega,by show _≤r;omega,by show r≤_;omega,OA g (by omega) (by omega) hf⟩
      ·intro x hx
       rcases bh.mp hx with m | m
       ·exact hs.rt x m
       ·rw[bW]at m
        subst m
        exact⟨l,(iZ hl).2.2⟩
 |shown id=>
  dsimp only[step]
  split <;> (try split) <;> exact hs
 |changed=>exact hs
 |turn n a b=>
  refine eE hs fun l hl=>?_
  have g:=eX hs hl
  try dsimp only
  split
  ·exact hs
  ·split
   ·exact hs
   ·rename_i h1 h2
    have h2':((l.points.map (turnPoint a b)).all okPoint&&(l.controls.map (turnControl a b)).all okControl)=true:=by simpa using h2
    rw[aZ]at h2'
    refine sC hs ⟨LY h2'.1 (by rw[aa];exact g.ps.len),fun c hc=>(yE c).mp (List.all_eq_true.mp h2'.2 c hc),by show (l.controls.map _).length≤20;rw[aa];exact g.cl,g.e0,g.e1⟩
 |lots=>exact hs
def B9(fs:List Frac)(x:Frac):Option Nat->Prop
 |none=>∀(i:Nat)(f:Frac),fs[i]?=some f->less x f=true
 |some i=>(∃f,fs[i]?=some f/\less x f=false)/\ ∀(j:Nat)(g:Frac),i<j->fs[j]?=some g->less x g=true
def D7(fs:List Frac)(x:Frac):Option Nat->Prop
 |none=>∀(i:Nat)(f:Frac),fs[i]?=some f->less f x=true
 |some i=>(∃f,fs[i]?=some f/\less f x=false)/\ ∀(j:Nat)(g:Frac),j<i->fs[j]?=some g->less g x=true
theorem Sh{ps:List Point}{i:Nat}{d:Int}{f:Frac}(h1:((heaps ps).map (·.dose))[i]?=some d)(h2:(dh (blocks ps))[i]?=some f):(curve ps)[i]?=some (d,f):=by
 rw[oE]
 exact(List.getElem?_zip_eq_some (z:=(d,f))).mpr ⟨h1,h2⟩
theorem fG{ps:List Point}{i:Nat}{k:Knot}(h:(curve ps)[i]?=some k):((heaps ps).map (·.dose))[i]?=some k.1:=by
 rw[<-jw,aE,h];rfl
theorem fC{ps:List Point}{i:Nat}{k:Knot}(h:(curve ps)[i]?=some k):(dh (blocks ps))[i]?=some k.2:=by
 rw[<-mR,aE,h];rfl
theorem vO{ps:List Point}(h:ps≠[]):0<(curve ps).length:=by
 rw[fF];exact List.length_pos_iff.mpr (PN h)
theorem Kn.Tj{l:List Knot}(hk:Kn l){i j:Nat}{a b:Knot}(h:i<j)(ha:l[i]?=some a)(hb:l[j]?=some b):a.1<b.1:=by
 obtain⟨h1,e1⟩:=af.mp ha
 obtain⟨h2,e2⟩:=af.mp hb
 have:=List.pairwise_iff_getElem.mp hk.rise i j h1 h2 h
 rw[e1,e2]at this;exact this
theorem Kn.Tn{l:List Knot}(hk:Kn l){i j:Nat}{a b:Knot}(h:i<j)(ha:l[i]?=some a)(hb:l[j]?=some b):less b.2 a.2=false:=by
 obtain⟨h1,e1⟩:=af.mp ha
 obtain⟨h2,e2⟩:=af.mp hb
 have:=List.pairwise_iff_getElem.mp hk.EG i j h1 h2 h
 rw[e1,e2]at this;exact this
theorem getElem?_map_whole{ds:List Int}{i:Nat}{d:Int}(h:ds[i]?=some d):(ds.map whole)[i]?=some (whole d):=by rw[aE,h];rfl
theorem IB{l:List Knot}{x:Frac}(ne:0<l.length)(h:∀k∈l,less x (whole k.1)=true):valueAt x l=none:=by
 cases l with
 |nil=>simp at ne
 |cons a l=>exact LK (h a (by simp))
theorem LZ{l:List Knot}{x:Frac}(hk:Kn l)(hx:Ok x){z:Knot}(hz:l[l.length-1]?=some z)(h:less (whole z.1) x=true):valueAt x l=none:=by
 refine CW hk fun k hm=>?_
 obtain⟨i,hi,e⟩:=List.mem_iff_getElem.mp hm
 by_cases q:i=l.length-1
 ·have:l[i]?=some k:=by rw[ah hi,e]
  rw[q,hz]at this
  cases this;exact h
 ·have hlt:=hk.Tj (i:=i) (j:=l.length-1) (by omega) (by rw[ah hi,e]) hz
  exact G4 (cQ z.1) (cQ k.1) hx (by rw[fB];exact aX hlt) h
theorem OC{r:Frac}{l:List Knot}{z:Knot}(hk:Kn l)(hz:l[l.length-1]?=some z)(h:less r z.2=false):lastAt r l=some (whole z.1):=by
 obtain⟨h1,e1⟩:=af.mp hz
 have e:l=l.dropLast++[z]:=by
  have ne:l≠[]:=by intro q;rw[q]at h1;simp at h1
  rw[<-e1,<-List.getLast_eq_getElem ne,List.dropLast_concat_getLast]
 rw[e]at hk ⊢
 exact PX hk h
theorem Qc{r:Frac}{l:List Knot}{a:Knot}(hk:Kn l)(hr:Ok r)(ha:l[0]?=some a)(h:less r a.2=true):doseOf r l= .below:=by
 cases l with
 |nil=>simp at ha
 |cons b l=>
  have e:b=a:=by simpa using ha
  subst e
  exact Iq hk hr h
theorem Qe{r:Frac}{l:List Knot}{z:Knot}(hk:Kn l)(hr:Ok r)(hz:l[l.length-1]?=some z)(h:less z.2 r=true):doseOf r l= .over_:=by
 obtain⟨h1,e1⟩:=af.mp hz
 have e:l=l.dropLast++[z]:=by
  have ne:l≠[]:=by intro q;rw[q]at h1;simp at h1
  rw[<-e1,<-List.getLast_eq_getElem ne,List.dropLast_concat_getLast]
 rw[e]at hk ⊢
 exact Ir hk hr h
theorem Kd{r:Frac}{l:List Knot}{a:Knot}(ha:l[0]?=some a)(h:less a.2 r=false):firstAt r l=some (whole a.1):=by
 cases l with
 |nil=>simp at ha
 |cons b l=>
  have e:b=a:=by simpa using ha
  subst e
  exact zW h
theorem UK{ps:List Point}{x:Int}:∀{r:Option Nat},B9 (((heaps ps).map (·.dose)).map whole) (whole x) r->stepLow x (curve ps)=r.bind fun i=>(dh (blocks ps))[i]?
 |none,h=>by
  rw[PY];rfl
  intro k hk
  obtain⟨i,hi,e⟩:=List.mem_iff_getElem.mp hk
  have:=h i (whole k.1) (getElem?_map_whole (fG (by rw[ah hi,e])))
  rw[fB]at this
  exact bB this
 |some i,h=>by
  obtain⟨⟨f,hf,hl⟩,hall⟩:=h
  rw[aE]at hf
  obtain⟨d,hd,e⟩:=aI.mp hf
  subst e
  have hi:=(af.mp hd).1
  rw[aa,<-fF]at hi
  have hk:(curve ps)[i]?=some (curve ps)[i]:=ah hi
  have ed:=fG hk
  rw[hd]at ed
  have ed:d=(curve ps)[i].1:=az ed
  rw[PZ hk,Option.bind_some,fC hk]
  ·rw[fB]at hl
   have:=bC hl
   omega
  ·intro q k hq hk'
   have:=hall q (whole k.1) hq (getElem?_map_whole (fG hk'))
   rw[fB]at this
   exact bB this
theorem Si{ps:List Point}{x:Int}:∀{r:Option Nat},D7 (((heaps ps).map (·.dose)).map whole) (whole x) r->stepHigh x (curve ps)=r.bind fun i=>(dh (blocks ps))[i]?
 |none,h=>by
  rw[Ou];rfl
  intro k hk
  obtain⟨i,hi,e⟩:=List.mem_iff_getElem.mp hk
  have:=h i (whole k.1) (getElem?_map_whole (fG (by rw[ah hi,e])))
  rw[fB]at this
  exact bB this
 |some i,h=>by
  obtain⟨⟨f,hf,hl⟩,hall⟩:=h
  rw[aE]at hf
  obtain⟨d,hd,e⟩:=aI.mp hf
  subst e
  have hi:=(af.mp hd).1
  rw[aa,<-fF]at hi
  have hk:(curve ps)[i]?=some (curve ps)[i]:=ah hi
  have ed:=fG hk
  rw[hd]at ed
  have ed:d=(curve ps)[i].1:=az ed
  rw[Ov hk,Option.bind_some,fC hk]
  ·rw[fB]at hl
   have:=bC hl
   omega
  ·intro q k hq hk'
   have:=hall q (whole k.1) hq (getElem?_map_whole (fG hk'))
   rw[fB]at this
   exact bB this
theorem IC{a0 a1 u0 u1 x:Frac}(h0:Ok a0)(h1:Ok a1)(k0:Ok u0)(k1:Ok u1)(kx:Ok x)(h:less a0 a1=true):
  lowest (u0.num*(u1.den:Int)*((a1.num*(a0.den:Int)-a0.num*(a1.den:Int))*(x.den:Int))+(x.num*(a0.den:Int)-a0.num*(x.den:Int))*(a1.den:Int)*(u1.num*(u0.den:Int)-u0.num*(u1.den:Int)))
   ((u0.den:Int)*(u1.den:Int)*((a1.num*(a0.den:Int)-a0.num*(a1.den:Int))*(x.den:Int))).toNat=gO a0 a1 u0 u1 x:=by
 have hc:=EF h0 h1 h
 have p0:(0:Int)<u0.den:=by have:=k0.pos;omega
 have p1:(0:Int)<u1.den:=by have:=k1.pos;omega
 have p2:(0:Int)<x.den:=by have:=kx.pos;omega
 have hB:(0:Int)<(u0.den:Int)*(u1.den:Int)*((a1.num*(a0.den:Int)-a0.num*(a1.den:Int))*(x.den:Int)):=Int.mul_pos (Int.mul_pos p0 p1) (Int.mul_pos hc p2)
 have hn:0<((u0.den:Int)*(u1.den:Int)*((a1.num*(a0.den:Int)-a0.num*(a1.den:Int))*(x.den:Int))).toNat:=by omega
 refine jP (lX hn) (lz h0 h1 k0 k1 kx h) (oA hn) (lA h0 h1 k0 k1 kx h h0.is h1.is k0.is k1.is kx.is) ?_
 rw[Int.toNat_of_nonneg (by omega)]
 generalize a0.num=c0;generalize (a0.den:Int)=q0;generalize a1.num=c1;generalize (a1.den:Int)=q1
 generalize u0.num=r0;generalize (u0.den:Int)=s0;generalize u1.num=r1;generalize (u1.den:Int)=s1;generalize x.num=m;generalize (x.den:Int)=n
 grind
theorem Gp{a0 a1 u0 u1:Frac}(h0:Ok a0)(h1:Ok a1)(k0:Ok u0)(k1:Ok u1)(h:less a0 a1=true):gO a0 a1 u0 u1 a0=u0:=by
 refine jP (lz h0 h1 k0 k1 h0 h) k0 (lA h0 h1 k0 k1 h0 h h0.is h1.is k0.is k1.is h0.is) k0.is ?_
 generalize a0.num=c0;generalize (a0.den:Int)=q0;generalize a1.num=c1;generalize (a1.den:Int)=q1
 generalize u0.num=r0;generalize (u0.den:Int)=s0;generalize u1.num=r1;generalize (u1.den:Int)=s1
 grind
theorem ER{a0 a1 u0 u1:Frac}(h0:Ok a0)(h1:Ok a1)(k0:Ok u0)(k1:Ok u1)(h:less a0 a1=true):gO a0 a1 u0 u1 a1=u1:=by
 refine jP (lz h0 h1 k0 k1 h1 h) k1 (lA h0 h1 k0 k1 h1 h h0.is h1.is k0.is k1.is h1.is) k1.is ?_
 generalize a0.num=c0;generalize (a0.den:Int)=q0;generalize a1.num=c1;generalize (a1.den:Int)=q1
 generalize u0.num=r0;generalize (u0.den:Int)=s0;generalize u1.num=r1;generalize (u1.den:Int)=s1
 grind
theorem Qg{x:Frac}(h:Ok x):lowest (x.num.natAbs:Int) x.den=size x:=by
 rw[oW h.pos]
 have e:Nat.gcd ((x.num.natAbs:Int)).natAbs x.den=1:=by rw[br];exact h.low
 rw[e]
 unfold size
 simp
theorem L0{l:List Knot}{r:Frac}{i j:Nat}{a b:Knot}(hk:Kn l)(hr:Ok r)(ha:l[i]?=some a)(hb:l[j]?=some b)(h1:less a.2 r=false)(h2:less r b.2=false)
  (before:∀q k,q<i->l[q]?=some k->less k.2 r=true)(behind:∀q k,j<q->l[q]?=some k->less r k.2=true)(hij:i≤j):firstAt r l=some (whole a.1)/\lastAt r l=some (whole b.1):=by
 have oa:=hk.ok a (ak ha)
 have ob:=hk.ok b (ak hb)
 have Wj:less r a.2=false:=by
  rcases Nat.lt_or_eq_of_le hij with q | q
  ·cases e:less r a.2 with
   |false=>rfl
   |true=>
    have:=lt_of_le_of_lt hr ob oa h2 e
    rw[hk.Tn q ha hb]at this;cases this
  ·subst q;rw[ha]at hb;cases hb;exact h2
 have hrb:less b.2 r=false:=by
  rcases Nat.lt_or_eq_of_le hij with q | q
  ·cases e:less b.2 r with
   |false=>rfl
   |true=>
    have:=lt_of_lt_of_le hr ob oa e h1
    rw[hk.Tn q ha hb]at this;cases this
  ·subst q;rw[ha]at hb;cases hb;exact h1
 have ea:r=a.2:=iO hr oa Wj h1
 have eb:r=b.2:=iO hr ob h2 hrb
 constructor
 ·cases i with
  |zero=>exact Kd ha h1
  |succ i=>
   have hi:i<l.length:=by have:=(af.mp ha).1;omega
   have hc:l[i]?=some l[i]:=ah hi
   generalize l[i]=c at*
   have Wk:=before i c (by omega) hc
   have oc:=hk.ok c (ak hc)
   rw[x9 hr hk hc ha Wk h1]
   have hlt:less c.2 a.2=true:=lt_of_lt_of_le hr oc oa Wk h1
   conv=>lhs;rw[ea]
   rw[ER oc oa (cQ _) (cQ _) hlt]
 ·by_cases hl:j=l.length-1
  ·exact OC hk (hl▸hb) h2
  ·have hj:j+1<l.length:=by have:=(af.mp hb).1;omega
   have hc:l[j+1]?=some l[j+1]:=ah hj
   generalize l[j+1]=c at*
   have Wk:=behind (j+1) c (by omega) hc
   have oc:=hk.ok c (ak hc)
   rw[J4 hr hk hb hc h2 Wk]
   have hlt:less b.2 c.2=true:=lt_of_le_of_lt hr ob oc h2 Wk
   conv=>lhs;rw[eb]
   rw[Gp ob oc (cQ _) (cQ _) hlt]
theorem Ke{l:List Knot}{r:Frac}{i j:Nat}{a b:Knot}(hk:Kn l)(hr:Ok r)(ha:l[i]?=some a)(hb:l[j]?=some b)(h1:less a.2 r=false)(h2:less r b.2=false)
  (before:∀q k,q<i->l[q]?=some k->less k.2 r=true)(behind:∀q k,j<q->l[q]?=some k->less r k.2=true)(hij:j<i):
  l[j+1]?=some a/\less b.2 a.2=true/\firstAt r l=some (gO b.2 a.2 (whole b.1) (whole a.1) r)/\lastAt r l=some (gO b.2 a.2 (whole b.1) (whole a.1) r):=by
 have oa:=hk.ok a (ak ha)
 have ob:=hk.ok b (ak hb)
 have e:i=j+1:=by
  by_cases q:i=j+1
  ·exact q
  ·have hj:j+1<l.length:=by have:=(af.mp ha).1;omega
   have hc:l[j+1]?=some l[j+1]:=ah hj
   have g1:=before (j+1) _ (by omega) hc
   have g2:=behind (j+1) _ (by omega) hc
   have:=iu g1
   rw[g2]at this;cases this
 subst e
 have ZT:=before j b (by omega) hb
 have Wj:=behind (j+1) a (by omega) ha
 exact⟨ha,lt_of_lt_of_le hr ob oa ZT h1,x9 hr hk hb ha ZT h1,J4 hr hk hb ha h2 Wj⟩
def Bt(n:Nat)(i:Int):Prop:=i.natAbs<2^n
theorem Bt.mul{m n:Nat}{i j:Int}(h1:Bt m i)(h2:Bt n j):Bt (m+n) (i*j):=by unfold Bt;rw[Int.natAbs_mul];exact gH h1 h2
theorem Bt.sub{m n:Nat}{i j:Int}(h1:Bt m i)(h2:Bt n j):Bt (max m n+1) (i-j):=bY (vI i j) (LL h1 h2)
theorem Bt.num{a b:Nat}{f:Frac}(h:Sz a b f):Bt a f.num:=h.num
theorem Bt.den{a b:Nat}{f:Frac}(h:Sz a b f):Bt b (f.den:Int):=by unfold Bt;rw[br];exact h.den
theorem Hf(x:Frac):less x x=false:=by unfold less;simp
theorem o6.one{a b:List Knot}{x:Int}{e:Frac}(h:ki a b x=some e):o6 a b [x] e x:=
 ⟨by simp,h,fun y hy f hf=>by rw[bW.mp hy,h]at hf;cases hf;exact Hf _,fun y hy _=>by rw[bW.mp hy];omega⟩
theorem o6.anew{a b:List Knot}(ha:Kn a)(hb:Kn b){S:List Int}{d e:Frac}{x y:Int}(B:o6 a b S d y)(h:ki a b x=some e)(hl:less d e=true):o6 a b (S++[x]) e x:=by
 refine⟨by simp,h,fun z hz f hf=>?_,fun z hz hf=>?_⟩
 ·rcases bh.mp hz with q | q
  ·exact iu (lt_of_le_of_lt (vM ha hb B.at_) (vM ha hb hf) (vM ha hb h) (B.most z q f hf) hl)
  ·rw[bW.mp q,h]at hf;cases hf;exact Hf _
 ·rcases bh.mp hz with q | q
  ·have:=B.most z q e hf;rw[hl]at this;cases this
  ·rw[bW.mp q];omega
theorem o6.keep{a b:List Knot}{S:List Int}{d e:Frac}{x y:Int}(B:o6 a b S d y)(h:ki a b x=some e)(hl:less d e=false)(hle:y≤x):o6 a b (S++[x]) d y:=by
 refine⟨by simp[B.mem],B.at_,fun z hz f hf=>?_,fun z hz hf=>?_⟩
 ·rcases bh.mp hz with q | q
  ·exact B.most z q f hf
  ·rw[bW.mp q,h]at hf;cases hf;exact hl
 ·rcases bh.mp hz with q | q
  ·exact B.least z q hf
  ·rw[bW.mp q];exact hle
theorem o6.same{a b:List Knot}{S S':List Int}{d:Frac}{x:Int}(B:o6 a b S d x)(h:∀y,y∈S↔y∈S'):o6 a b S' d x:=
 ⟨(h x).mp B.mem,B.at_,fun y hy=>B.most y ((h y).mpr hy),fun y hy=>B.least y ((h y).mpr hy)⟩
theorem Sj{n d:Nat}{x:Frac}(h:Sz n d x):Sz n d (size x):=⟨by show ((x.num.natAbs:Int)).natAbs<2^n;rw[br];exact h.num,h.den⟩
theorem sD{ps:List Point}(gp:eF ps){x:Int}(hx:x.natAbs≤2000000){v:Frac}(h:valueAt (whole x) (curve ps)=some v):Ok v/\Sz 171 91 v:=
 ⟨vK (cQ x) (kh gp.pos) h,EM (cQ x) (eS hx) (kh gp.pos) (yb gp) h⟩
theorem Ni{ps qs:List Point}(gp:eF ps)(gq:eF qs){x:Int}(hx:x.natAbs≤2000000){d:Frac}(h:ki (curve ps) (curve qs) x=some d):Ok d/\Sz 263 182 d:=by
 unfold ki at h
 split at h
 ·rename_i u v hu hv
  obtain⟨ou,su⟩:=sD gp hx hu
  obtain⟨ov,sv⟩:=sD gq hx hv
  rw[<-az h]
  exact⟨Nh (dS ou ov),Sj (iP ou ov su sv)⟩
 ·cases h
theorem Ca{l:List Knot}:∀{cs:List Control},(∀c∈cs,(valueAt (whole c.dose) l).isSome=true)-> ∃m,offs l cs=some m
 |[],_=>⟨[],by unfold offs;rfl⟩
 |c::cs,h=>by
  obtain⟨m,hm⟩:=Ca (cs:=cs) fun d hd=>h d (au _ hd)
  obtain⟨v,hv⟩:=Option.isSome_iff_exists.mp (h c aH)
  exact⟨_,by unfold offs;rw[hv,hm]⟩
theorem Hg{l:List Knot}:∀{cs:List Control}{m:List (Int×Frac)},offs l cs=some m->m.map (·.1)=cs.map (·.weight)
 |[],m,h=>by
  have e:m=[]:=by unfold offs at h;exact(az h).symm
  subst e;rfl
 |c::cs,m,h=>by
  unfold offs at h
  split at h
  ·rename_i v n hv hn
   rw[<-az h,aL,aL,Hg hn]
  ·cases h
theorem Qh(m:List (Int×Frac)):wsum m=(m.map (·.1)).sum:=by
 unfold wsum
 have:∀(m:List (Int×Frac))(n:Int),m.foldl (fun n x=>n+x.1) n=n+(m.map (·.1)).sum:=by
  intro m
  induction m with
  |nil=>intro n;simp
  |cons x m ih=>intro n;rw[bU,ih,aL,List.sum_cons];omega
 rw[this,Int.zero_add]
def refusal(ps:List Point)(cs:List Control):Option Int:=if cs.isEmpty=true then some (-6) else if (offs (curve ps) cs).isSome=true then none else some (-7)
def vP(l:Lot):Option Frac:=match shiftIn l with
 |.ok f=>some f
 |.error _=>none
theorem vQ{l:Lot}{e:Int}(h:refusal l.points l.controls=some e):shiftIn l= .error e:=by
 unfold refusal at h
 unfold shiftIn
 split at h
 ·rename_i hc;cases h;rw[bA hc]
 ·rename_i hc
  rw[bz hc]
  split at h
  ·cases h
  ·rename_i ho
   cases h
   rw[A3 (by cases e:offs (curve l.points) l.controls with | none=>rfl | some m=>rw[e]at ho;exact absurd rfl ho)]
theorem n8{ps:List Point}{cs:List Control}(h:refusal ps cs=none):cs≠[]/\ ∃m,offs (curve ps) cs=some m:=by
 unfold refusal at h
 split at h
 ·cases h
 ·rename_i hc
  refine⟨by intro e;rw[e]at hc;exact hc rfl,?_⟩
  split at h
  ·rename_i ho;exact Option.isSome_iff_exists.mp ho
  ·cases h
theorem z6{l:Lot}{f:Frac}(hc:l.controls≠[])(h:shiftOf (curve l.points) l.controls=some f):shiftIn l= .ok f:=by
 unfold shiftIn
 rw[bz (by intro e;exact hc (List.isEmpty_iff.mp e)),h]
end Rc
namespace L2
open PySem PySem.Spec PyProof.Rows
section
variable {X:Cx}
theorem bits_le{i:Int}{n:Nat}(h:i.natAbs<2^n):Builtin.Int.intBits i≤n:=by
 unfold Builtin.Int.intBits
 split
 ·exact Nat.zero_le _
 ·rename_i h0
  have hp:i.natAbs≠0:=by
   intro e
   have:i=0:=by omega
   subst this
   simp at h0
  have:i.natAbs.log2<n:=(Nat.log2_lt hp).mpr h
  omega
def Lit(i:Int):Prop:=i.natAbs<2^8000
theorem Lit.bits{i:Int}(h:Lit i):Builtin.Int.intBits i≤2^20:=aS (bits_le h) (by decide)
theorem Lit.of{i:Int}{n:Nat}(h:i.natAbs<2^n)(hn:n≤8000):Lit i:=aM h (Nat.pow_le_pow_right (by decide) hn)
def Wl(i j:Int):Prop:=Lit i/\Lit j
def Wm(i j:Int):Prop:=0<j/\Lit j
theorem eY:AI X (binaryOp .Mult) (rI Wl fun i j=>.int (i*j)):=X6 fun _ _ _ _ _ _ _ hc q=>mul_int q (.of_bits hc.1.bits hc.2.bits)
theorem Kf:AI X (binaryOp .FloorDiv) (rI Wm fun i j=>.int (i/j)):=X6 fun i j _ _ _ _ _ hc q=>by
 have h1:(0:Int)<j:=hc.1
 have h2:j.natAbs.log2<9000:=aM ((Nat.log2_lt (by omega)).mpr hc.2) (by decide)
 exact floordiv_int (by omega) (by rw[Int.fdiv_eq_ediv_of_nonneg i (by omega)];exact q) (.inl (PyProof.noPylong_of_log2 h2))
end
structure Good(P:Program)(w:World)(K:PySem.W.Frag)(mg:Str->Option Value)(base:Heap)(k:Nat)(x:Str)(ps:List Str)(sp:Sp):Prop where
 ex:∃(f:Addr)(fd:FuncData),mg x=some (.ref f)/\PySem.W.keepIn K (.ref f)=true/\Binds K fd ps []/\yu P w K mg base Js k f fd ps sp
structure GoodC(P:Program)(w:World)(K:PySem.W.Frag)(mg:Str->Option Value)(base:Heap)(k:Nat)(x:Str)(C:Addr)(ps:List Str)(sp:Sp):Prop where
 ex:∃(f:Addr)(fd:FuncData),mg x=some (.ref C)/\Mk K C f/\Binds K fd ps []/\yu P w K mg base Js k f fd ps sp
structure Def(K:PySem.W.Frag)(mg:Str->Option Value)(x:Str)(st:Stmt)(ps:List Str):Prop where
 ex:∃(f:Addr)(fd:FuncData),Ti K x x st f fd/\Binds K fd ps []/\mg x=some (.ref f)
structure o7(K:PySem.W.Frag)(mg:Str->Option Value)(x qual:Str)(C:Addr)(st:Stmt)(ps:List Str):Prop where
 ex:∃(f:Addr)(fd:FuncData),Ti K "__init__" qual st f fd/\Binds K fd ps []/\mg x=some (.ref C)/\Mk K C f
section
variable {P:Program} {w:World} {K:PySem.W.Frag} {mg:Str->Option Value} {base:Heap}
theorem Def.good{x:Str}{st:Stmt}{N ps:List Str}{k:Nat}{sp:Sp}(D:Def K mg x st ps)(S:cT N ps (cJ st))(len:∀vs H Q E,sp vs H Q E->vs.length=ps.length)
  (hbody:∀(f:Addr)(cdv:Value)(A:Around)(outer:List Env)(s:Shared)(H:Hp)(vs:List V)(Q:VK)(E:XK),jW k (A.deeper (envOfC x (cJ st) s.heap.objs.size f cdv))->sp vs H Q E->
   ∃t,Lq (JC Js P w K mg base N x (cJ st) f cdv A outer s H E).Vl (lH st) t/\t { nx:=fun _ H'=>Q .f6 H',rt:=Q } (start N vs) H):Good P w K mg base (k+1) x ps sp:=by
 obtain⟨f,fd,F,b,e⟩:=D.ex
 exact⟨f,fd,e,F.kp,b,F.ok S len (hbody f)⟩
theorem o7.good{x qual:Str}{C:Addr}{st:Stmt}{N ps:List Str}{k:Nat}{sp:Sp}(D:o7 K mg x qual C st ps)(S:cT N ps (cJ st))(len:∀vs H Q E,sp vs H Q E->vs.length=ps.length)
  (hbody:∀(f:Addr)(cdv:Value)(A:Around)(outer:List Env)(s:Shared)(H:Hp)(vs:List V)(Q:VK)(E:XK),jW k (A.deeper (envOfC qual (cJ st) s.heap.objs.size f cdv))->sp vs H Q E->
   ∃t,Lq (JC Js P w K mg base N qual (cJ st) f cdv A outer s H E).Vl (lH st) t/\t { nx:=fun _ H'=>Q .f6 H',rt:=Q } (start N vs) H):GoodC P w K mg base (k+1) x C ps sp:=by
 obtain⟨f,fd,F,b,e,M⟩:=D.ex
 exact⟨f,fd,e,M,b,F.ok S len (hbody f)⟩
end
section
variable {X:Cx} {k:Nat} {C:Addr} {ps:List Str} {sp:Sp} {x:Str} {p pos:Pos} {e:Expr} {es:List Expr} {t:TA}
theorem Qi(G:Good X.prog X.w X.K X.mg X.base k x ps sp)(hr:jW k X.A)(hg:Gl X x)(ha:PA X (e::es) t)(hdb:(x==("__debug__":Str))=false:=by decide)
  (he:starEach (e::es) X.env=(false,eval e X.env)::starEach es X.env:=by rfl)(hpl:(backTo pos (starEach es X.env)).any (·.1)=false:=by rfl)(hx:Passes Js X E0:=by exact GZ):
  PE X (.Call (.Name x p) (e::es) [] pos) (Ph sp [] E0 t):=by
 obtain⟨f,fd,e1,e2,b,F⟩:=G.ex
 exact RQ F hr hg e1 e2 b .nil hx ha hdb he hpl
theorem Qj(G:GoodC X.prog X.w X.K X.mg X.base k x C ps sp)(hr:jW (k+1) X.A)(hg:Gl X x)(ha:PA X (e::es) t)(hdb:(x==("__debug__":Str))=false:=by decide)
  (he:starEach (e::es) X.env=(false,eval e X.env)::starEach es X.env:=by rfl)(hpl:(backTo pos (starEach es X.env)).any (·.1)=false:=by rfl)(hx:Passes Js X E0:=by exact GZ):
  PE X (.Call (.Name x p) (e::es) [] pos) (JA C sp [] E0 t):=by
 obtain⟨f,fd,e1,M,b,F⟩:=G.ex
 exact RS M F hr hg e1 b .nil hx ha hdb he hpl
theorem OD(G:GoodC X.prog X.w X.K X.mg X.base k x C ps sp)(hr:jW (k+1) X.A)(hg:Gl X x)(hdb:(x==("__debug__":Str))=false:=by decide)(hx:Passes Js X E0:=by exact GZ):
  PE X (.Call (.Name x p) [] [] pos) (JA C sp [] E0 Ul):=by
 obtain⟨f,fd,e1,M,b,F⟩:=G.ex
 exact Pk M F hr hg e1 b .nil hx hdb
end
end L2
namespace L2
open PySem PySem.Spec PyProof.Rows
theorem ES{c:TT}{tb:TS}{D:Ends}{σ:St}{H:Hp}(Pv:St->Hp->Prop)(μ:St->Hp->Nat)(h0:Pv σ H)
  (hs:∀σ H,Pv σ H->c σ H fun b H1=>if b=true then ∃N:St->Hp->Prop,(∀σ' H',N σ' H'-> ∃m',m'<μ σ H/\m'=μ σ' H'/\Pv σ' H')/\tb { D with nx:=N,ct:=N,bk:=D.nx } σ H1 else D.nx σ H1):Pa c tb D σ H:=
 ⟨fun m σ H=>m=μ σ H/\Pv σ H,⟨_,rfl,h0⟩,by rintro m σ H ⟨rfl,p⟩;exact hs σ H p⟩
theorem ID{Pv:St->Hp->Prop}{μ:St->Hp->Nat}{m:Nat}{R:(St->Hp->Prop)->Prop}(h:R fun σ' H'=>Pv σ' H'/\μ σ' H'<m):
  ∃N:St->Hp->Prop,(∀σ' H',N σ' H'-> ∃m',m'<m/\m'=μ σ' H'/\Pv σ' H')/\R N:=
 ⟨_,fun σ' H' ⟨p,l⟩=>⟨_,l,rfl,p⟩,h⟩
end L2
namespace L2
open PySem PySem.Spec PyProof.Rows
theorem gJ{N P:List Str}{sc:Scope}(a:sc.kind= .function:=by rfl)(b:sc.isCoroutine=false:=by rfl)(c:sc.isGenerator=false:=by rfl)(d:N.Nodup:=by decide+kernel)(e:N.take P.length=P:=by rfl)
 (f:∀x∈P,sc.names.lookup x=some .local∨sc.names.lookup x=some .cell:=by decide+kernel)(g:∀y∈sc.names,y.2≠ .free:=by decide+kernel):cT N P sc:=⟨a,b,c,d,e,f,g⟩
section
variable {X:Cx} {k j:Nat} {x:Str} {ps:List Str} {sp:Sp} {e:Expr} {es:List Expr} {t:TA} {p pos:Pos} {C:Addr}
theorem dF(G:Good X.prog X.w X.K X.mg X.base k x ps sp)(hr:jW j X.A)(ha:PA X (e::es) t)(hk:k≤j:=by decide)(hg:Gl X x:=by rfl)(hdb:(x==("__debug__":Str))=false:=by decide)
 (he:starEach (e::es) X.env=(false,eval e X.env)::starEach es X.env:=by rfl)(hpl:(backTo pos (starEach es X.env)).any (·.1)=false:=by rfl)(hx:Passes Js X E0:=by exact GZ):
 PE X (.Call (.Name x p) (e::es) [] pos) (Ph sp [] E0 t):=Qi G (hr.mono hk) hg ha hdb he hpl hx
theorem jY(G:GoodC X.prog X.w X.K X.mg X.base k x C ps sp)(hr:jW j X.A)(ha:PA X (e::es) t)(hk:k+1≤j:=by decide)(hg:Gl X x:=by rfl)(hdb:(x==("__debug__":Str))=false:=by decide)
 (he:starEach (e::es) X.env=(false,eval e X.env)::starEach es X.env:=by rfl)(hpl:(backTo pos (starEach es X.env)).any (·.1)=false:=by rfl)(hx:Passes Js X E0:=by exact GZ):
 PE X (.Call (.Name x p) (e::es) [] pos) (JA C sp [] E0 t):=Qj G (hr.mono hk) hg ha hdb he hpl hx
theorem qu(i:Nat)(hN:X.N.Nodup)(hi:X.N[i]?=some x:=by rfl)(hx:Loc X.env.scope x:=by exact Or.inl rfl)(hf:X.fn x=true∨X.env.scope.names.lookup x=some .local:=by first | exact .inl rfl | exact .inr rfl | assumption):PG X (.Name x pos) (GL i):=
 RL hN hi hx hf
theorem gi(i:Nat){te:TE}{pos':Pos}(hN:X.N.Nodup)(he:PE X e te)(hi:X.N[i]?=some x:=by rfl)(hx:Loc X.env.scope x:=by exact Or.inl rfl)(hs:swapsWith e (some (.Name x pos')) pos.line X.env=pure false:=by rfl)(hf:X.fn x=true∨X.env.scope.names.lookup x=some .local:=by first | exact .inl rfl | exact .inr rfl | assumption):
 PS X (.Assign [.Name x pos'] e pos) (Ug te (GL i)):=tN hN hi hx he hs hf
end
end L2
namespace L2
open PySem PySem.Spec PyProof.Rows
section
variable {X:Cx}
theorem OE{P:Program}{w:World}{vs:List (Key×Value)}:∀{ns:List Int}{us:List Value},(∀(j:Nat)(u:Value),us[j]?=some u-> ∃k x,vs[j]?=some (k,x)/\(eW P w).is k u=true)->us.length=vs.length->vs.map (·.1)=ns.map Sum.inl->IntsAre us ns:=by
 induction vs with
 |nil=>
  intro ns us h hl e
  have e1:us=[]:=List.length_eq_zero_iff.mp hl
  have e2:ns=[]:=by simpa using e.symm
  subst e1 e2
  exact .nil
 |cons v vs ih=>
  intro ns us h hl e
  cases us with
  |nil=>simp at hl
  |cons u us=>
   cases ns with
   |nil=>simp at e
   |cons n ns=>
    obtain⟨k,x,hk,hu⟩:=h 0 u rfl
    have e1:v=(k,x):=by simpa using hk
    have e2:k=Sum.inl n:=by
     have:=congrArg List.head? e
     simp at this
     rw[<-this,e1]
    subst e2
    have hu':AE (Sum.inl n) u=true:=hu
    obtain⟨i,t,q1,q2⟩ | ⟨y,t,q1,q2⟩:=gm hu'
    ·cases q1;subst q2
     exact .cons _ _ (ih (fun j u hj=>h (j+1) u (by simpa using hj)) (by simpa using hl) (by simpa using (List.cons.inj e).2))
    ·cases q1
def Qk:List V->Hp->VK->Prop:=fun vs H Q=>∃(a:Addr)(kvs:List (Key×V))(ns:List Int),vs=[V.ref a]/\H a=some (.dK kvs)/\kvs.map (·.1)=ns.map Sum.inl/\ns.length<64/\
 ∀(ns':List Int)(p:Addr),ns'.Perm ns->ns'.Pairwise (· ≤ ·)->H p=none->Q (.ref p) (upd H p (.lst (ns'.map V.int)))
theorem L1(hc:X.calm=true):AJ X (.builtin "sorted") Qk:=by
 intro pins s σ H vs us Q I r h
 obtain⟨a,kvs,ns,rfl,ha,hk,h64,q⟩:=h
 obtain⟨z,lo,ws,rel,dd⟩:=Tf I.hok ha
 rw[Vals.LC r]
 obtain⟨ep,hat⟩:=dd.dictAt
 have hlen:ws.length=ns.length:=by
  have:=congrArg List.length hk
  rw[aa,aa,rel.length]at this
  exact this
 refine Calls.call_function_entry kind_sorted plain_sorted entry_sorted (args_sorted1 _) ?_
 unfold Builtin.«sorted»
 refine aU (m:=checkCount "sorted" 1 1 _) (aV ?_)
 refine aU (PySem.W.kdu_collect (A:=X.A.in1) (PySem.W.kdl_dict (knd:=eW X.prog X.w) (kvs:=ws) (ep:=ep) lo) (I.ok.hd hc) hat (by rw[hlen];exact Ie h64) fun h' tk acc hkp hacc=>?_)
 have hal:acc.toList.length=ws.length:=by rw[aO];exact hacc.1
 have hI:IntsAre acc.toList ns:=OE (vs:=ws) (fun j u hj=>hacc.2 j u (by rw[<-Array.getElem?_toList];exact hj)) hal (by rw[<-rel.keys];exact hk)
 refine aU (wpAny_newList ?_ (by rw[hal,hlen];exact Ie h64))
 have RJ:(h'.push (seqObj "list" acc.toList.toArray 0)).get? h'.objs.size=some (seqObj "list" acc.toList.toArray 0):=aF _ rfl
 refine aU (bG (bF PyProof.Rows.slot_list_sort ⟨_,RJ,rfl⟩ PyProof.Rows.entry_list_sort
  (PyProof.Rows.list_sort_tree RJ hI (by rw[hal,hlen];exact h64) fun out ns' a1 a2 a3=>⟨_,rfl,?_⟩) (PyProof.Rows.args_list_sort _)))
 refine aV ⟨_,rfl,?_⟩
 obtain⟨MO,he'⟩:=PyProof.Rows.sortedHeap_at (vs:=acc.toList) (out:=out) RJ
 have Yy:(ns'.map V.int).length≤sizeLine:=by rw[aa,a2.length_eq];exact Ie h64
 have I1:=I.kept (t':=tk) hkp
 refine⟨.ref _,upd H h'.objs.size (.lst (ns'.map V.int)),I1.laid (t':=tk) (fun b u hb'=>?_) (aA _) ⟨Yy,out.toList,MO,tO a1,he'⟩,rfl,q ns' _ a2 a3 (I1.hok.fresh (aA _))⟩
 have hb':h'.get? b=some u:=hb'
 rw[PyProof.Rows.sortedHeap_old (aT (aC hb')) (by rw[size_push'];exact Nat.lt_succ_of_lt (aC hb'))]
 exact ai _ hb'
end
end L2
namespace L2
open PySem PySem.Spec PyProof.Rows
section
variable {prog:Program} {w:World} {A:Around} {R:Result->Shared->Prop} {I:Addr} {fp wr:List Addr} {n:Nat} {P:Nat->Value->Prop} {St:Nat->Heap->Prop} {dv:List (Str×Value)}
abbrev D8(h:Heap)(S:Addr)(its:Array Value)(c:Nat):Prop:=h.get? S=some { cls:=.type "list",dict:=none,data:=.seq its c,slots:= #[] }
theorem L3(W:Walks prog w A.in1 I fp wr n P St)(bt:Nat->Nat->Bool)(hcmp:CmpOf prog w A.in1 .Gt P bt)(S:Addr)(hSf:S∉fp):
  ∀(k j:Nat)(s:Shared)(vb:Value)(c:Nat),n-(j+1)=k->j+1≤n->St (j+1) s.heap->P (argBest bt j) vb->D8 s.heap S #[vb,vb] c->
  (∀v h' tk,P (argBest bt (n-1)) v->(∀b o,b∉wr->b≠S->s.heap.get? b=some o->h'.get? b=some o)->R (.ok (.ret v)) { s with heap:=h',toks:=tk })->
  codeAny (model prog w) A (.builtin "max.loop" ⟨[.ref I,.none,.ref S],dv⟩) R s:=by
 have Sk:S∉wr:=fun h=>hSf (W.sub _ h)
 have hname:(toString "max"++toString ".loop":String)="max.loop":=by decide
 intro k
 induction k with
 |zero=>
  intro j s vb c hk hj hst Sl hS hR
  have hin:j+1=n:=by omega
  refine bH F.entry_max_loop ?_
  rw[Around.under_plainId F.plain_max_loop _]
  refine aU (m:=seqItems? (.ref S)) (bL hS rfl ?_)
  refine aU (m:=tryCatch (pyNext (.ref I)) _) (bM (W.done s _ _ (hin▸hst) fun h' tk hk'=>?_))
  have hS':=hk' S _ Sk hS
  refine aU (m:=updateSeq S (fun _=> #[])) ?_
  refine wpAny_updateSeq hS' rfl (aU (wpAny_letGo (aV ?_)))
  exact hR vb _ tk (by rw[<-hin];exact Sl) fun b o DB IE e=>(bg _ _ (Ne.symm IE)).trans (hk' b o DB e)
 |succ k ih=>
  intro j s vb c hk hj hst Sl hS hR
  have hlt:j+1<n:=by omega
  refine bH F.entry_max_loop ?_
  rw[Around.under_plainId F.plain_max_loop _]
  refine aU (m:=seqItems? (.ref S)) (bL hS rfl ?_)
  refine aU (m:=tryCatch (pyNext (.ref I)) _) (bM (W.item (j+1) s _ _ hlt hst fun v h' tk hP IF hk'=>?_))
  have hS':=hk' S _ Sk hS
  refine aU (m:=tryCatch (holding [v,v] (richCompare .Gt v vb >>= _)) _) (bM (bG (aU (hcmp (j+1) (argBest bt j) v vb _ _ _ hP Sl ?_))))
  refine aU (bG (bE (aU (wpAny_letGo (aV ?_)))))
  cases hb:bt (j+1) (argBest bt j)with
  |true=>
   simp only[if_true]
   refine aU ?_
   refine wpAny_updateSeq hS' rfl (aU (wpAny_letGo ?_))
   rw[hname]
   refine aV ⟨bK F.plain_max_loop _,ih (j+1) _ v _ (by omega) hlt (W.frame _ _ _ IF fun b Sm o e=>?_) (by simp only[argBest,hb,if_true];exact hP) (Heap.get?_update_self _ hS' rfl) fun v' h'' ET Ql EU=>?_⟩
   ·exact(bg _ _ (fun h:S=b=>hSf (by rw[h];exact Sm))).trans e
   ·exact hR v' h'' ET Ql fun b o DB IE e=>EU b o DB IE ((bg _ _ (Ne.symm IE)).trans (hk' b o DB e))
  |false=>
   simp only[bq,if_false]
   refine aU (wpAny_letGo ?_)
   rw[hname]
   refine aV ⟨bK F.plain_max_loop _,ih (j+1) _ vb c (by omega) hlt IF (by simp only[argBest,hb,bq,if_false];exact Sl) hS' fun v' h'' ET Ql EU=>?_⟩
   exact hR v' h'' ET Ql fun b o DB IE e=>EU b o DB IE (hk' b o DB e)
theorem L4(W:Walks prog w A.in1 I fp wr n P St)(bt:Nat->Nat->Bool)(hcmp:CmpOf prog w A.in1 .Gt P bt)(S:Addr)(hSf:S∉fp){s:Shared}{c:Nat}{x:Str}{d:Value}(hst:St 0 s.heap)(hS:D8 s.heap S #[] c)
  (Yz:n=0-> ∀h' tk,(∀b o,b∉wr->b≠S->s.heap.get? b=some o->h'.get? b=some o)->R (.ok (.ret d)) { s with heap:=h',toks:=tk })
  (hR:0<n-> ∀v h' tk,P (argBest bt (n-1)) v->(∀b o,b∉wr->b≠S->s.heap.get? b=some o->h'.get? b=some o)->R (.ok (.ret v)) { s with heap:=h',toks:=tk }):
  codeAny (model prog w) A (.builtin "max.loop" ⟨[.ref I,.none,.ref S],[(x,d)]⟩) R s:=by
 have Sk:S∉wr:=fun h=>hSf (W.sub _ h)
 have hname:(toString "max"++toString ".loop":String)="max.loop":=by decide
 refine bH F.entry_max_loop ?_
 rw[Around.under_plainId F.plain_max_loop _]
 refine aU (m:=seqItems? (.ref S)) (bL hS rfl ?_)
 by_cases hn:n=0
 ·refine aU (m:=tryCatch (pyNext (.ref I)) _) (bM (W.done s _ _ (hn▸hst) fun h' tk hk'=>?_))
  refine aU (m:=rule _) (wpAny_rule ?_)
  refine aV ?_
  exact Yz hn h' tk fun b o DB _ e=>hk' b o DB e
 ·have hn:0<n:=by omega
  refine aU (m:=tryCatch (pyNext (.ref I)) _) (bM (W.item 0 s _ _ hn hst fun v h' tk hP IF hk'=>?_))
  have hS':=hk' S _ Sk hS
  refine aU (m:=updateSeq S (fun _=> #[v,v])) ?_
  refine wpAny_updateSeq hS' rfl ?_
  rw[hname]
  refine aV ⟨bK F.plain_max_loop _,L3 W bt hcmp S hSf _ 0 _ v _ rfl hn (W.frame _ _ _ IF fun b Sm o e=>?_) hP (Heap.get?_update_self _ hS' rfl) fun v' h'' ET Ql EU=>?_⟩
  ·exact(bg _ _ (fun h:S=b=>hSf (by rw[h];exact Sm))).trans e
  ·exact hR hn v' h'' ET Ql fun b o DB IE e=>EU b o DB IE ((bg _ _ (Ne.symm IE)).trans (hk' b o DB e))
end
section
variable {prog:Program} {w:World} {A:Around} {E:Value->Shared->Prop} {s:Shared} {l:Addr} {Q:Value->Shared->Prop}
theorem OG(a v:Value):argsOk "max" ⟨[a],[(Str.ofString "default",v)]⟩:=by unfold argsOk;kernel_rfl
theorem Qm{du:Value}{its:List Value}{ns:List Int}(hh:A.handled=none)(hl:s.heap.IsList l its.toArray)(hi:IntsAre its ns)
  (h0:ns=[]-> ∀h' tk,(∀b o,s.heap.get? b=some o->h'.get? b=some o)->Q du { s with heap:=h',toks:=tk })
  (h:∀h' tk M t',(∀b o,s.heap.get? b=some o->h'.get? b=some o)->M∈ns->(∀a,a∈ns->a≤M)->Q (.int M t') { s with heap:=h',toks:=tk }):
  wpAny (model prog w) A (call (.builtin "max") [.ref l] [(Str.ofString "default",du)]) Q E s:=by
 obtain⟨xs,e⟩:=hi.allInts.items
 have hn:numsOf (intItems xs).toList=ns:=by rw[<-e];exact hi.numsOf
 rw[nums_intItems]at hn
 subst hn
 rw[e]at hl
 have hname:(toString "max"++toString ".loop":String)="max.loop":=by decide
 refine kmk_tree F.kind_max F.plain_max F.entry_max (OG _ _) ?_
 refine aU (m:=Builtin.Builtins.bindParams "max" ["key","default"] 0 ⟨[],[(Str.ofString "default",du)]⟩) (wpAny_of_eq (show Builtin.Builtins.bindParams "max" ["key","default"] 0 ⟨[],[(Str.ofString "default",du)]⟩=pure [none,some du]from rfl) ?_)
 refine aU (aV ?_)
 refine aU (iter_intList hl fun s₂ e st hfp hlI=>?_)
 subst e
 refine aU (bJ ?_)
 have W:=Walks.list (A:=A.in1) (prog:=prog) (w:=w) hh s.heap.objs.size l hlI (intItems xs)
 rw[hname]
 refine aV ⟨bK F.plain_max_loop _,L4 W _ (CmpOf.ints_gt (numAt xs) (fun _ _=>intItems_at)) _ (fun hm=>bX _ (hfp _ hm)) (W.frame _ _ _ st fun b _ o e=>ai _ e) (aF _ rfl) ?_ ?_⟩
 ·intro hz h' tk hk
  refine h0 ?_ h' tk fun b o e=>hk b o ?_ ?_ (ai _ (ai _ e))
  ·have:xs.size=0:=by simpa [intItems] using hz
   rw[<-List.length_eq_zero_iff,aa,aO];exact this
  ·intro hm
   exact absurd (bW.mp hm▸aC e) (bX _)
  ·intro hm
   have hq:=aC e
   rw[hm,size_push']at hq
   exact Nat.not_lt_of_le (Nat.le_succ _) hq
 ·intro hp v h' tk hv hk
  have qP:0<xs.size:=by simpa [intItems] using hp
  obtain⟨t,rfl⟩:=intItems_at hv
  obtain⟨h1,h2⟩:=argBest_gt (numAt xs) (xs.size-1)
  have es:(intItems xs).size=xs.size:=by simp[intItems]
  rw[es]
  refine h h' tk _ t (fun b o e=>hk b o ?_ ?_ (ai _ (ai _ e))) ?_ fun a ha=>?_
  ·intro hm
   exact absurd (bW.mp hm▸aC e) (bX _)
  ·intro hm
   have hq:=aC e
   rw[hm,size_push']at hq
   exact Nat.not_lt_of_le (Nat.le_succ _) hq
  ·rw[numAt_eq];exact PySem.getD_mem (by rw[aa,aO];omega)
  ·obtain⟨j,hj,rfl⟩:=mem_getD ha
   rw[aa,aO]at hj
   rw[<-numAt_eq];exact h2 j (by omega)
end
section
variable {prog:Program} {w:World} {A:Around} {R:Result->Shared->Prop} {I:Addr} {fp wr:List Addr} {n:Nat} {P:Nat->Value->Prop} {St:Nat->Heap->Prop} {dv:List (Str×Value)}
theorem L5(W:Walks prog w A.in1 I fp wr n P St)(bt:Nat->Nat->Bool)(hcmp:CmpOf prog w A.in1 .Lt P bt)(S:Addr)(hSf:S∉fp):
  ∀(k j:Nat)(s:Shared)(vb:Value)(c:Nat),n-(j+1)=k->j+1≤n->St (j+1) s.heap->P (argBest bt j) vb->D8 s.heap S #[vb,vb] c->
  (∀v h' tk,P (argBest bt (n-1)) v->(∀b o,b∉wr->b≠S->s.heap.get? b=some o->h'.get? b=some o)->R (.ok (.ret v)) { s with heap:=h',toks:=tk })->
  codeAny (model prog w) A (.builtin "min.loop" ⟨[.ref I,.none,.ref S],dv⟩) R s:=by
 have Sk:S∉wr:=fun h=>hSf (W.sub _ h)
 have hname:(toString "min"++toString ".loop":String)="min.loop":=by decide
 intro k
 induction k with
 |zero=>
  intro j s vb c hk hj hst Sl hS hR
  have hin:j+1=n:=by omega
  refine bH F.entry_min_loop ?_
  rw[Around.under_plainId F.plain_min_loop _]
  refine aU (m:=seqItems? (.ref S)) (bL hS rfl ?_)
  refine aU (m:=tryCatch (pyNext (.ref I)) _) (bM (W.done s _ _ (hin▸hst) fun h' tk hk'=>?_))
  have hS':=hk' S _ Sk hS
  refine aU (m:=updateSeq S (fun _=> #[])) ?_
  refine wpAny_updateSeq hS' rfl (aU (wpAny_letGo (aV ?_)))
  exact hR vb _ tk (by rw[<-hin];exact Sl) fun b o DB IE e=>(bg _ _ (Ne.symm IE)).trans (hk' b o DB e)
 |succ k ih=>
  intro j s vb c hk hj hst Sl hS hR
  have hlt:j+1<n:=by omega
  refine bH F.entry_min_loop ?_
  rw[Around.under_plainId F.plain_min_loop _]
  refine aU (m:=seqItems? (.ref S)) (bL hS rfl ?_)
  refine aU (m:=tryCatch (pyNext (.ref I)) _) (bM (W.item (j+1) s _ _ hlt hst fun v h' tk hP IF hk'=>?_))
  have hS':=hk' S _ Sk hS
  refine aU (m:=tryCatch (holding [v,v] (richCompare .Lt v vb >>= _)) _) (bM (bG (aU (hcmp (j+1) (argBest bt j) v vb _ _ _ hP Sl ?_))))
  refine aU (bG (bE (aU (wpAny_letGo (aV ?_)))))
  cases hb:bt (j+1) (argBest bt j)with
  |true=>
   simp only[if_true]
   refine aU ?_
   refine wpAny_updateSeq hS' rfl (aU (wpAny_letGo ?_))
   rw[hname]
   refine aV ⟨bK F.plain_min_loop _,ih (j+1) _ v _ (by omega) hlt (W.frame _ _ _ IF fun b Sm o e=>?_) (by simp only[argBest,hb,if_true];exact hP) (Heap.get?_update_self _ hS' rfl) fun v' h'' ET Ql EU=>?_⟩
   ·exact(bg _ _ (fun h:S=b=>hSf (by rw[h];exact Sm))).trans e
   ·exact hR v' h'' ET Ql fun b o DB IE e=>EU b o DB IE ((bg _ _ (Ne.symm IE)).trans (hk' b o DB e))
  |false=>
   simp only[bq,if_false]
   refine aU (wpAny_letGo ?_)
   rw[hname]
   refine aV ⟨bK F.plain_min_loop _,ih (j+1) _ vb c (by omega) hlt IF (by simp only[argBest,hb,bq,if_false];exact Sl) hS' fun v' h'' ET Ql EU=>?_⟩
   exact hR v' h'' ET Ql fun b o DB IE e=>EU b o DB IE (hk' b o DB e)
theorem L6(W:Walks prog w A.in1 I fp wr n P St)(bt:Nat->Nat->Bool)(hcmp:CmpOf prog w A.in1 .Lt P bt)(S:Addr)(hSf:S∉fp){s:Shared}{c:Nat}{x:Str}{d:Value}(hst:St 0 s.heap)(hS:D8 s.heap S #[] c)
  (Yz:n=0-> ∀h' tk,(∀b o,b∉wr->b≠S->s.heap.get? b=some o->h'.get? b=some o)->R (.ok (.ret d)) { s with heap:=h',toks:=tk })
  (hR:0<n-> ∀v h' tk,P (argBest bt (n-1)) v->(∀b o,b∉wr->b≠S->s.heap.get? b=some o->h'.get? b=some o)->R (.ok (.ret v)) { s with heap:=h',toks:=tk }):
  codeAny (model prog w) A (.builtin "min.loop" ⟨[.ref I,.none,.ref S],[(x,d)]⟩) R s:=by
 have Sk:S∉wr:=fun h=>hSf (W.sub _ h)
 have hname:(toString "min"++toString ".loop":String)="min.loop":=by decide
 refine bH F.entry_min_loop ?_
 rw[Around.under_plainId F.plain_min_loop _]
 refine aU (m:=seqItems? (.ref S)) (bL hS rfl ?_)
 by_cases hn:n=0
 ·refine aU (m:=tryCatch (pyNext (.ref I)) _) (bM (W.done s _ _ (hn▸hst) fun h' tk hk'=>?_))
  refine aU (m:=rule _) (wpAny_rule ?_)
  refine aV ?_
  exact Yz hn h' tk fun b o DB _ e=>hk' b o DB e
 ·have hn:0<n:=by omega
  refine aU (m:=tryCatch (pyNext (.ref I)) _) (bM (W.item 0 s _ _ hn hst fun v h' tk hP IF hk'=>?_))
  have hS':=hk' S _ Sk hS
  refine aU (m:=updateSeq S (fun _=> #[v,v])) ?_
  refine wpAny_updateSeq hS' rfl ?_
  rw[hname]
  refine aV ⟨bK F.plain_min_loop _,L5 W bt hcmp S hSf _ 0 _ v _ rfl hn (W.frame _ _ _ IF fun b Sm o e=>?_) hP (Heap.get?_update_self _ hS' rfl) fun v' h'' ET Ql EU=>?_⟩
  ·exact(bg _ _ (fun h:S=b=>hSf (by rw[h];exact Sm))).trans e
  ·exact hR hn v' h'' ET Ql fun b o DB IE e=>EU b o DB IE ((bg _ _ (Ne.symm IE)).trans (hk' b o DB e))
end
section
variable {prog:Program} {w:World} {A:Around} {E:Value->Shared->Prop} {s:Shared} {l:Addr} {Q:Value->Shared->Prop}
theorem OH(a v:Value):argsOk "min" ⟨[a],[(Str.ofString "default",v)]⟩:=by unfold argsOk;kernel_rfl
theorem Qn{du:Value}{its:List Value}{ns:List Int}(hh:A.handled=none)(hl:s.heap.IsList l its.toArray)(hi:IntsAre its ns)
  (h0:ns=[]-> ∀h' tk,(∀b o,s.heap.get? b=some o->h'.get? b=some o)->Q du { s with heap:=h',toks:=tk })
  (h:∀h' tk M t',(∀b o,s.heap.get? b=some o->h'.get? b=some o)->M∈ns->(∀a,a∈ns->M≤a)->Q (.int M t') { s with heap:=h',toks:=tk }):
  wpAny (model prog w) A (call (.builtin "min") [.ref l] [(Str.ofString "default",du)]) Q E s:=by
 obtain⟨xs,e⟩:=hi.allInts.items
 have hn:numsOf (intItems xs).toList=ns:=by rw[<-e];exact hi.numsOf
 rw[nums_intItems]at hn
 subst hn
 rw[e]at hl
 have hname:(toString "min"++toString ".loop":String)="min.loop":=by decide
 refine kmk_tree F.kind_min F.plain_min F.entry_min (OH _ _) ?_
 refine aU (m:=Builtin.Builtins.bindParams "min" ["key","default"] 0 ⟨[],[(Str.ofString "default",du)]⟩) (wpAny_of_eq (show Builtin.Builtins.bindParams "min" ["key","default"] 0 ⟨[],[(Str.ofString "default",du)]⟩=pure [none,some du]from rfl) ?_)
 refine aU (aV ?_)
 refine aU (iter_intList hl fun s₂ e st hfp hlI=>?_)
 subst e
 refine aU (bJ ?_)
 have W:=Walks.list (A:=A.in1) (prog:=prog) (w:=w) hh s.heap.objs.size l hlI (intItems xs)
 rw[hname]
 refine aV ⟨bK F.plain_min_loop _,L6 W _ (CmpOf.ints_lt (numAt xs) (fun _ _=>intItems_at)) _ (fun hm=>bX _ (hfp _ hm)) (W.frame _ _ _ st fun b _ o e=>ai _ e) (aF _ rfl) ?_ ?_⟩
 ·intro hz h' tk hk
  refine h0 ?_ h' tk fun b o e=>hk b o ?_ ?_ (ai _ (ai _ e))
  ·have:xs.size=0:=by simpa [intItems] using hz
   rw[<-List.length_eq_zero_iff,aa,aO];exact this
  ·intro hm
   exact absurd (bW.mp hm▸aC e) (bX _)
  ·intro hm
   have hq:=aC e
   rw[hm,size_push']at hq
   exact Nat.not_lt_of_le (Nat.le_succ _) hq
 ·intro hp v h' tk hv hk
  have qP:0<xs.size:=by simpa [intItems] using hp
  obtain⟨t,rfl⟩:=intItems_at hv
  obtain⟨h1,h2⟩:=argBest_lt (numAt xs) (xs.size-1)
  have es:(intItems xs).size=xs.size:=by simp[intItems]
  rw[es]
  refine h h' tk _ t (fun b o e=>hk b o ?_ ?_ (ai _ (ai _ e))) ?_ fun a ha=>?_
  ·intro hm
   exact absurd (bW.mp hm▸aC e) (bX _)
  ·intro hm
   have hq:=aC e
   rw[hm,size_push']at hq
   exact Nat.not_lt_of_le (Nat.le_succ _) hq
  ·rw[numAt_eq];exact PySem.getD_mem (by rw[aa,aO];omega)
  ·obtain⟨j,hj,rfl⟩:=mem_getD ha
   rw[aa,aO]at hj
   rw[<-numAt_eq];exact h2 j (by omega)
end
section
variable {X:Cx} {p pos kp:Pos} {e d:Expr} {t:TA}
def To(K:PySem.W.Frag)(dv:V):List V->Hp->VK->Prop:=fun vs H Q=>∃(a:Addr)(ns:List Int),vs=[V.ref a]/\dG K H a (ns.map V.int)/\(ns=[]->Q dv H)/\ ∀m,m∈ns->(∀y,y∈ns->y≤m)->Q (.int m) H
def Tr(K:PySem.W.Frag)(dv:V):List V->Hp->VK->Prop:=fun vs H Q=>∃(a:Addr)(ns:List Int),vs=[V.ref a]/\dG K H a (ns.map V.int)/\(ns=[]->Q dv H)/\ ∀m,m∈ns->(∀y,y∈ns->m≤y)->Q (.int m) H
theorem Nj{dv:V}(hc:X.calm=true)(hg:Gl X "max")(hm:X.mg "max"=none)(ha:PA X [e] t)(hd:PE X d (tC dv))(he:backTo pos (starEach [e] X.env)=(false,eval e X.env)::backTo pos (starEach [] X.env):=by rfl)
  (hpl:(backTo pos (starEach [e] X.env)).any (·.1)=false:=by rfl):
  PE X (.Call (.Name "max" p) [e] [⟨some "default",d,kp⟩] pos) (Xi (To X.K dv) t):=by
 intro pins s σ H Q I h
 refine wpAny_Call_Name_kw (qO I hg hm boot_max ?_)
 refine callWith_kw (ig (ha pos pins s σ H _ I h) fun us s1 ⟨vs,H1,I1,r1,q1⟩=>kws_cons (ig (hd pins s1 σ H1 (fun v H2=>v=dv/\To X.K dv vs H2 Q) I1 ⟨rfl,q1⟩) fun u s2 ⟨x,H2,I2,rx,ex,q2⟩=>kws_nil ?_)) he hpl
 subst ex
 obtain⟨a,ns,rfl,hs,h0,h1⟩:=q2
 obtain⟨its,rv,hl,_⟩:=I2.list hs
 rw[Vals.LC r1]
 exact Qm (I2.ok.hd hc) hl.isList rv.ints (fun e h' tk hk=>⟨_,H2,I2.kept hk,rx,h0 e⟩) fun h' tk M t' hk hm1 hm2=>⟨.int M,H2,I2.kept hk,⟨_,rfl⟩,h1 M hm1 hm2⟩
theorem Nk{dv:V}(hc:X.calm=true)(hg:Gl X "min")(hm:X.mg "min"=none)(ha:PA X [e] t)(hd:PE X d (tC dv))(he:backTo pos (starEach [e] X.env)=(false,eval e X.env)::backTo pos (starEach [] X.env):=by rfl)
  (hpl:(backTo pos (starEach [e] X.env)).any (·.1)=false:=by rfl):
  PE X (.Call (.Name "min" p) [e] [⟨some "default",d,kp⟩] pos) (Xi (Tr X.K dv) t):=by
 intro pins s σ H Q I h
 refine wpAny_Call_Name_kw (qO I hg hm boot_min ?_)
 refine callWith_kw (ig (ha pos pins s σ H _ I h) fun us s1 ⟨vs,H1,I1,r1,q1⟩=>kws_cons (ig (hd pins s1 σ H1 (fun v H2=>v=dv/\Tr X.K dv vs H2 Q) I1 ⟨rfl,q1⟩) fun u s2 ⟨x,H2,I2,rx,ex,q2⟩=>kws_nil ?_)) he hpl
 subst ex
 obtain⟨a,ns,rfl,hs,h0,h1⟩:=q2
 obtain⟨its,rv,hl,_⟩:=I2.list hs
 rw[Vals.LC r1]
 exact Qn (I2.ok.hd hc) hl.isList rv.ints (fun e h' tk hk=>⟨_,H2,I2.kept hk,rx,h0 e⟩) fun h' tk M t' hk hm1 hm2=>⟨.int M,H2,I2.kept hk,⟨_,rfl⟩,h1 M hm1 hm2⟩
end
end L2
namespace L2
open PySem PySem.Spec PyProof.Rows
theorem Sn:typeLookup (.type "zip") "keys"=pure none:=am_miss_of_fast (by kernel_rfl)
theorem So:typeLookup (.type "zip") "__getattr__"=pure none:=am_miss_of_fast (by kernel_rfl)
theorem Qo:entryFor table "zip.__getattribute__"=some Builtin.«object.__getattribute__»:=
 entryFor_alias (id':="object.__getattribute__") (by kernel_rfl) (by first | rfl | decide+kernel) (by decide+kernel) (by kernel_rfl)
theorem Sq(a:Addr)(vs:Array Value)(u:Tok):
  Meets (Builtin.«object.__getattribute__» ⟨[.ref a,.str "keys" u],[]⟩) (fun A R s=>s.heap.get? a=some { cls:=.type "zip",dict:=none,data:=.fields vs,slots:= #[] }/\raisesAttr (.ref a) "keys" A R s):=
 Meets.of_wp fun prog w A R s hs=>by
  obtain⟨hp,g,d,tk,os⟩:=s
  obtain⟨hx,hs⟩:=hs
  have hT:(⟨hp,g,d,tk,os⟩:Shared).TypeIs (.ref a) "zip":=⟨_,hx,rfl⟩
  have f4:=Sn
  unfold Builtin.«object.__getattribute__»
  repeat (any_goals (first | assumption | wp_step))
  exact wpAny_raiseAttrError hs.1 hs.2 (attrMsg_fits (by decide+kernel) (by decide+kernel))
theorem L7{prog:Program}{w:World}{A:Around}{E:Value->Shared->Prop}{s:Shared}{a:Addr}{vs:Array Value}{Q:Option Value->Shared->Prop}
  (hx:s.heap.get? a=some { cls:=.type "zip",dict:=none,data:=.fields vs,slots:= #[] })(hA:A.handled=none)
  (h:∀h' tk,(∀b o,s.heap.get? b=some o->h'.get? b=some o)->Q none { s with heap:=h',toks:=tk }):
  wpAny (model prog w) A (getAttr? (.ref a) "keys") Q E s:=by
 obtain⟨hp,g,d,tk,os⟩:=s
 have hT:∀tk',(⟨hp,g,d,tk',os⟩:Shared).TypeIs (.ref a) "zip":=fun _=>⟨_,hx,rfl⟩
 have f1:=sub_AttributeError
 have f3:=F.slot_zip_getattribute.lookup
 have f4:=F.slot_zip_getattribute.bind (.ref a)
 have f5:=So
 unfold getAttr? getAttrBy? getAttrBy
 repeat (any_goals (first | assumption | exact hT _ | ((with_reducible show wpAny _ _ (call (Value.builtin "zip.__getattribute__") _ _) _ _ _);refine call_meets F.slot_zip_getattribute (hT _) Qo (F.args_zip_getattribute_2 _ _) (Sq a vs _) ⟨hx,hA,fun h' tk' e hx'=>?_⟩) | wp_step))
 obtain⟨t',u',he⟩:=hx'.there
 show wpAny _ _ (getattributeRaised _ _ _ _ _ _ _) _ _ _
 unfold getattributeRaised
 repeat (any_goals (first | assumption | wp_step))
 exact h _ _ hx'.keeps
abbrev L8(h:Heap)(z TI TO T:Addr)(b:Bool):Prop:=h.get? z=some { cls:=.type "zip",dict:=none,data:=.fields #[rawInt T,.bool b,.bool false,.ref TI,.ref TO],slots:= #[] }
section
variable {prog:Program} {w:World} {A:Around} {E:Value->Shared->Prop} {s:Shared}
theorem Kg{a:Addr}{Q:Option Obj->Shared->Prop}(h:Q (s.heap.get? a) s):wpAny (model prog w) A (loadIfAlive a) Q E s:=fun Γ p _=>by
 unfold loadIfAlive
 rw[Sem.wp_loadIfAlive]
 exact h
theorem Hh{z TI TO T:Addr}{b:Bool}{oT:Obj}{Q:Bool->Shared->Prop}(hz:L8 s.heap z TI TO T b)(hT:s.heap.get? T=some oT)
  (h:∀h',L8 h' z TI TO T true->Heap.SameBut z s.heap h'->Q false { s with heap:=h' }):wpAny (model prog w) A (Builtin.SmallTypes.ownedTupleIsFree (.ref z)) Q E s:=by
 unfold Builtin.SmallTypes.ownedTupleIsFree
 refine aU (wpAny_field hz rfl (x:=rawInt T) rfl ?_)
 refine aU (m:=loadIfAlive ((T:Int).toNat)) (Kg ?_)
 rw[bw,hT]
 simp only[Option.isNone_some,bq,if_false]
 refine aU (wpAny_field hz rfl (x:=.bool b) rfl ?_)
 cases b with
 |true=>
  rw[bz (by decide)]
  exact aV (h s.heap hz (Heap.SameBut.refl ..))
 |false=>
  rw[bA (by decide)]
  exact aU (wpAny_setField_rec hz (by simp) fun h₁ hz₁ hs₁=>aV (h h₁ hz₁ hs₁))
theorem OI{z TI TO T i1 i2 l1 l2:Addr}{b:Bool}{oT:Obj}{k1 k2:Nat}{xs ys:Array Value}{x y:Value}{Q:Value->Shared->Prop}(D:ZipApart z TI TO i1 i2 l1 l2)(hz:L8 s.heap z TI TO T b)(hT:s.heap.get? T=some oT)
  (hTI:IsPair s.heap TI (.ref i1) (.ref i2))(h1:s.heap.IsListIter i1 l1 k1)(h2:s.heap.IsListIter i2 l2 k2)(hl1:s.heap.IsList l1 xs)(hl2:s.heap.IsList l2 ys)(hx:xs[k1]?=some x)(hy:ys[k2]?=some y)
  (hQ:∀h',L8 h' z TI TO T true->h'.IsListIter i1 l1 (k1+1)->h'.IsListIter i2 l2 (k2+1)->IsPair h' s.heap.objs.size x y->h'.objs.size=s.heap.objs.size+1->
   (∀c o,c≠z->c≠i1->c≠i2->s.heap.get? c=some o->h'.get? c=some o)->Q (.ref s.heap.objs.size) { s with heap:=h' }):
  wpAny (model prog w) A (Builtin.«zip.__next__» ⟨[.ref z],[]⟩) (fun fin s'=>∃v,fin= .done (.ret v)/\Q v s') E s:=by
 refine aU (m:=field (.ref z) 2) (wpAny_field hz rfl (x:=.bool false) rfl ?_)
 refine aU (m:=field (.ref z) 3) (wpAny_field hz rfl (x:=.ref TI) rfl ?_)
 refine aU (bL hTI rfl ?_)
 refine aU (m:=Builtin.SmallTypes.ownedTupleIsFree (.ref z)) (Hh hz hT fun h₁ hz₁ hs₁=>?_)
 simp only[bq,if_false]
 refine aU ?_
 rw[<-Array.forIn_toList]
 simp only[List.forIn_cons,List.forIn_nil]
 refine aU (aU (bG ?_))
 refine aU (m:=Builtin.SmallTypes.nextOf (.ref i1)) (wpAny_nextOf_list_item (h1.extBut hs₁.extBut D.i1z) (hl1.extBut hs₁.extBut D.l1z) hx fun h₂ h1₂ hs₂=>aV (aV ?_))
 refine aU (aU (bG ?_))
 refine aU (m:=Builtin.SmallTypes.nextOf (.ref i2)) (wpAny_nextOf_list_item ((h2.extBut hs₁.extBut D.i2z).extBut hs₂.extBut D.i12.symm) ((hl2.extBut hs₁.extBut D.l2z).extBut hs₂.extBut D.l2i1) hy fun h₃ h2₃ hs₃=>aV (aV (aV ?_)))
 refine aU (wpAny_newTuple (items:=[x,y]) ?_ (by show 2≤sizeLine;decide))
 have hsz:h₃.objs.size=s.heap.objs.size:=by rw[hs₃.1,hs₂.1,hs₁.1]
 have hz₃:L8 h₃ z TI TO T true:=hs₃.extBut _ _ D.i2z.symm (hs₂.extBut _ _ D.i1z.symm hz₁)
 refine aV ⟨_,rfl,?_⟩
 show Q (.ref h₃.objs.size) _
 rw[hsz]
 refine hQ _ (ai _ hz₃) ((h1₂.extBut hs₃.extBut D.i12).at fun o e=>ai _ e) (h2₃.at fun o e=>ai _ e) ?_ ?_ fun c o c1 c3 c4 e=>ai _ (hs₃.extBut _ _ c4 (hs₂.extBut _ _ c3 (hs₁.extBut _ _ c1 e)))
 ·rw[<-hsz];exact aF _ rfl
 ·rw[size_push',hsz]
theorem Qp{z TI TO T i1 i2 l1 l2:Addr}{b:Bool}{oT:Obj}{k1 k2:Nat}{xs ys:Array Value}{Q:Fin->Shared->Prop}(hh:A.handled=none)(D:ZipApart z TI TO i1 i2 l1 l2)(hz:L8 s.heap z TI TO T b)(hT:s.heap.get? T=some oT)
  (hTI:IsPair s.heap TI (.ref i1) (.ref i2))(h1:s.heap.IsListIter i1 l1 k1)(h2:s.heap.IsListIter i2 l2 k2)(hl1:s.heap.IsList l1 xs)(hl2:s.heap.IsList l2 ys)(hx:xs[k1]?=none)
  (hE:∀h' e,(∀c o,c≠z->c≠i1->c≠i2->s.heap.get? c=some o->h'.get? c=some o)->(∃o,h'.get? e=some o/\o.cls= .type "StopIteration")->E (.ref e) { s with heap:=h' }):
  wpAny (model prog w) A (Builtin.«zip.__next__» ⟨[.ref z],[]⟩) Q E s:=by
 refine aU (m:=field (.ref z) 2) (wpAny_field hz rfl (x:=.bool false) rfl ?_)
 refine aU (m:=field (.ref z) 3) (wpAny_field hz rfl (x:=.ref TI) rfl ?_)
 refine aU (bL hTI rfl ?_)
 refine aU (m:=Builtin.SmallTypes.ownedTupleIsFree (.ref z)) (Hh hz hT fun h₁ hz₁ hs₁=>?_)
 simp only[bq,if_false]
 refine aU ?_
 rw[<-Array.forIn_toList]
 simp only[List.forIn_cons,List.forIn_nil]
 refine aU (aU (bG ?_))
 refine aU (m:=Builtin.SmallTypes.nextOf (.ref i1)) (wpAny_nextOf_list_end hh (h1.extBut hs₁.extBut D.i1z) (hl1.extBut hs₁.extBut D.l1z) hx fun h₂ e hs₂ he=>?_)
 exact hE h₂ e (fun c o c1 c3 _ q=>hs₂ _ _ c3 (hs₁.extBut _ _ c1 q)) he
end
def vR(ns:List Int)(ys:List V)(i:Nat):List (Key×V):=LF [] (((ns.zip ys).take i).map fun z=>(Sum.inl z.1,z.2))
theorem Cb{ns:List Int}{ys:List V}{i:Nat}{n:Int}{y:V}(hn:ns[i]?=some n)(hy:ys[i]?=some y):vR ns ys (i+1)=putK (vR ns ys i) (Sum.inl n) y:=by
 unfold vR LF
 have e:(ns.zip ys)[i]?=some (n,y):=by rw[List.getElem?_zip_eq_some];exact⟨hn,hy⟩
 rw[List.take_add_one,e]
 simp only[Option.toList_some,ay,aL,bV,List.foldl_append,bU,List.foldl_nil]
theorem vS(ns:List Int)(ys:List V):∀i,(vR ns ys i).length≤i
 |0=>by simp[vR,LF]
 |i+1=>by
  have ih:=vS ns ys i
  cases hn:ns[i]? with
  |none=>
   have:(ns.zip ys).take (i+1)=(ns.zip ys).take i:=by
    have h1:(ns.zip ys).length≤i:=by
     rw[List.length_zip]
     have:=List.getElem?_eq_none_iff.mp hn
     omega
    rw[List.take_of_length_le h1,List.take_of_length_le (by omega)]
   unfold vR at ih ⊢
   rw[this];omega
  |some n=>cases hy:ys[i]? with
   |none=>
    have:(ns.zip ys).take (i+1)=(ns.zip ys).take i:=by
     have h1:(ns.zip ys).length≤i:=by
      rw[List.length_zip]
      have:=List.getElem?_eq_none_iff.mp hy
      omega
     rw[List.take_of_length_le h1,List.take_of_length_le (by omega)]
    unfold vR at ih ⊢
    rw[this];omega
   |some y=>
    rw[Cb hn hy]
    have:=k9 (vR ns ys i) (Sum.inl n) y
    omega
namespace ZF
theorem EV:entryFor table "dict.update.loop"=some Builtin.«dict.update.loop»:=entryFor_of_tree (by kernel_rfl)
theorem tU:plainId "dict.update.loop"=true:=by decide+kernel
end ZF
section
variable {prog:Program} {w:World} {A:Around} {E:Value->Shared->Prop} {s:Shared}
structure vU(z TI TO i1 i2 l1 l2:Addr)(xs ys:Array Value)(i:Nat)(h:Heap):Prop where
 hz:IsZip h z TI TO .none∨ ∃T b o,L8 h z TI TO T b/\h.get? T=some o/\T≠z/\T≠TO/\T≠i1/\T≠i2
 hTI:IsPair h TI (.ref i1) (.ref i2)
 hTO:∃a b,IsPair h TO a b
 h1:h.IsListIter i1 l1 i
 h2:h.IsListIter i2 l2 i
 hl1:h.IsList l1 xs
 hl2:h.IsList l2 ys
theorem vU.typeIs{z TI TO i1 i2 l1 l2:Addr}{xs ys:Array Value}{i:Nat}(Z:vU z TI TO i1 i2 l1 l2 xs ys i s.heap):s.TypeIs (.ref z) "zip":=by
 rcases Z.hz with h | ⟨T,b,o,h,_⟩
 ·exact⟨_,h,rfl⟩
 ·exact⟨_,h,rfl⟩
theorem vU.next{z TI TO i1 i2 l1 l2:Addr}{xs ys:Array Value}{i:Nat}{x y:Value}{Q:Option Value->Shared->Prop}(D:ZipApart z TI TO i1 i2 l1 l2)(Z:vU z TI TO i1 i2 l1 l2 xs ys i s.heap)(hx:xs[i]?=some x)(hy:ys[i]?=some y)
  (hQ:∀h',vU z TI TO i1 i2 l1 l2 xs ys (i+1) h'->IsPair h' s.heap.objs.size x y->(∀c o,c≠z->c≠TO->c≠i1->c≠i2->s.heap.get? c=some o->h'.get? c=some o)->Q (some (.ref s.heap.objs.size)) { s with heap:=h' }):
  wpAny (model prog w) A (pyNext (.ref z)) Q E s:=by
 have hT:=Z.typeIs
 obtain⟨hz,hTI,⟨a,b,hTO⟩,h1,h2,hl1,hl2⟩:=Z
 have lt:∀{c o},s.heap.get? c=some o->s.heap.objs.size≠c:=fun e=>Nat.ne_of_gt (aC e)
 have YA:s.heap.objs.size≠i1:=by obtain⟨_,e,_⟩:=h1;exact lt e
 have YB:s.heap.objs.size≠i2:=by obtain⟨_,e,_⟩:=h2;exact lt e
 rcases hz with hz | ⟨T,bb,oT,hz,Vq,t1,t2,t3,t4⟩
 ·refine wpAny_pyNext_zip_item D hz hTI hTO h1 h2 hl1 hl2 hx hy fun h' a1 a2 a3 a4 a5 a6 hk=>hQ h' ⟨.inr ⟨s.heap.objs.size,false,_,a1,a5,lt hz,lt hTO,YA,YB⟩,hk _ _ D.TIz D.TITO D.TIi1 D.TIi2 hTI,⟨_,_,a2⟩,a3,a4,
   hl1.at fun o e=>hk _ o D.l1z D.l1TO D.l1i1 D.l1i2 e,hl2.at fun o e=>hk _ o D.l2z D.l2TO D.l2i1 D.l2i2 e⟩ a5 hk
 ·unfold pyNext
  refine aU (wpAny_attempt (wpAny_callSpecial?_slot (name:=Str.ofString "__next__") hT F.slot_zip_next
   (bF F.slot_zip_next hT F.entry_zip_next (OI D hz Vq hTI h1 h2 hl1 hl2 hx hy fun h' a1 a3 a4 a5 a6 hk=>aV ?_) (F.args_zip_next_1 _))))
  exact hQ h' ⟨.inr ⟨T,true,_,a1,hk _ _ t1 t3 t4 Vq,t1,t2,t3,t4⟩,hk _ _ D.TIz D.TIi1 D.TIi2 hTI,⟨_,_,hk _ _ D.TOz D.TOi1 D.TOi2 hTO⟩,a3,a4,hl1.at fun o e=>hk _ o D.l1z D.l1i1 D.l1i2 e,hl2.at fun o e=>hk _ o D.l2z D.l2i1 D.l2i2 e⟩ a5
   fun c o c1 _ c3 c4 e=>hk c o c1 c3 c4 e
theorem vU.stop{z TI TO i1 i2 l1 l2:Addr}{xs ys:Array Value}{i:Nat}{Q:Option Value->Shared->Prop}(hh:A.handled=none)(D:ZipApart z TI TO i1 i2 l1 l2)(Z:vU z TI TO i1 i2 l1 l2 xs ys i s.heap)(hx:xs[i]?=none)
  (hQ:∀h',(∀c o,c≠z->c≠TO->c≠i1->c≠i2->s.heap.get? c=some o->h'.get? c=some o)->Q none { s with heap:=h' }):wpAny (model prog w) A (pyNext (.ref z)) Q E s:=by
 have hT:=Z.typeIs
 obtain⟨hz,hTI,⟨a,b,hTO⟩,h1,h2,hl1,hl2⟩:=Z
 rcases hz with hz | ⟨T,bb,oT,hz,Vq,t1,t2,t3,t4⟩
 ·exact wpAny_pyNext_zip_end hh D hz hTI hTO h1 h2 hl1 hl2 (.inl hx) hQ
 ·unfold pyNext
  refine aU (wpAny_attempt (wpAny_callSpecial?_slot (name:=Str.ofString "__next__") hT F.slot_zip_next
   (bF F.slot_zip_next hT F.entry_zip_next (Qp hh D hz Vq hTI h1 h2 hl1 hl2 hx fun h' e hk he=>?_) (F.args_zip_next_1 _))))
  obtain⟨o,ho,hc⟩:=he
  refine aU (wpAny_isInstance (T:="StopIteration") (b:=true) ⟨o,ho,hc⟩ isSubtype_stop ?_)
  exact aV (hQ _ fun c o c1 _ c3 c4 e=>hk c o c1 c3 c4 e)
theorem Ss{z TI TO i1 i2 l1 l2 d:Addr}{xs ys:Array Value}{ns:List Int}{yv:List V}{R:Result->Shared->Prop}(hh:A.handled=none)(D:ZipApart z TI TO i1 i2 l1 l2)(dz:d≠z)(YC:d≠TO)(d1:d≠i1)(d2:d≠i2)(dTI:d≠TI)(dl1:d≠l1)(dl2:d≠l2)
  (rx:Vals (ns.map V.int) xs.toList)(ry:Vals yv ys.toList)(hle:ns.length=yv.length)(hsz:ns.length≤sizeLine):
  ∀(k i:Nat)(s:Shared)(m:Nat),ns.length-i=k->i≤ns.length->vU z TI TO i1 i2 l1 l2 xs ys i s.heap->(∃ws,KV (vR ns yv i) ws/\s.heap.DictOf (eW prog w) d ws)->
  (∀h' tk ws,KV (vR ns yv ns.length) ws->h'.DictOf (eW prog w) d ws->(∀c o,c≠z->c≠TO->c≠i1->c≠i2->c≠d->s.heap.get? c=some o->h'.get? c=some o)->R (.ok (.ret .none)) { s with heap:=h',toks:=tk })->
  codeAny (model prog w) A (.builtin "dict.update.loop" ⟨[.ref d,.ref z,rawInt m,.none],[]⟩) R s:=by
 have lx:xs.size=ns.length:=by rw[<-aO,<-rx.length,aa]
 have ly:ys.size=yv.length:=by rw[<-aO,<-ry.length]
 intro k
 induction k with
 |zero=>
  intro i s m hk hi Z ⟨ws,hw,dd⟩ hR
  have e:i=ns.length:=by omega
  subst e
  refine bH ZF.EV ?_
  rw[Around.under_plainId ZF.tU _]
  refine aU (m:=pyNext (.ref z)) (Z.stop hh D (Array.getElem?_eq_none (by omega)) fun h' hkp=>?_)
  refine aU (aV (aV ?_))
  exact hR h' s.toks ws hw (dd.at fun o e=>hkp _ o dz YC d1 d2 e) fun c o c1 c2 c3 c4 _ e=>hkp c o c1 c2 c3 c4 e
 |succ k ih=>
  intro i s m hk hi Z ⟨ws,hw,dd⟩ hR
  have hlt:i<ns.length:=by omega
  have hn:ns[i]?=some ns[i]:=ah hlt
  have hy:yv[i]?=some (yv[i]'(by omega)):=ah _
  obtain⟨u,hu,ru⟩:=rx.get (i:=i) (x:=V.int ns[i]) (by rw[aE,hn];rfl)
  obtain⟨v,hv,rv⟩:=ry.get hy
  refine bH ZF.EV ?_
  rw[Around.under_plainId ZF.tU _]
  refine aU (m:=pyNext (.ref z)) (Z.next D (x:=u) (y:=v) (by rw[<-Array.getElem?_toList];exact hu) (by rw[<-Array.getElem?_toList];exact hv) fun h₁ Z₁ hp hkp=>?_)
  refine aU (bG (aU (bM ?_)))
  unfold Builtin.Dict.pairItems
  refine aU (wpAny_typeOf (T:="tuple") ⟨_,hp,rfl⟩ ?_)
  rw[bA (by decide)]
  refine aU (bL hp rfl (aV ?_))
  refine bG ?_
  have dd₁:h₁.DictOf (eW prog w) d ws:=dd.at fun o e=>hkp _ o dz YC d1 d2 e
  have lw:ws.length≤sizeLine:=by
   have:=vS ns yv i
   rw[<-hw.length];omega
  unfold dictSet
  try with_reducible refine bG ?_
  refine aU (KeyKind.pyHash (eW prog w) (k:=Sum.inl ns[i]) (AR (k:=Sum.inl ns[i]) ru) ?_)
  refine wpAny_dictSetHashed_pairs (hsz:=lw) (AR (k:=Sum.inl ns[i]) ru) dd₁ fun h₂ dd₂ hs₂=>?_
  refine aV ⟨bK ZF.tU _,?_⟩
  have Z₂:vU z TI TO i1 i2 l1 l2 xs ys (i+1) h₂:=by
   obtain⟨hz,hTI,⟨a,b,hTO⟩,h1,h2,hl1,hl2⟩:=Z₁
   have up:∀c o,c≠d->h₁.get? c=some o->h₂.get? c=some o:=fun c o hc e=>hs₂.extBut _ _ hc e
   refine⟨?_,up _ _ dTI.symm hTI,⟨a,b,up _ _ YC.symm hTO⟩,h1.at fun o e=>up _ o d1.symm e,h2.at fun o e=>up _ o d2.symm e,hl1.at fun o e=>up _ o dl1.symm e,hl2.at fun o e=>up _ o dl2.symm e⟩
   rcases hz with hz | ⟨T,bb,oT,hz,Vq,t⟩
   ·exact .inl (up _ _ dz.symm hz)
   ·by_cases hT:T=d
    ·obtain⟨o,_,_,q,_⟩:=id dd₂
     exact .inr ⟨T,bb,o,up _ _ dz.symm hz,by rw[hT];exact q,t⟩
    ·exact .inr ⟨T,bb,oT,up _ _ dz.symm hz,up _ _ hT Vq,t⟩
  refine ih (i+1) _ (m+1) (by omega) hlt Z₂ ⟨_,?_,dd₂⟩ fun h' tk ws' hw' Vn hk'=>?_
  ·rw[Cb hn hy];exact hw.put _ rv
  ·exact hR h' tk ws' hw' Vn fun c o c1 c2 c3 c4 c5 e=>hk' c o c1 c2 c3 c4 c5 (hs₂.extBut _ _ c5 (hkp c o c1 c2 c3 c4 e))
theorem Su{z TI TO i1 i2 l1 l2:Addr}{xs ys:Array Value}{ns:List Int}{yv:List V}{Q:Value->Shared->Prop}(hh:A.handled=none)(D:ZipApart z TI TO i1 i2 l1 l2)(Z:vU z TI TO i1 i2 l1 l2 xs ys 0 s.heap)(hz0:IsZip s.heap z TI TO .none)
  (rx:Vals (ns.map V.int) xs.toList)(ry:Vals yv ys.toList)(hle:ns.length=yv.length)(hsz:ns.length≤sizeLine)
  (h:∀h' tk ws,KV (vR ns yv ns.length) ws->h'.DictOf (eW prog w) s.heap.objs.size ws->(∀c o,c≠z->c≠TO->c≠i1->c≠i2->s.heap.get? c=some o->h'.get? c=some o)->Q (.ref s.heap.objs.size) { s with heap:=h',toks:=tk }):
  wpAny (model prog w) A (call (.type "dict") [.ref z]) Q E s:=by
 refine callType_codes (Q₁:=fun obj s₁=>obj= .ref s.heap.objs.size/\s₁={ s with heap:=s.heap.push { cls:=.type "dict",data:=.dict #[] } }) F.kt_called_dict (F.kt_typeCall_dict_1 _) F.entry_dict_init (kt_code_dict_new _ ⟨rfl,rfl⟩) ?_
 rintro obj s₁ ⟨rfl,rfl⟩
 have hnew:(s.heap.push { cls:=.type "dict",data:=.dict #[] }).DictOf (eW prog w) s.heap.objs.size []:=Heap.DictOf.new s.heap
 refine⟨hnew.typeIs,F.args_dict_init_2 _ _,?_⟩
 unfold Builtin.«dict.__init__»
 refine aU ?_
 unfold Builtin.Dict.selfAndRest
 refine aU (wpAny_notOrdered_dict hnew.typeIs ?_)
 show wpAny _ _ (pure (s.heap.objs.size,[Value.ref z])) _ _ _
 refine aV ?_
 show wpAny _ _ (Builtin.Dict.updateFrom "dict.__init__" s.heap.objs.size (.ref z) [] .none) _ _ _
 unfold Builtin.Dict.updateFrom
 have hz1:IsZip (s.heap.push { cls:=.type "dict",data:=.dict #[] }) z TI TO .none:=ai _ hz0
 refine aU (wpAny_typeOf (T:="zip") ⟨_,hz1,rfl⟩ ?_)
 rw[bA (by decide)]
 refine aU (L7 hz1 hh fun h₁ tk hk₁=>?_)
 simp only[Option.isNone_none,if_true]
 refine aU (wpAny_rule ?_)
 have up:∀c o,s.heap.get? c=some o->h₁.get? c=some o:=fun c o e=>hk₁ c o (ai _ e)
 refine aU (wpAny_pyIter_zip (hk₁ _ _ hz1) ?_)
 refine aU (aV ?_)
 have Z₁:vU z TI TO i1 i2 l1 l2 xs ys 0 h₁:=by
  obtain⟨_,hTI,⟨a,b,hTO⟩,h1,h2,hl1,hl2⟩:=Z
  exact⟨.inl (up _ _ hz0),up _ _ hTI,⟨a,b,up _ _ hTO⟩,h1.at fun o e=>up _ o e,h2.at fun o e=>up _ o e,hl1.at fun o e=>up _ o e,hl2.at fun o e=>up _ o e⟩
 have lt:∀{c o},s.heap.get? c=some o->s.heap.objs.size≠c:=fun e=>Nat.ne_of_gt (aC e)
 have hZ:=Z
 obtain⟨_,hTI,⟨a,b,hTO⟩,⟨o1,q1,_⟩,⟨o2,q2,_⟩,⟨o3,q3,_⟩,⟨o4,q4,_⟩⟩:=hZ
 refine aV ⟨bK ZF.tU _,Ss (A:=A.in1) (w:=w) hh D (lt hz0) (lt hTO) (lt q1) (lt q2) (lt hTI) (lt q3) (lt q4) rx ry hle hsz ns.length 0 _ 0 (by omega) (Nat.zero_le _) Z₁ ⟨[],.nil,hnew.at fun o e=>hk₁ _ o e⟩ fun h' tk' ws hw dd hk'=>?_⟩
 exact⟨rfl,h h' tk' ws hw dd fun c o c1 c2 c3 c4 e=>hk' c o c1 c2 c3 c4 (lt e).symm (up c o e)⟩
end
section
variable {X:Cx} {p p2 pos pos2:Pos} {e e2:Expr} {t:TA}
def Qq(K:PySem.W.Frag)(t:TA):TE:=fun σ H Q=>t σ H fun vs H1=>∃(a b:Addr)(ns:List Int)(ys:List V),vs=[.ref a,.ref b]/\dG K H1 a (ns.map V.int)/\dG K H1 b ys/\ns.length=ys.length/\
 ∀q,H1 q=none->Q (.ref q) (upd H1 q (.dK (vR ns ys ns.length)))
theorem Ma(hc:X.calm=true)(hg:Gl X "dict")(hm:X.mg "dict"=none)(hg2:Gl X "zip")(hm2:X.mg "zip"=none)(ha:PA X [e,e2] t)
  (hs:starEach [e,e2] X.env=(false,eval e X.env)::starEach [e2] X.env:=by rfl)(hpl:(backTo pos2 (starEach [e2] X.env)).any (·.1)=false:=by rfl)
  (hs1:starEach [.Call (.Name "zip" p2) [e,e2] [] pos2] X.env=(false,eval (.Call (.Name "zip" p2) [e,e2] [] pos2) X.env)::starEach [] X.env:=by rfl)(YD:(backTo pos (starEach [] X.env)).any (·.1)=false:=by rfl):
  PE X (.Call (.Name "dict" p) [.Call (.Name "zip" p2) [e,e2] [] pos2] [] pos) (Qq X.K t):=by
 intro pins s σ H Q I h
 refine wpAny_Call_Name_kw (qO I hg hm PyProof.Rows.boot_dict ?_)
 refine PyProof.Rows.callWith_type1 ?_ hs1 YD
 rw[hs1]
 show wpAny _ _ (spliced ((false,eval (.Call (.Name "zip" p2) [e,e2] [] pos2) X.env)::backTo pos (starEach [] X.env))) _ _ s
 refine Calls.spliced_cons (wpAny_Call_Name_kw (qO I hg2 hm2 GY (PyProof.Rows.callWith_type1 (ig (ha pos2 pins s σ H _ I h) fun us s1 ⟨vs,H1,I1,r1,q1⟩=>?_) hs hpl)))
 obtain⟨a,b,ns,ys,ex,Tg,Th,hle,q⟩:=q1
 subst ex
 cases r1 with
 |cons r rr=>
  cases rr with
  |cons r' rr=>
   cases rr
   cases r
   cases r'
   obtain⟨its,rv,p1,hz1⟩:=I1.list Tg
   obtain⟨its2,Vp,p2,_⟩:=I1.list Th
   have la:a<s1.heap.objs.size:=p1.lt
   have lb:b<s1.heap.objs.size:=p2.lt
   refine call_zip_2 p1.isList p2.isList fun h' hz hTI hTO h1 h2 hsz hk=>?_
   have I2:Inv X pins σ H1 { s1 with heap:=h' }:=I1.kept (t':=s1.toks) hk
   refine Calls.spliced_nil ?_
   have hd5:(s1.heap.objs.size+5==sysModules)=false:=bZ.mpr (Nat.ne_of_gt (aM I1.big (Nat.le_add_right _ _)))
   have hl:ns.length≤sizeLine:=by rw[aa]at hz1;exact hz1
   refine Su (s:={ s1 with heap:=h' }) (I1.ok.hd hc) (PySem.W.ktu_apart s1.heap.objs.size a b la lb) ⟨.inl hz,hTI,⟨_,_,hTO⟩,h1,h2,p1.isList.at fun o e=>hk _ o e,p2.isList.at fun o e=>hk _ o e⟩ hz (by simpa using rv) (by simpa using Vp) hle hl
    fun h'' tk ws hw dd hk'=>?_
   show EP X pins σ Q (.ref h'.objs.size) _
   have dd:h''.DictOf (eW X.prog X.w) h'.objs.size ws:=dd
   rw[hsz]at dd ⊢
   have kp:∀c u,s1.heap.get? c=some u->h''.get? c=some u:=fun c u e=>by
    have hlt:=aC e
    exact hk' c u (aT (aM hlt (Nat.le_add_right _ _))) (aT (aM hlt (Nat.le_add_right _ _))) (aT hlt) (aT (aM hlt (Nat.le_add_right _ _))) (hk c u e)
   have hlz:(vR ns ys ns.length).length≤sizeLine:=aS (vS ns ys ns.length) hl
   exact⟨.ref (s1.heap.objs.size+5),_,I1.laid (t':=tk) kp (Nat.le_add_right _ _) (Px hlz hd5 hw dd),rfl,q _ (I1.hok.fresh (Nat.le_add_right _ _))⟩
end
def Mb:List DictEntry->Option (List (Int×Value))
 |[]=>some []
 |e::es=>match e.key with
  |.int k _=>if (e.hash==hashInt k)=true then (Mb es).map ((k,e.val):: ·) else none
  |_=>none
def tabIn(K:PySem.W.Frag)(d:Addr):Option (List (Int×Value)):=match K.lookup d with
 |some ⟨.type "dict",none,.dict es _,⟨[]⟩⟩=>Mb es.toList
 |_=>none
structure ModT(K:PySem.W.Frag)(d:Addr)(kvs:List (Int×V)):Prop where
 ex:∃vs,tabIn K d=some vs/\Paired (fun(p:Int×V)(q:Int×Value)=>p.1=q.1/\RelV p.2 q.2) kvs vs
theorem Hi{P:Program}{w:World}:∀{es:List DictEntry}{vs:List (Int×Value)},Mb es=some vs-> ∀e∈es,∃k,(eW P w).is k e.key=true/\e.hash=(eW P w).hash k
 |[],_,_,e,he=>by cases he
 |a::es,vs,h,e,he=>by
  unfold Mb at h
  split at h
  ·rename_i k t hk
   split at h
   ·rename_i hh
    obtain⟨ws,hw,_⟩:=aI.mp h
    rcases aB.mp he with q | q
    ·subst q
     exact⟨Sum.inl k,by rw[hk];exact vp P w k t,eq_of_beq hh⟩
    ·exact Hi hw e q
   ·cases h
  ·cases h
theorem Hj{P:Program}{w:World}:∀{es:List DictEntry}{vs:List (Int×Value)},Mb es=some vs-> ∀k:Int,(es.find? fun e=>(eW P w).is (Sum.inl k) e.key).map (·.val)=vs.lookup k
 |[],vs,h,k=>by
  have:vs=[]:=by unfold Mb at h;exact(az h).symm
  rw[this];rfl
 |a::es,vs,h,k=>by
  unfold Mb at h
  split at h
  ·rename_i j t hj
   split at h
   ·obtain⟨ws,hw,e⟩:=aI.mp h
    have ih:=Hj (P:=P) (w:=w) hw k
    rw[<-e,List.find?_cons,List.lookup_cons]
    have hb:(eW P w).is (Sum.inl k) a.key=(k==j):=by
     rw[hj]
     have:=KeyKind.is_eq_decide (knd:=eW P w) (vp P w j t) (Sum.inl k)
     rw[this]
     by_cases q:k=j
     ·subst q;simp
     ·rw[aW (by intro z;exact q (Sum.inl.inj z))];simp[q]
    rw[hb]
    cases (k==j)with
    |true=>rfl
    |false=>exact ih
   ·cases h
  ·cases h
theorem ModT.get{K:PySem.W.Frag}{d:Addr}{kvs:List (Int×V)}{P:Program}{w:World}{h:Heap}(T:ModT K d kvs)(X:K.In h){k:Int}{v:V}(hv:kvs.lookup k=some v):
  ∃(f:Key->Option Value)(u:Value),h.MapOf (eW P w) d f/\f (Sum.inl k)=some u/\RelV v u:=by
 obtain⟨vs,ht,hp⟩:=T.ex
 unfold tabIn at ht
 split at ht
 ·rename_i es ep hl
  refine⟨fun q=>findBy (eW P w).is es q,?_⟩
  have hf:findBy (eW P w).is es (Sum.inl k)=vs.lookup k:=by
   rw[<-Hj (P:=P) (w:=w) ht k]
   unfold findBy
   rw[Array.find?_toList]
  have hr:∃u,vs.lookup k=some u/\RelV v u:=by
   clear hf ht T
   induction hp with
   |nil=>cases hv
   |@cons p q ps qs hpq _ ih=>
    rw[List.lookup_cons]at hv ⊢
    rw[<-hpq.1]
    cases hk:(k==p.1)with
    |true=>
     rw[hk]at hv
     have e:p.2=v:=az hv
     exact⟨q.2,rfl,by rw[<-e];exact hpq.2⟩
    |false=>
     rw[hk]at hv
     exact ih hv
  obtain⟨u,hu,ru⟩:=hr
  exact⟨u,⟨_,es,ep,X _ _ hl,⟨rfl,rfl,rfl⟩,rfl,fun e he=>Hi ht e (by simpa using he),fun _=>rfl⟩,hf.trans hu,ru⟩
 ·cases ht
section
variable {X:Cx} {i:Expr} {x:Str} {p pos:Pos} {ty:TE} {d:Addr} {kvs:List (Int×V)}
def YE(kvs:List (Int×V))(ty:TE):TE:=fun σ H Q=>ty σ H fun y H1=>∃(k:Int)(v:V),y= .int k/\kvs.lookup k=some v/\Q v H1
theorem Cc(T:ModT X.K d kvs)(hg:Gl X x)(hm:X.mg x=some (.ref d))(hi:PE X i ty)(hs:Uv i)(hd:(x==("__debug__":Str))=false:=by decide):PE X (.Subscript (.Name x p) i pos) (YE kvs ty):=by
 intro pins s σ H Q I h
 refine MZ PySem.F.slot_dict_getitem.lookup hs (AF I hg hm (ig (hi pins s σ H _ I h) fun iv s2 ⟨y,H2,I2,ry,k,v,ey,hv,q2⟩=>?_) hd)
 subst ey
 obtain⟨f,u,hM,hf,ru⟩:=T.get (P:=X.prog) (w:=X.w) I2.MM hv
 exact⟨hM.typeIs,wpAny_getItem_of (AR (k:=Sum.inl k) ry) hM hf ⟨v,H2,I2.tok _,ru,q2⟩⟩
end
section
variable {X:Cx} {x:Str} {p pos:Pos} {e:Expr} {es:List Expr} {t:TA} {i:Nat}
def UL(X:Cx)(i:Nat)(t:TA):TE:=fun σ H Q=>∃(f:Addr)(fd:FuncData)(k:Nat)(ps:List Str)(sp:Sp),σ[i]?=some (some (.ref f))/\PySem.W.keepIn X.K (.ref f)=true/\Binds X.K fd ps []/\yu X.prog X.w X.K X.mg X.base Js k f fd ps sp/\jW k X.A/\
 t σ H fun vs H1=>sp vs H1 Q E0
theorem vV(hv:PE X (.Name x p) (Uc i))(ha:PA X (e::es) t)(he:starEach (e::es) X.env=(false,eval e X.env)::starEach es X.env:=by rfl)(hpl:(backTo pos (starEach es X.env)).any (·.1)=false:=by rfl)(hx:Passes Js X E0:=by exact GZ):
  PE X (.Call (.Name x p) (e::es) [] pos) (UL X i t):=by
 intro pins s σ H Q I h
 obtain⟨f,fd,k,ps,sp,hσ,hk,b,F,hr,h⟩:=h
 refine wpAny_Call_Name_kw (ig (hv pins s σ H (fun v H'=>v= .ref f/\t σ H' fun vs H1=>sp vs H1 Q E0) I ⟨_,hσ,rfl,h⟩) fun u s0 ⟨y,H0,I0,ry,ey,h0⟩=>?_)
 subst ey
 obtain rfl:u=Value.ref f:=ry
 refine PySem.W.callWith_K (h₀:=X.base) I0.ok.mod.VD hk (ig (ha pos pins s0 σ H0 _ I0 h0) fun us s1 ⟨vs,H1,I1,r,q⟩=>⟨I1.MM,?_⟩) he hpl
 exact Pj F hr b .nil hx I1 r (by rw[List.append_nil];exact q)
end
theorem Nl{K:PySem.W.Frag}{a b:Addr}{xs ys:List V}{g:TG}{tb:TS}{D:Ends}{σ:St}{H:Hp}(Pv:Nat->St->Hp->Prop)(hlen:xs.length=ys.length)(h0:Pv 0 σ H)(hl:∀i σ H,i≤xs.length->Pv i σ H->dG K H a xs/\dG K H b ys)
  (hs:∀(i:Nat)(x y:V)(T:Addr)(σ:St)(H:Hp),xs[i]?=some x->ys[i]?=some y->H T=none->Pv i σ H->g (.ref T) σ (upd H T (.tup [x,y])) fun σ2 H2=>tb { D with nx:=Pv (i+1),ct:=Pv (i+1),bk:=D.nx } σ2 H2)(hd:∀σ H,Pv xs.length σ H->D.nx σ H):
  ∃W:Nat->Nat->St->Hp->Prop,(∃m,W 0 m σ H)/\ ∀i m σ H,W i m σ H->
   ((Wd K a b).stop i H/\D.nx σ H)∨((Wd K a b).go i H/\ ∃N:St->Hp->Prop,(∀σ' H',N σ' H'-> ∃m',m'<m/\W (i+1) m' σ' H')/\ ∀x H',(Wd K a b).RM i H x H'->g x σ H' fun σ2 H2=>tb { D with nx:=N,ct:=N,bk:=D.nx } σ2 H2):=by
 refine⟨fun i m σ H=>m=xs.length-i/\i≤xs.length/\Pv i σ H,⟨xs.length,by simp,Nat.zero_le _,h0⟩,?_⟩
 rintro i m σ H ⟨rfl,hi,p⟩
 obtain⟨q1,q2⟩:=hl i σ H hi p
 by_cases hlt:i<xs.length
 ·have YF:i<ys.length:=by omega
  refine .inr ⟨⟨xs,ys,xs[i],ys[i],q1,q2,by simp[hlt],by simp[YF]⟩,Pv (i+1),fun σ' H' p'=>⟨xs.length-(i+1),by omega,rfl,hlt,p'⟩,fun v H' w=>?_⟩
  obtain⟨T,x,y,rfl,hT,rfl,e1,e2⟩:=w
  exact hs i x y T σ H (e1 xs q1) (e2 ys q2) hT p
 ·have e:i=xs.length:=by omega
  subst e
  exact .inl ⟨⟨xs,ys,q1,q2,.inl (aA _)⟩,hd σ H p⟩
theorem vW{K:PySem.W.Frag}{a:Addr}{xs:List V}{g:TG}{tb:TS}{D:Ends}{σ:St}{H:Hp}(Pv:Nat->St->Hp->Prop)(h0:Pv 0 σ H)(hl:∀i σ H,i≤xs.length->Pv i σ H->dG K H a xs)
  (hs:∀(i:Nat)(x:V)(T:Addr)(σ:St)(H:Hp),xs[i]?=some x->H T=none->Pv i σ H->g (.ref T) σ (upd H T (.tup [.int (i:Nat),x])) fun σ2 H2=>tb { D with nx:=Pv (i+1),ct:=Pv (i+1),bk:=D.nx } σ2 H2)(hd:∀σ H,Pv xs.length σ H->D.nx σ H):
  ∃W:Nat->Nat->St->Hp->Prop,(∃m,W 0 m σ H)/\ ∀i m σ H,W i m σ H->
   ((Wb K a).stop i H/\D.nx σ H)∨((Wb K a).go i H/\ ∃N:St->Hp->Prop,(∀σ' H',N σ' H'-> ∃m',m'<m/\W (i+1) m' σ' H')/\ ∀x H',(Wb K a).RM i H x H'->g x σ H' fun σ2 H2=>tb { D with nx:=N,ct:=N,bk:=D.nx } σ2 H2):=by
 refine⟨fun i m σ H=>m=xs.length-i/\i≤xs.length/\Pv i σ H,⟨xs.length,by simp,Nat.zero_le _,h0⟩,?_⟩
 rintro i m σ H ⟨rfl,hi,p⟩
 have q:=hl i σ H hi p
 by_cases hlt:i<xs.length
 ·refine .inr ⟨⟨xs,xs[i],q,by simp[hlt]⟩,Pv (i+1),fun σ' H' p'=>⟨xs.length-(i+1),by omega,rfl,hlt,p'⟩,fun v H' w=>?_⟩
  obtain⟨T,x,rfl,hT,rfl,e1⟩:=w
  exact hs i x T σ H (e1 xs q) hT p
 ·have e:i=xs.length:=by omega
  subst e
  exact .inl ⟨⟨xs,q,aA _⟩,hd σ H p⟩
theorem dO{n:Nat}(h:n≤100000):n<sizeLine:=by rw[sizeLine_eq];omega
theorem o8{σ:St}{H:Hp}{F G:Hp->Prop}(h:F H):V1 σ H (fun b H3=>if b=true then F H3 else G H3):=by
 show if true=true then F H else G H
 rw[bA rfl]
 exact h
theorem tV{X:Cx}{K:PySem.W.Frag}{o:Expr}{f:Str}{pos:Pos}{ta:TE}(hK:X.K=K)(h:PE X (.Attribute o f pos) (Uk X.K ta f)):PE X (.Attribute o f pos) (Uk K ta f):=by
 subst hK
 exact h
end L2
namespace L2
open PySem PySem.Spec PyProof.Rows
section
variable {X:Cx} {a b c d:Expr} {ta tb tc td:TE} {pos:Pos}
def Sw(r r' r'':R2)(ta tb tc td:TE):TE:=fun σ H Q=>ta σ H fun x H1=>tb σ H1 fun y H2=>r x y H2 fun z H3=>∃k,z= .bl k/\
 (if k=true then tc σ H3 fun y' H4=>r' y y' H4 fun z' H5=>∃k',z'= .bl k'/\(if k'=true then td σ H5 fun y'' H6=>r'' y' y'' H6 Q else Q (.bl false) H5) else Q (.bl false) H3)
theorem OJ{op op' UM:CmpOp}{r r' r'':R2}(ho:AI X (compareOp op) r)(ho':AI X (compareOp op') r')(YG:AI X (compareOp UM) r'')(ha:PE X a ta)(hb:PE X b tb)(hc:PE X c tc)(hd:PE X d td)
  (hm:lastMarks [op,op',UM] [b,c,d]=false:=by with_unfolding_all rfl):PT X (.Compare a [op,op',UM] [b,c,d] pos) (Pd (Sw r r' r'' ta tb tc td)):=by
 intro pins s σ H Q I h
 refine isTrue_chain (ig (ha pins s σ H _ I h) fun v s1 ⟨x,H1,I1,r1,q1⟩=>test_link (ig (hb pins s1 σ H1 _ I1 q1) fun u s2 ⟨y,H2,I2,r2,q2⟩=>
  ig (ho pins s2 σ H2 x y v u _ I2 r1 r2 q2) fun d s3 ⟨z,H3,I3,r3,k,e,q3⟩=>?_)) hm
 subst e
 cases r3
 refine bE ?_
 cases k with
 |false=>
  obtain⟨k',e',q'⟩:=q3
  cases e'
  exact ite_ff ⟨H3,I3,q'⟩
 |true=>
  refine ite_tt (test_link (ig (hc pins s3 σ H3 _ I3 q3) fun w' s4 ⟨z',H4,I4,r4,q4⟩=>ig (ho' pins s4 σ H4 y z' u w' _ I4 r2 r4 q4) fun d' s5 ⟨z2,H5,I5,r5,k2,e2,q5⟩=>?_))
  subst e2
  cases r5
  refine bE ?_
  cases k2 with
  |false=>
   obtain⟨k',e',q'⟩:=q5
   cases e'
   exact ite_ff ⟨H5,I5,q'⟩
  |true=>
   refine ite_tt (test_last (ig (hd pins s5 σ H5 _ I5 q5) fun w'' s6 ⟨Yt,H6,I6,r6,q6⟩=>ig (YG pins s6 σ H6 z' Yt w' w'' _ I6 r4 r6 q6) fun d' s7 ⟨z3,H7,I7,r7,k3,e3,q7⟩=>?_))
   subst e3
   cases r7
   exact bE ⟨H7,I7,q7⟩
end
structure Kh(K:PySem.W.Frag)(a:Addr)(ns:List Int):Prop where
 ex:∃(o:Obj)(its:Array Value)(n:Nat),K.lookup a=some o/\o.cls= .type "tuple"/\o.data= .seq its n/\its.size≤sizeLine/\Vals (ns.map V.int) its.toList
theorem Kh.sq{K:PySem.W.Frag}{a:Addr}{ns:List Int}(h:Kh K a ns)(H:Hp):Jr K H a (ns.map V.int):=.inr h.ex
theorem A4(k:Int)(ns:List Int):R0 (.int k) (ns.map V.int)=decide (k∈ns):=by
 unfold R0
 induction ns with
 |nil=>rfl
 |cons n ns ih=>
  rw[aL,List.any_cons,ih]
  have:RY (.int n) (.int k)=decide (n=k):=by show (n==k)=_;rw[Bool.beq_eq_decide_eq]
  rw[this]
  by_cases e:n=k
  ·subst e;simp
  ·have:k≠n:=fun h=>e h.symm
   simp[e,this]
theorem sE(ns:List Int):(ns.map V.int).all AM=true:=by
 rw[List.all_eq_true]
 intro x hx
 obtain⟨n,_,rfl⟩:=aQ.mp hx
 rfl
end L2
namespace Sv
open PySem PySem.SetTable
def oX(xs:Array Nat):Prop:=∀i j:Nat,i<j-> ∀(a b:Nat),xs[i]?=some a->xs[j]?=some b->a<b
structure Cut(xs:Array Nat)(j r:Nat):Prop where
 le:r≤xs.size
 lo:∀i a:Nat,i<r->xs[i]?=some a->a<j
 hi:∀i a:Nat,r≤i->xs[i]?=some a->j≤a
theorem D9{xs:Array Nat}{i d a:Nat}(h:xs[i]?=some a):xs.getD i d=a:=by
 rw[Array.getD_eq_getD_getElem?,h];rfl
theorem EW{xs:Array Nat}{j:Nat}(hr:oX xs):∀(fuel lo hi:Nat),hi-lo≤fuel->lo≤hi->hi≤xs.size->(∀i a,i<lo->xs[i]?=some a->a<j)->(∀i a,hi≤i->xs[i]?=some a->j≤a)->Cut xs j (below.go xs j fuel lo hi)
 |0,lo,hi,hf,hl,hs,h1,h2=>by
  have e:lo=hi:=by omega
  subst e
  exact⟨hs,h1,h2⟩
 |fuel+1,lo,hi,hf,hl,hs,h1,h2=>by
  unfold below.go
  by_cases h:lo<hi
  ·rw[bA h]
   have hm:(lo+hi)/2<xs.size:=by omega
   have em:xs[(lo+hi)/2]?=some xs[(lo+hi)/2]:=aY hm
   generalize xs[(lo+hi)/2]=v at em
   dsimp only
   rw[D9 em]
   by_cases hv:v<j
   ·rw[bA hv]
    refine EW hr fuel _ hi (by omega) (by omega) hs (fun i a hi' ha=>?_) h2
    by_cases e:i=(lo+hi)/2
    ·subst e;rw[em]at ha;cases ha;exact hv
    ·have:=hr i ((lo+hi)/2) (by omega) a v ha em;omega
   ·rw[bz hv]
    refine EW hr fuel lo _ (by omega) (by omega) (by omega) h1 (fun i a hi' ha=>?_)
    by_cases e:i=(lo+hi)/2
    ·subst e;rw[em]at ha;cases ha;omega
    ·have:=hr ((lo+hi)/2) i (by omega) v a em ha;omega
  ·rw[bz h]
   have e:lo=hi:=by omega
   subst e
   exact⟨hs,h1,h2⟩
theorem Ho{xs:Array Nat}(hr:oX xs)(j:Nat):Cut xs j (below xs j):=by
 unfold below
 exact EW hr _ _ _ (by omega) (by omega) (aA _) (fun i a h=>by omega) (fun i a h ha=>by
  have:=(Array.getElem?_eq_some_iff.mp ha).1;omega)
theorem Cut.unique{xs:Array Nat}{j r r':Nat}(h:Cut xs j r)(h':Cut xs j r'):r=r':=by
 by_cases e:r<r'
 ·have hs:r<xs.size:=by have:=h'.le;omega
  have er:xs[r]?=some xs[r]:=aY hs
  have:=h'.lo r _ e er
  have:=h.hi r _ (aA _) er
  omega
 ·by_cases e':r'<r
  ·have hs:r'<xs.size:=by have:=h.le;omega
   have er:xs[r']?=some xs[r']:=aY hs
   have:=h.lo r' _ e' er
   have:=h'.hi r' _ (aA _) er
   omega
  ·omega
theorem get_insert{α:Type}(xs:Array α)(p:Nat)(x:α)(hp:p≤xs.size)(i:Nat):(insertAt xs p x)[i]?=if i<p then xs[i]? else if i=p then some x else xs[i-1]?:=by
 rw[<-Array.getElem?_toList,SetTable.toList_insertAt]
 have hl:(xs.toList.take p).length=p:=by rw[aJ,aO];omega
 by_cases h1:i<p
 ·rw[bA h1,bO (by omega),List.getElem?_take,bA h1,Array.getElem?_toList]
 ·rw[bz h1,bP (by omega),hl]
  by_cases h2:i=p
  ·rw[bA h2,h2,Nat.sub_self];rfl
  ·rw[bz h2]
   have e:i-p=(i-1-p)+1:=by omega
   rw[e,List.getElem?_cons_succ,List.getElem?_drop,Array.getElem?_toList]
   congr 1
   omega
structure Tb(b:Bool)(t:SetTable):Prop where
 rise:oX t.place
 none:t.dummies= #[]
 led:b=false->t.led=true
theorem Mc(n:Nat):oX (Array.range n):=by
 intro i j h a b ha hb
 obtain⟨h1,e1⟩:=Array.getElem?_eq_some_iff.mp ha
 obtain⟨h2,e2⟩:=Array.getElem?_eq_some_iff.mp hb
 simp at e1 e2
 omega
theorem Tb.standIn{b:Bool}{t:SetTable}(h:Tb b t)(n:Nat):Tb b (t.standIn n):=⟨Mc n,rfl,h.led⟩
theorem Tb.orStandIn{b:Bool}{t:SetTable}(h:Tb b t)(n:Nat):Tb b (t.orStandIn n):=by
 unfold SetTable.orStandIn
 split
 ·exact h
 ·exact h.standIn n
theorem Nm(j:Nat):has #[] j=false:=by unfold has;simp
theorem Gq{t:SetTable}(h:t.dummies= #[]){j:Nat}:t.slot j≠ .dummy:=by
 unfold SetTable.slot
 dsimp only
 rw[h,Nm]
 split <;> simp
theorem Kl{t:SetTable}(hd:t.dummies= #[]){f:Nat->Int}{h:Int}:∀(fuel:Nat)(p:Probe){j:Nat}{dm:Option Nat},p.dummy=none->probe.go t f h fuel p=some (.empty j dm)->t.slot j= .empty/\dm=none
 |0,p,j,dm,hp,e=>by unfold probe.go at e;cases e
 |fuel+1,p,j,dm,hp,e=>by
  unfold probe.go at e
  split at e
  ·rename_i hs
   cases e
   exact⟨hs,hp⟩
  ·rename_i hs
   exact absurd hs (Gq hd)
  ·split at e
   ·cases e
   ·refine Kl hd fuel _ ?_ e
    unfold SetTable.advance
    split
    ·exact hp
    ·exact hp
theorem OL{t:SetTable}(hd:t.dummies= #[]){h:Int}{slot:Nat}{w:Bool}(e:t.freeSlot h=some (slot,w)):t.slot slot= .empty:=by
 unfold SetTable.freeSlot at e
 split at e
 ·rename_i j dm hp
  unfold SetTable.probe at hp
  obtain⟨h1,h2⟩:=Kl hd _ _ rfl hp
  subst h2
  cases e
  exact h1
 ·cases e
theorem Qs{t:SetTable}(hr:oX t.place){j:Nat}(hs:t.slot j= .empty):oX (insertAt t.place (below t.place j) j):=by
 have c:=Ho hr j
 have hne:t.place[below t.place j]?≠some j:=by
  intro q
  unfold SetTable.slot at hs
  dsimp only at hs
  rw[bA (by rw[q];simp)]at hs
  cases hs
 have hgt:∀i a,below t.place j≤i->t.place[i]?=some a->j<a:=by
  intro i a hi ha
  have h1:=c.hi i a hi ha
  by_cases e:a=j
  ·subst e
   by_cases ei:i=below t.place a
   ·rw[ei]at ha;exact absurd ha hne
   ·have hlt:below t.place a<i:=by omega
    have hsz:below t.place a<t.place.size:=by have:=(Array.getElem?_eq_some_iff.mp ha).1;omega
    have e2:t.place[below t.place a]?=some t.place[below t.place a]:=aY hsz
    have h3:=c.hi _ _ (aA _) e2
    have h4:=hr _ _ hlt _ _ e2 ha
    omega
  ·omega
 intro i k hik a b ha hb
 rw[get_insert _ _ _ c.le]at ha hb
 generalize below t.place j=p at*
 by_cases h1:i<p
 ·rw[bA h1]at ha
  by_cases h2:k<p
  ·rw[bA h2]at hb;exact hr i k hik a b ha hb
  ·rw[bz h2]at hb
   by_cases h3:k=p
   ·rw[bA h3]at hb;cases hb;exact c.lo i a h1 ha
   ·rw[bz h3]at hb
    have:=c.lo i a h1 ha
    have:=hgt (k-1) b (by omega) hb
    omega
 ·rw[bz h1]at ha
  rw[bz (by omega),bz (by omega)]at hb
  by_cases h3:i=p
  ·rw[bA h3]at ha;cases ha;exact hgt (k-1) b (by omega) hb
  ·rw[bz h3]at ha
   exact hr (i-1) (k-1) (by omega) a b ha hb
theorem Tb.layNew{b:Bool}{t:SetTable}(h:Tb b t)(es:Array (Int×Value))(x:Int)(v:Value):Tb b (PySem.layNew t es x v).2.1:=by
 unfold PySem.layNew
 split
 ·rename_i slot wd hf
  have hs:=OL h.none hf
  have hT:Tb b (t.put slot).1:=by
   refine⟨?_,?_,h.led⟩
   ·exact Qs h.rise hs
   ·show (if has t.dummies slot=true then _ else t.dummies)= #[]
    rw[h.none,Nm,bz (by decide)]
  exact hT.orStandIn _
 ·exact h.standIn _
theorem OM(l:List (Nat×Nat))(h:l.Pairwise fun a b=>a.1<b.1):oX (l.map (·.1)).toArray:=by
 intro i j hij a b ha hb
 rw[List.getElem?_toArray,aE]at ha hb
 obtain⟨x,hx,ex⟩:=aI.mp ha
 obtain⟨y,hy,ey⟩:=aI.mp hb
 obtain⟨h1,e1⟩:=af.mp hx
 obtain⟨h2,e2⟩:=af.mp hy
 have:=List.pairwise_iff_getElem.mp h i j h1 h2 hij
 rw[e1,e2]at this
 omega
theorem Tb.relayAll{b:Bool}{t:SetTable}(h:Tb b t)(es:Array (Int×Value))(n:Nat):Tb b (PySem.relayAll t es n).2.1:=by
 unfold PySem.relayAll
 split
 ·rename_i t' order hl
  dsimp only
  split
  ·unfold SetTable.relaid SetTable.laid at hl
   simp only[Option.bind_eq_bind,Option.bind_eq_some_iff,Option.pure_def,Option.some.injEq,Prod.mk.injEq]at hl
   obtain⟨owner,_,e1,e2⟩:=hl
   subst e1
   refine⟨OM _ ?_,rfl,h.led⟩
   rw[List.pairwise_filterMap]
   refine List.Pairwise.imp ?_ (List.pairwise_lt_range (n:=_))
   intro a c hac x hx y hy
   obtain⟨x2,_,rfl⟩:=aI.mp hx
   obtain⟨y2,_,rfl⟩:=aI.mp hy
   exact hac
  ·exact h.standIn _
 ·exact h.standIn _
theorem Tb.Qt{b:Bool}{t:SetTable}(h:Tb b t):Tb b { t with plain:=false }:=⟨h.rise,h.none,h.led⟩
theorem Tb.fresh(b:Bool):Tb b (.fresh 0 0 (!b)):=⟨fun i j _ a c ha=>by simp[SetTable.fresh]at ha,rfl,fun e=>by rw[e];rfl⟩
end Sv
namespace Sv
open PySem PySem.Spec PyProof.Rows
def ON(w:World):Bool:=w.params.followText "set-order"
section
variable {prog:Program} {w:World}
def vX(prog:Program)(w:World)(h:Heap)(a:Addr)(S:Int->Bool)(n:Nat):Prop:=
 ∃o es ep t,h.get? a=some o/\o.ExactSet/\o.data= .set es ep t/\ElemsOf (intKind prog w) es.toList/\(∀z,S z=true↔ ∃e∈es.toList,(intKind prog w).is z e.2=true)/\es.size<scanBound/\t.fits es.size=true/\es.size=n/\Tb (ON w) t
variable {A:Around} {E:Value->Shared->Prop} {s:Shared}
theorem Qu{h:Heap}{a:Addr}{o:Obj}{es:Array (Int×Value)}{ep:Nat}{t:SetTable}(g1:h.get? a=some o)(g2:o.ExactSet)(g3:o.data= .set es ep t){fs:Array (Int×Value)}{u:SetTable}{S:Int->Bool}
  (k1:ElemsOf (intKind prog w) fs.toList)(k2:∀z,S z=true↔ ∃e∈fs.toList,(intKind prog w).is z e.2=true)(k3:fs.size<scanBound)(k4:u.fits fs.size=true)(k5:Tb (ON w) u):
  (h.update a (Obj.putSet fs u)).get? a=some { o with data:=.set fs (ep+1) u }/\vX prog w (h.update a (Obj.putSet fs u)) a S fs.size:=by
 have hg:(h.update a (Obj.putSet fs u)).get? a=some { o with data:=.set fs (ep+1) u }:=by
  have q:=Heap.get?_update_self (Obj.putSet fs u) g1 (by rw[putSet_of fs u g3];rfl)
  rw[putSet_of fs u g3]at q;exact q
 exact⟨hg,_,fs,ep+1,u,hg,g2,rfl,k1,k2,k3,k4,rfl,k5⟩
theorem Tt{gw:Bool->Sem Unit}(hgw:∀(b:Bool)(s₁:Shared)(Q':Unit->Shared->Prop),Q' () s₁->wpAny (model prog w) A (gw b) Q' E s₁){a:Addr}{o:Obj}{es:Array (Int×Value)}{ep:Nat}{t:SetTable}(g1:s.heap.get? a=some o)(g2:o.ExactSet)(g3:o.data= .set es ep t)
  {fs:Array (Int×Value)}{u:SetTable}{S:Int->Bool}(k1:ElemsOf (intKind prog w) fs.toList)(k2:∀z,S z=true↔ ∃e∈fs.toList,(intKind prog w).is z e.2=true)(k3:fs.size<scanBound)(k4:u.fits fs.size=true)(k5:Tb (ON w) u){wd:Bool}{R:Option Bool->Shared->Prop}
  (h:∀h',Heap.SameBut a s.heap h'->vX prog w h' a S fs.size->R (some true) { s with heap:=h' }):
  wpAny (model prog w) A (do
   storeSet a fs u
   if (!wd&&u.tooFull)=true then do
     gw (relayAll u fs (SetTable.grown fs.size)).2.2
     storeSet a (relayAll u fs (SetTable.grown fs.size)).1 (relayAll u fs (SetTable.grown fs.size)).2.1
     pure (some true)
    else pure (some true)) R E s:=by
 refine aU (wpAny_storeSet_of g1 g3 ?_ (fits_of_scanBound k3))
 obtain⟨m1,m2⟩:=Qu (prog:=prog) (w:=w) g1 g2 g3 k1 k2 k3 k4 k5
 have sb:=Heap.SameBut.update s.heap a (Obj.putSet fs u)
 split
 ·have hp:=relayAll_perm u fs (SetTable.grown fs.size)
  have hfr:=relayAll_fits u fs (SetTable.grown fs.size)
  have htb:=k5.relayAll fs (SetTable.grown fs.size)
  generalize relayAll u fs (SetTable.grown fs.size)=Rl at hp hfr htb ⊢
  obtain⟨gs,v,YH⟩:=Rl
  dsimp only at hp hfr htb ⊢
  have n1:ElemsOf (intKind prog w) gs.toList:=k1.perm hp
  have n2:∀z,S z=true↔ ∃e∈gs.toList,(intKind prog w).is z e.2=true:=fun z=>(k2 z).trans ⟨fun⟨e,he,q⟩=>⟨e,hp.mem_iff.mpr he,q⟩,fun⟨e,he,q⟩=>⟨e,hp.mem_iff.mp he,q⟩⟩
  have hz:gs.size=fs.size:=by rw[<-aO,hp.length_eq,aO]
  have n3:gs.size<scanBound:=by rw[hz];exact k3
  refine aU (hgw _ _ _ ?_)
  refine aU (wpAny_storeSet_of m1 rfl ?_ (fits_of_scanBound n3))
  obtain⟨_,m3⟩:=Qu (prog:=prog) (w:=w) m1 g2 rfl n1 n2 n3 hfr htb
  rw[hz]at m3
  exact aV (h _ (sb.trans (Heap.SameBut.update _ a _)) m3)
 ·exact aV (h _ sb m2)
theorem YI{a:Addr}{S:Int->Bool}{n:Nat}{z:Int}{x:Value}{Q:Bool->Shared->Prop}(hkey:(intKind prog w).is z x=true)(hsc:x.scannable=true)(hS:vX prog w s.heap a S n)(hroom:n+1<scanBound)
  (h:∀h',Heap.SameBut a s.heap h'->vX prog w h' a (fun y=>S y || decide (y=z)) (if S z then n else n+1)->Q (!S z) { s with heap:=h' }):
  wpAny (model prog w) A (setAddHashed a x ((intKind prog w).hash z)) Q E s:=by
 obtain⟨o,es,ep,t,g1,g2,g3,k1,k2,k3,k4,k6,k5⟩:=hS
 have hb1:es.size+1<scanBound:=by rw[k6];exact hroom
 unfold setAddHashed setAddHashedIn
 refine bG (aU (wpAny_setState_of g1 g3 k4 ?_))
 dsimp only
 rw[byScan_of hsc k3 k1]
 simp only[↓reduceIte]
 unfold setAddByScan
 refine aU ?_
 refine aU (wpAny_rule ?_)
 refine aU (wpAny_setScan_of hkey g1 g3 k4 k1 ?_)
 cases hr:List.findIdx? (fun e=>(intKind prog w).is z e.2) es.toList with
 |some j=>
  dsimp only
  obtain⟨hj,hpj,_⟩:=List.findIdx?_eq_some_iff_getElem.mp hr
  have Wn:S z=true:=(k2 z).mpr ⟨es.toList[j],List.getElem_mem hj,hpj⟩
  refine aV (aV ?_)
  have e:s={ s with heap:=s.heap }:=by cases s;rfl
  have q:=h s.heap (Heap.SameBut.refl a s.heap) ⟨o,es,ep,t,g1,g2,g3,k1,fun y=>by
   rw[Bool.or_eq_true,decide_eq_true_eq,<-k2 y]
   exact⟨fun hy=>hy.elim id (fun e=>e▸Wn),.inl⟩,k3,k4,by rw[Wn];exact k6,k5⟩
  rw[Wn]at q;rw[e];exact q
 |none=>
  dsimp only
  have Wn:S z=false:=by
   cases hz:S z with
   |false=>rfl
   |true=>obtain⟨e,he,hp⟩:=(k2 z).mp hz;have q:=List.findIdx?_eq_none_iff.mp hr e he;rw[hp]at q;cases q
  have gwt:∀(b:Bool){s₁:Shared}{Q':Unit->Shared->Prop},Q' () s₁->wpAny (model prog w) A (match b with | true=>rule "set.scan.the-table-gave-way" | false=>pure ()) Q' E s₁:=fun b s₁ Q' hq=>by
   cases b
   ·exact aV hq
   ·exact wpAny_rule hq
  have Hq:=layNew_perm t es ((intKind prog w).hash z) x
  have Km:=layNew_fits t es ((intKind prog w).hash z) x
  have htb:=k5.layNew es ((intKind prog w).hash z) x
  generalize PySem.layNew t es ((intKind prog w).hash z) x=L at Hq Km htb ⊢
  obtain⟨fs,u,wd,YH⟩:=L
  dsimp only at Hq Km htb ⊢
  rw[Array.toList_push]at Hq
  have n1:ElemsOf (intKind prog w) fs.toList:=(k1.push hkey hsc).perm Hq
  have n2:∀y,(S y || decide (y=z))=true↔ ∃e∈fs.toList,(intKind prog w).is y e.2=true:=mem_push_iff hkey k2 Hq
  have hz1:fs.size=n+1:=by rw[<-aO,Hq.length_eq,ao,aO,k6];rfl
  have n3:fs.size<scanBound:=by rw[hz1];exact hroom
  refine aU (gwt _ ?_)
  have fin:∀h',Heap.SameBut a s.heap h'->vX prog w h' a (fun y=>S y || decide (y=z)) fs.size->Q true { s with heap:=h' }:=by
   intro h' sb hZ;have q:=h h' sb;rw[Wn]at q;rw[hz1]at hZ;exact q hZ
  split
  ·refine aU ?_
   rw[hashByValue_scannable 8 hsc]
   refine aV ?_
   refine Tt ?_ g1 g2 g3 n1 n2 n3 ?_ ?_ ?_
   ·intro b s₁ Q' hq
    cases b
    ·exact aV hq
    ·exact wpAny_rule hq
   ·split
    ·exact Km
    ·exact SetTable.fits_plain_off Km
   ·split
    ·exact htb
    ·exact htb.Qt
   ·intro h' sb hZ;dsimp only;exact aV (fin h' sb hZ)
  ·refine aU (aV ?_)
   simp only[↓reduceIte]
   refine Tt ?_ g1 g2 g3 n1 n2 n3 Km htb ?_
   ·intro b s₁ Q' hq
    cases b
    ·exact aV hq
    ·exact wpAny_rule hq
   ·intro h' sb hZ;dsimp only;exact aV (fin h' sb hZ)
theorem vX.congr{h:Heap}{a:Addr}{S T:Int->Bool}{n m:Nat}(x:vX prog w h a S n)(e:∀z,S z=T z)(en:n=m):vX prog w h a T m:=by
 have q:S=T:=funext e
 subst q;subst en;exact x
theorem vX.at'{h h':Heap}{a:Addr}{S:Int->Bool}{n:Nat}(x:vX prog w h a S n)(e:∀o,h.get? a=some o->h'.get? a=some o):vX prog w h' a S n:=by
 obtain⟨o,es,ep,t,g1,r⟩:=x
 exact⟨o,es,ep,t,e o g1,r⟩
end
section
variable {prog:Program} {w:World} {A:Around} {R:Result->Shared->Prop} {I:Addr} {fp wr:List Addr} {G:Array GenState->Array GenState->Prop} {n:Nat} {P:Nat->Value->Prop} {St:Nat->Shared->Prop}
theorem Wo(W:WalksS prog w A.in1 I fp wr G n P St)(D:Addr)(hDf:D∉fp)(val:Nat->Int)(hval:∀i v,P i v-> ∃t,v= .int (val i) t)(hb:n+1<scanBound):
  ∀(k i:Nat)(s:Shared),n-i=k->i≤n->St i s->vX prog w s.heap D (fun y=>(firstMet val i).any (· ==y)) (firstMet val i).length->
   (∀s',Moved (D::wr) G s s'->vX prog w s'.heap D (fun y=>(firstMet val n).any (· ==y)) (firstMet val n).length->R (.ok (.ret .none)) s')->
   codeAny (model prog w) A (.builtin "set.update.loop" ⟨[.ref D,.ref I],[]⟩) R s:=by
 have ZU:D∉wr:=fun z=>hDf (W.sub _ z)
 have hsub:∀b∈wr,b∈D::wr:=fun b z=>au _ z
 intro k
 induction k with
 |zero=>
  intro i s hk hi hst hS hR
  have hin:i=n:=by omega
  subst hin
  refine bH F.entry_set_update_loop ?_
  rw[Around.under_plainId F.plain_set_update_loop _]
  show wpAny _ A.in1 (pyNext (.ref I) >>= _) _ _ s
  refine aU (W.done s _ _ hst fun s2 hm=>?_)
  show wpAny _ A.in1 (ret Value.none) _ _ s2
  exact aV (hR s2 (hm.mono hsub) (hS.at' fun o e=>hm.heap D _ ZU e))
 |succ k ih=>
  intro i s hk hi hst hS hR
  have hlt:i<n:=by omega
  refine bH F.entry_set_update_loop ?_
  rw[Around.under_plainId F.plain_set_update_loop _]
  show wpAny _ A.in1 (pyNext (.ref I) >>= _) _ _ s
  refine aU (W.item i s _ _ hlt hst fun v s2 hP YJ hm=>?_)
  obtain⟨t,rfl⟩:=hval i v hP
  have Wq:=hS.at' fun o e=>hm.heap D _ ZU e
  show wpAny _ A.in1 (holding [Value.int (val i) t] (setAdd D (.int (val i) t)) >>= _) _ _ s2
  refine aU (bG ?_)
  unfold setAdd
  refine bG ?_
  refine aU ((intKind prog w).pyHash (k:=val i) (intKind_is _ _ _ _) ?_)
  have hroom:(firstMet val i).length+1<scanBound:=by have:=firstMet_length_le val i;omega
  refine YI (s:={ s2 with toks:=s2.toks+1 }) (intKind_is _ _ _ _) rfl Wq hroom fun h3 hsb hS3=>?_
  have hSi:vX prog w h3 D (fun y=>(firstMet val (i+1)).any (· ==y)) (firstMet val (i+1)).length:=hS3.congr (fun y=>by rw[firstMet_succ,step_any]) (by rw[firstMet_succ,step_length])
  refine aV ⟨bK F.plain_set_update_loop _,ih (i+1) _ (by omega) hlt (W.frame _ s2 _ _ YJ (Nat.le_succ _) fun b Sm o e=>?_) hSi fun s4 hm4 hS4=>?_⟩
  ·rw[hsb.2 b (fun z:b=D=>hDf (by rw[<-z];exact Sm))];exact e
  ·refine hR s4 (Moved.trans W.gtrans ((hm.mono hsub).then_heap (Nat.le_succ _) fun b o hbn e=>?_) hm4) hS4
   rw[hsb.2 b (fun z:b=D=>hbn (by rw[z];exact aH))];exact e
end
section
variable {prog:Program} {w:World} {A:Around} {E:Value->Shared->Prop} {s:Shared}
theorem new2(a:Value){Q₁:Value->Shared->Prop}(h:Q₁ (.ref s.heap.objs.size) { s with heap:=s.heap.push { cls:=.type "set",dict:=none,data:=.set #[] 0 (.fresh 0 0 (!ON w)) } }):
  codeAny (model prog w) A (.call (.builtin "set.__new__") ⟨[.type "set",a],[]⟩) (wants Q₁ E) s:=by
 refine codeAny_of_tree ?_
 show wpAny _ A.in1 (do checkBuiltinCall "set.__new__" ⟨[.type "set",a],[]⟩;again (.builtin "set.__new__" ⟨[.type "set",a],[]⟩)) _ _ s
 refine aU (wpAny_of_eq (PySem.F.newCall_set_1 a) (aV ⟨bK PySem.F.plain_set_new _,bH PySem.F.entry_set_new ?_⟩))
 rw[Around.under_plainId PySem.F.plain_set_new _]
 unfold Builtin.«set.__new__» Builtin.Frozenset.newClass
 have hsub:=sub_set_self
 obtain⟨hp,g,d,tk,os⟩:=s
 dsimp only
 wp_walk
 refine wpAny_askSetting (aV ?_)
 dsimp only
 simp only[newObj]
 refine aU (wpAny_alloc (aV ?_))
 exact aV h
end
end Sv
namespace PySem
section
variable {prog:Program} {w:World} {A:Around} {E:Value->Shared->Prop} {s:Shared}
theorem Ko{l:Addr}{items:Array Value}{ns:List Int}{Q:Value->Shared->Prop}(hh:A.handled=none)(hl:s.heap.IsList l items)(hi:PyProof.Rows.IntsAre items.toList ns)(hb:items.size+1<scanBound)
  (h:∀(h':Heap)(tk:Nat),Sv.vX prog w h' s.heap.objs.size (fun y=>(PyProof.Rows.firstMet (fun i=>ns.getD i 0) items.size).any (· ==y)) (PyProof.Rows.firstMet (fun i=>ns.getD i 0) items.size).length->
   (∀b o,b<s.heap.objs.size->s.heap.get? b=some o->h'.get? b=some o)->Q (.ref s.heap.objs.size) { s with heap:=h',toks:=tk }):
  wpAny (model prog w) A (call (.type "set") [.ref l]) Q E s:=by
 obtain⟨c,tl,aac⟩:=F.called_set.mro
 have hmade:=F.called_set.made
 have hsub:=F.called_set.sub
 refine wpAny_call (codeAny_of_tree ?_)
 show wpAny _ _ (callAny (.type "set") _) _ _ _
 refine aV ⟨Code.quiet_builtin _ (by decide+kernel),bH F.entry_type_call ?_⟩
 rw[Around.under_plain (weight_type_call_type "set" [.ref l] []) rfl]
 have h1:=F.called_set.notType
 have h2:=F.called_set.canCreate
 have hct:=F.typeCall_set_1 (.ref l)
 repeat (any_goals (first | assumption | wp_step))
 refine codeAny_mono (Sv.new2 (.ref l) (E:=E) (Q₁:=fun x s₁=>x= .ref s.heap.objs.size/\s₁={ s with heap:=s.heap.push { cls:=.type "set",dict:=none,data:=.set #[] 0 (.fresh 0 0 (!Sv.ON w)) } }) ⟨rfl,rfl⟩) fun r s₁ hr=>?_
 cases r with
 |error e=>exact hr
 |ok fl=>
  cases fl with
  |ret x=>
   obtain⟨rfl,rfl⟩:=hr
   generalize YK:(!Sv.ON w)=led at*
   have gS:(s.heap.push { cls:=.type "set",dict:=none,data:=.set #[] 0 (.fresh 0 0 led) }).get? s.heap.objs.size=some { cls:=.type "set",dict:=none,data:=.set #[] 0 (.fresh 0 0 led) }:=aF _ rfl
   have hT:Shared.TypeIs { s with heap:=s.heap.push { cls:=.type "set",dict:=none,data:=.set #[] 0 (.fresh 0 0 led) } } (.ref s.heap.objs.size) "set":=⟨_,gS,rfl⟩
   have hli:=F.called_set.init.lookup
   have hbi:=F.called_set.init.bind (.ref s.heap.objs.size)
   repeat (any_goals (first | assumption | wp_step))
   refine codeAny_mono (codeAny_call_builtin (R:=wants (fun r s₂=>r= .none/\ ∃h' tk,s₂={ s with heap:=h',toks:=tk }/\
     Sv.vX prog w h' s.heap.objs.size (fun y=>(PyProof.Rows.firstMet (fun i=>ns.getD i 0) items.size).any (· ==y)) (PyProof.Rows.firstMet (fun i=>ns.getD i 0) items.size).length/\
     (∀b o,b<s.heap.objs.size->s.heap.get? b=some o->h'.get? b=some o)) E) F.called_set.init.plain F.entry_set_init (check_set_init_1 hT ?_)) fun r₂ s₂ hr₂=>?_
   ·obtain⟨ol,g5,hcl,nl,hdl⟩:=hl
    obtain⟨aad,Wr,ZV,UN⟩:=ol
    simp only at hcl hdl
    subst hcl;subst hdl
    have g6:(s.heap.push { cls:=.type "set",dict:=none,data:=.set #[] 0 (.fresh 0 0 led) }).get? l=some { cls:=.type "list",dict:=Wr,data:=.seq items nl,slots:=UN }:=ai _ g5
    have aae:=F.sub_list_set
    have aaf:=F.sub_list_frozenset
    have hne:(Value.type "list"==Value.type "dict")=false:=by decide
    have g7:(s.heap.push { cls:=.type "set",dict:=none,data:=.set #[] 0 (.fresh 0 0 led) }).IsList l items:=⟨_,g6,rfl,nl,rfl⟩
    unfold Builtin.«set.__init__» noKeywords Builtin.Frozenset.updateFrom
    generalize hPI:pyIter=PI
    wp_walk
    subst hPI
    refine wpAny_pyIter_list g7 ?_
    refine aU (wpAny_runValue ?_)
    have g8:l<s.heap.objs.size:=aC g5
    have hh3:A.in1.in1.in1.handled=none:=by simp[hh]
    have g9:l≠(s.heap.push { cls:=.type "set",dict:=none,data:=.set #[] 0 (.fresh 0 0 led) }).objs.size:=by
     rw[Heap.size_push];exact aT (Nat.lt_succ_of_lt g8)
    have gf:s.heap.objs.size∉[(s.heap.push { cls:=.type "set",dict:=none,data:=.set #[] 0 (.fresh 0 0 led) }).objs.size,l]:=by
     rw[Heap.size_push];simp only[aB,bW,bR,or_false,not_or]
     exact⟨aT (Nat.lt_succ_self _),Nat.ne_of_gt g8⟩
    have gv:∀(i:Nat)(v:Value),items[i]?=some v-> ∃t,v= .int ((fun i=>ns.getD i 0) i) t:=fun i v hv=>
     PyProof.Rows.IntsAre.int_at hi i v (by rw[Array.getElem?_toList];exact hv)
    refine Sv.Wo ((Walks.list hh3 _ l g9 items).toS) s.heap.objs.size gf (fun i=>ns.getD i 0) gv hb (items.size-0) 0 _ (by omega) (Nat.zero_le _) ⟨⟨_,aF _ rfl,rfl,rfl⟩,(g7.push _)⟩ ?hS0 ?hR
    case hS0=>
     have gg:((s.heap.push { cls:=.type "set",dict:=none,data:=.set #[] 0 (.fresh 0 0 led) }).push { cls:=.type "list_iterator",data:=.fields #[.ref l,.int 0 0] }).get? s.heap.objs.size=some { cls:=.type "set",dict:=none,data:=.set #[] 0 (.fresh 0 0 led) }:=ai _ gS
     refine⟨_,#[],0,_,gg,⟨rfl,rfl,rfl⟩,rfl,fun e he=>by simp at he,fun z=>?_,by decide,by rfl,rfl,?_⟩
     ·simp[PyProof.Rows.firstMet_zero]
     ·rw[<-YK];exact Sv.Tb.fresh _
    case hR=>
     intro s2 hm Wq
     obtain⟨h2',g',d',tk',os'⟩:=s2
     have eg:g'=s.gens:=hm.gens
     have ed:d'=s.drawn:=hm.drawn
     have eo:os'=s.os:=hm.os
     subst eg;subst ed;subst eo
     show wpAny _ _ _ _ _ _
     refine aV ?_
     show wpAny _ _ (ret Value.none) _ _ _
     refine aV ⟨rfl,h2',tk',rfl,Wq,fun b o EX e=>?_⟩
     have n1:b≠s.heap.objs.size:=aT EX
     have n2:b≠(s.heap.push { cls:=.type "set",dict:=none,data:=.set #[] 0 (.fresh 0 0 led) }).objs.size:=by
      rw[Heap.size_push];exact aT (Nat.lt_succ_of_lt EX)
     exact hm.heap b o (by simp only[aB,bW,bR,or_false,not_or];exact⟨n1,n2⟩) (ai _ (ai _ e))
   ·cases r₂ with
    |error e=>exact hr₂
    |ok fl₂=>
     cases fl₂ with
     |ret r=>
      obtain⟨rfl,h2',tk,rfl,Wq,hk2⟩:=hr₂
      repeat (any_goals (first | assumption | wp_step))
      exact h _ _ Wq hk2
     |_=>exact hr₂.elim
  |_=>exact hr.elim
end
end PySem
namespace Sv
open PySem PySem.Spec PyProof.Rows
theorem slot_next:Slot "set_iterator" "__next__" "set_iterator.__next__":=
 .of (owner:="set_iterator") (n:="__next__") (by rw[typeLookup_type,builtinLookup_eq_fast];kernel_rfl) (by decide+kernel) (by decide+kernel) (by decide+kernel) (by first | exact .inl (by decide+kernel) | exact .inr (by decide+kernel)) (by rw[isSubtype_type];kernel_rfl)
theorem entry_next:entryFor table "set_iterator.__next__"=some Builtin.«set_iterator.__next__»:=entryFor_of_tree (by kernel_rfl)
theorem Kp:Manifest.owners.lookup (String.ofList ['r','o','t','a','r','e','t','i','_','t','e','s'].reverse)=some Manifest.sig_set_iterator:=by kernel_rfl
theorem args_next(a:Value):argsOk "set_iterator.__next__" ⟨[a],[]⟩:=by
 unfold argsOk;rw[signature?_of (id:="set_iterator.__next__") (n:=['_','_','t','x','e','n','_','_']) (o:=['r','o','t','a','r','e','t','i','_','t','e','s']) (by kernel_rfl) Kp];kernel_rfl
theorem Me:entryFor table "set.__iter__"=some Builtin.«frozenset.__iter__»:=entryFor_alias (id':="frozenset.__iter__") (by kernel_rfl) rfl (by decide+kernel) (by kernel_rfl)
def lK(h:Heap)(a:Addr)(es:Array (Int×Value))(ep:Nat)(t:SetTable):Prop:=∃o,h.get? a=some o/\o.ExactSet/\o.data= .set es ep t
theorem lK.at'{h h':Heap}{a:Addr}{es:Array (Int×Value)}{ep:Nat}{t:SetTable}(x:lK h a es ep t)(e:∀o,h.get? a=some o->h'.get? a=some o):lK h' a es ep t:=let ⟨o,g,r⟩:=x;⟨o,e o g,r⟩
theorem lK.typeIs{s:Shared}{a:Addr}{es:Array (Int×Value)}{ep:Nat}{t:SetTable}(x:lK s.heap a es ep t):s.TypeIs (.ref a) "set":=let ⟨o,g,r⟩:=x;⟨o,g,r.1.1⟩
def A5(h:Heap)(I:Addr)(first:Value)(i:Nat)(a:Addr)(n ep:Nat):Prop:=∃o,h.get? I=some o/\o.cls= .type "set_iterator"/\o.data= .fields #[first,.int i 0,.ref a,.int n 0,.int ep 0]
theorem A5.at'{h h':Heap}{I:Addr}{first:Value}{i:Nat}{a:Addr}{n ep:Nat}(x:A5 h I first i a n ep)(e:∀o,h.get? I=some o->h'.get? I=some o):A5 h' I first i a n ep:=let ⟨o,g,r⟩:=x;⟨o,e o g,r⟩
theorem A5.typeIs{s:Shared}{I:Addr}{first:Value}{i:Nat}{a:Addr}{n ep:Nat}(x:A5 s.heap I first i a n ep):s.TypeIs (.ref I) "set_iterator":=let ⟨o,g,r⟩:=x;⟨o,g,r.1⟩
section
variable {prog:Program} {w:World} {A:Around} {E:Value->Shared->Prop} {s:Shared} {I a:Addr} {es:Array (Int×Value)} {ep:Nat} {t:SetTable}
theorem Ea{Q:Bool->Shared->Prop}(h:Q (ON w) s):wpAny (model prog w) A setsByText Q E s:=by
 unfold setsByText
 exact aU (wpAny_askSetting (aV h))
def Gives(prog:Program)(w:World)(s:Shared)(a:Addr)(slot i ep:Nat)(r:Option (Value×Nat)):Prop:=∀(B:Around)(Q:Option (Value×Nat)->Shared->Prop)(E:Value->Shared->Prop),Q r s->wpAny (model prog w) B (setNext a slot i ep) Q E s
theorem OO{slot i next:Nat}{x:Value}{Q:Option Value->Shared->Prop}(hit:A5 s.heap I (.int slot 0) i a es.size ep)(hs:lK s.heap a es ep t)(hf:t.fits es.size=true)(hg:Gives prog w s a slot i ep (some (x,next)))
  (hQ:∀h',A5 h' I (.int next 0) (i+1) a es.size ep->Heap.SameBut I s.heap h'->Q (some x) { s with heap:=h' }):wpAny (model prog w) A (pyNext (.ref I)) Q E s:=by
 obtain⟨o,ho,hc,hd⟩:=id hit
 obtain⟨os,gs,gx,gd⟩:=id hs
 unfold pyNext
 refine aU (wpAny_attempt (wpAny_callSpecial?_slot (name:=Str.ofString "__next__") hit.typeIs slot_next (bF slot_next hit.typeIs entry_next ?_ (args_next _))))
 unfold Builtin.«set_iterator.__next__»
 refine aU (aV ?_)
 refine aU (wpAny_fieldsOf ho hd ?_)
 refine aU (wpAny_setEntries_of gs gd hf ?_)
 dsimp only
 rw[bz (by simp)]
 refine aU (hg _ _ _ ?_)
 dsimp only
 refine aU (wpAny_setField ho hd (by simp) ?_)
 have g1:=Heap.get?_update_self (Obj.mapFields (·.setIfInBounds 0 (rawInt (next:Int)))) ho (Obj.isFreed_of_fields (Obj.data_mapFields hd _))
 have d1:=Obj.data_mapFields hd (·.setIfInBounds 0 (rawInt (next:Int)))
 refine aU (wpAny_setField (s:={ s with heap:=s.heap.update I (Obj.mapFields (·.setIfInBounds 0 (rawInt (next:Int)))) }) g1 d1 (by simp) ?_)
 refine aV ⟨x,rfl,aV (hQ _ ⟨_,Heap.get?_update_self _ g1 (Obj.isFreed_of_fields (Obj.data_mapFields d1 _)),(Obj.cls_mapFields ..).trans ((Obj.cls_mapFields ..).trans hc),by rw[Obj.data_mapFields d1];simp[rawInt]⟩ ((Heap.SameBut.update ..).trans (Heap.SameBut.update ..)))⟩
theorem Kq{i:Nat}{vs:Array Value}{o:Obj}{k:Nat}{Q:Option Value->Shared->Prop}(hh:A.handled=none)(ho:s.heap.get? I=some o)(hd:o.data= .fields vs)(hk:k<vs.size)(hQ:∀h',Heap.ExtBut I s.heap h'->Q none { s with heap:=h' }):
  wpAny (model prog w) A.in1 (do setField (.ref I) k .none;raiseNew (<-newExc (.type "StopIteration") [])) (fun fin s'=>∃v,fin=Fin.done (Flow.ret v)/\wpAny (model prog w) A (pure (some v)) Q E s')
   (fun e s'=>wpAny (model prog w) A (do if <-isInstance e (.type "StopIteration") then pure none else throw e) Q E s') s:=by
 refine aU (wpAny_setField ho hd hk ?_)
 refine aU ?_
 simp only[newExc,newTuple]
 refine aU (bJ ?_ (by size_fits))
 refine aU (m:=firstArgMember _ _) (wpAny_of_eq (a:=Value.none) (by first | rfl | (simp only[firstArgMember];rfl)) ?_)
 refine bJ ?_ (by size_fits)
 simp only[raiseNew]
 refine aU (wpAny_handled ?_)
 rw[show A.in1.handled=none from hh]
 refine aU (aV (wpAny_throw ?_))
 refine aU (wpAny_isInstance (T:="StopIteration") (b:=true) ⟨_,aF _ rfl,rfl⟩ isSubtype_stop ?_)
 exact aV (hQ _ (((Heap.SameBut.update ..).extBut.push _).push _))
theorem OP{slot i:Nat}{Q:Option Value->Shared->Prop}(hh:A.handled=none)(hit:A5 s.heap I (.int slot 0) i a es.size ep)(hs:lK s.heap a es ep t)(hf:t.fits es.size=true)(hg:Gives prog w s a slot i ep none)
  (hQ:∀h',Heap.ExtBut I s.heap h'->Q none { s with heap:=h' }):wpAny (model prog w) A (pyNext (.ref I)) Q E s:=by
 obtain⟨o,ho,hc,hd⟩:=id hit
 obtain⟨os,gs,gx,gd⟩:=id hs
 unfold pyNext
 refine aU (wpAny_attempt (wpAny_callSpecial?_slot (name:=Str.ofString "__next__") hit.typeIs slot_next (bF slot_next hit.typeIs entry_next ?_ (args_next _))))
 unfold Builtin.«set_iterator.__next__»
 refine aU (aV ?_)
 refine aU (wpAny_fieldsOf ho hd ?_)
 refine aU (wpAny_setEntries_of gs gd hf ?_)
 dsimp only
 rw[bz (by simp)]
 refine aU (hg _ _ _ ?_)
 dsimp only
 exact Kq (i:=i) hh ho hd (by simp) hQ
def slotAt(pl:Array Nat):Nat->Nat
 |0=>0
 |i+1=>pl.getD i 0+1
theorem Qv{pl:Array Nat}(hr:oX pl){i:Nat}(hi:i≤pl.size):SetTable.below pl (slotAt pl i)=i:=by
 refine(Ho hr _).unique ⟨hi,fun k x hk hx=>?_,fun k x hk hx=>?_⟩
 ·cases i with
  |zero=>omega
  |succ i=>
   have hs:i<pl.size:=by omega
   have e:pl[i]?=some pl[i]:=aY hs
   show x<pl.getD i 0+1
   rw[D9 e]
   by_cases q:k=i
   ·subst q;rw[e]at hx;cases hx;omega
   ·have:=hr k i (by omega) x _ hx e;omega
 ·cases i with
  |zero=>exact Nat.zero_le _
  |succ i=>
   have hs:i<pl.size:=by omega
   have e:pl[i]?=some pl[i]:=aY hs
   show pl.getD i 0+1≤x
   rw[D9 e]
   have:=hr i k (by omega) _ x e hx
   omega
theorem Kr{i:Nat}(hb:ON w=false)(hs:lK s.heap a es ep t)(hf:t.fits es.size=true)(ht:Tb (ON w) t)(hd:(!t.plain&&decide (es.size > 1))=false)(hi:i≤es.size):
  Gives prog w s a (slotAt t.place i) i ep ((es[i]?).map fun e=>(e.2,slotAt t.place (i+1))):=by
 intro B Q E h
 obtain⟨os,gs,gx,gd⟩:=hs
 have hz:t.place.size=es.size:=by
  simp only[SetTable.fits,aZ,beq_iff_eq]at hf
  exact hf.1
 unfold setNext
 refine aU (wpAny_setState_of gs gd hf ?_)
 dsimp only
 refine aU (Ea ?_)
 rw[hb]
 refine wpAny_ite_split (fun q=>absurd q (by decide)) fun _=>?_
 refine wpAny_ite_split (fun q=>?_) fun _=>?_
 ·have q:(!t.plain&&decide (es.size > 1))=true:=q
  rw[hd]at q;cases q
 have hl:=ht.led hb
 rw[Qv ht.rise (by omega)]
 refine aU ?_
 show wpAny _ _ (if (!t.led&& !es.isEmpty)=true then _ else _) _ _ _
 rw[hl]
 refine wpAny_ite_split (fun q=>absurd q (by simp)) fun _=>?_
 refine aV ?_
 by_cases hlt:i<es.size
 ·have e1:es[i]?=some es[i]:=aY hlt
  have e2:t.place[i]?=some (t.place[i]'(by omega)):=aY _
  rw[e1]at h ⊢
  rw[e2]
  refine aV ?_
  have e3:slotAt t.place (i+1)=t.place[i]'(by omega)+1:=by show t.place.getD i 0+1=_;rw[D9 e2]
  rw[Option.map_some,e3]at h
  exact h
 ·have e1:es[i]?=none:=Array.getElem?_eq_none (by omega)
  rw[e1]at h ⊢
  exact aV h
theorem z7{α:Type}:∀{l:List α}{i:Nat}(h:i<l.length),(l[i]::l.eraseIdx i).Perm l
 |[],i,h=>by simp at h
 |x::l,0,h=>List.Perm.refl _
 |x::l,i+1,h=>(List.Perm.swap _ _ _).trans ((z7 (by simpa using h)).cons x)
theorem Hr{α:Type}(next:Nat->Nat):∀(fuel k:Nat)(left:List α)(out:Array α),fuel=left.length->(pickOrder.go next fuel k left out).toList.Perm (out.toList++left)
 |0,k,left,out,h=>by
  have e:left=[]:=List.length_eq_zero_iff.mp h.symm
  subst e
  unfold pickOrder.go
  simp
 |fuel+1,k,left,out,h=>by
  unfold pickOrder.go
  have hl:next k%left.length<left.length:=Nat.mod_lt _ (by omega)
  have e:left[next k%left.length]?=some left[next k%left.length]:=ah hl
  rw[e]
  dsimp only
  refine(Hr next fuel (k+1) _ _ (by rw[List.length_eraseIdx,bA hl];omega)).trans ?_
  rw[Array.toList_push,bT]
  refine List.Perm.append_left _ ?_
  exact z7 hl
theorem gives_text{slot i:Nat}(hb:ON w=true)(hs:lK s.heap a es ep t)(hf:t.fits es.size=true):
  Gives prog w s a slot i ep (((pickOrder (w.params.setOrder a ep) es)[i]?).map fun e=>(e.2,slot)):=by
 intro B Q E h
 obtain⟨os,gs,gx,gd⟩:=hs
 unfold setNext
 refine aU (wpAny_setState_of gs gd hf ?_)
 dsimp only
 refine aU (Ea ?_)
 rw[hb]
 refine wpAny_ite_split (fun _=>?_) fun q=>absurd rfl q
 refine wpAny_ite_split (fun q=>absurd q (by simp)) fun _=>?_
 unfold setWalk
 refine aU ?_
 refine aU (wpAny_setState_of gs gd hf ?_)
 dsimp only
 refine aU (Ea ?_)
 rw[hb]
 refine wpAny_ite_split (fun _=>?_) fun q=>absurd rfl q
 exact aU (wpAny_askSetting (aV (aV h)))
theorem OQ{n:Nat}{src:Source}{Q:Nat->Shared->Prop}(hn:n≠0)(h:∀i d,i<n->Q i { s with drawn:=d }):wpAny (model prog w) A (choose src n) Q E s:=
 fun Γ p hΓ=>⟨hn,h _ _ (Nat.mod_lt _ (by omega))⟩
theorem Nn{α:Type}:∀(n:Nat)(xs:List α)(s:Shared){Q:List α->Shared->Prop},n=xs.length->(∀ys d,ys.Perm xs->Q ys { s with drawn:=d })->wpAny (model prog w) A (drawOrder n xs) Q E s
 |0,xs,s,Q,hn,h=>by
  have e:xs=[]:=List.length_eq_zero_iff.mp hn.symm
  subst e
  unfold drawOrder
  exact aV (h [] s.drawn (List.Perm.refl _))
 |n+1,[],s,Q,hn,h=>by simp at hn
 |n+1,x::xs,s,Q,hn,h=>by
  unfold drawOrder
  refine aU (OQ (by simp) fun i d hi=>?_)
  have e:(x::xs)[i]?=some (x::xs)[i]:=ah hi
  rw[e]
  dsimp only
  refine aU (Nn n _ _ (by rw[List.length_eraseIdx,bA hi];omega) fun ys d2 hp=>?_)
  exact aV (h _ d2 ((List.Perm.cons _ hp).trans (z7 hi)))
theorem Mf{T:Addr}{ps:List Nat}{i pl:Nat}{h0:Int}{x:Value}{ot:Obj}{Q:Option Value->Shared->Prop}{nt:Nat}(hit:A5 s.heap I (.ref T) i a es.size ep)(hs:lK s.heap a es ep t)(hf:t.fits es.size=true)(ht:s.heap.get? T=some ot)(hd2:ot.data= .seq (ps.map fun(n:Nat)=>rawInt n).toArray nt)
  (hp:ps[i]?=some pl)(hx:es[pl]?=some (h0,x))(hQ:∀h',A5 h' I (.ref T) (i+1) a es.size ep->Heap.SameBut I s.heap h'->Q (some x) { s with heap:=h' }):wpAny (model prog w) A (pyNext (.ref I)) Q E s:=by
 obtain⟨o,ho,hc,hd⟩:=id hit
 obtain⟨os,gs,gx,gd⟩:=id hs
 unfold pyNext
 refine aU (wpAny_attempt (wpAny_callSpecial?_slot (name:=Str.ofString "__next__") hit.typeIs slot_next (bF slot_next hit.typeIs entry_next ?_ (args_next _))))
 unfold Builtin.«set_iterator.__next__»
 refine aU (aV ?_)
 refine aU (wpAny_fieldsOf ho hd ?_)
 refine aU (wpAny_setEntries_of gs gd hf ?_)
 dsimp only
 rw[bz (by simp)]
 refine aU (bL ht hd2 ?_)
 dsimp only
 have e:(ps.map fun(n:Nat)=>rawInt n).toArray[(i:Int).toNat]?=some (rawInt pl):=by
  rw[bw,List.getElem?_toArray,aE,hp];rfl
 rw[e]
 show wpAny _ _ (setNextDrawn a (pl:Int).toNat (ep:Int).toNat >>= _) _ _ _
 rw[bw,bw]
 unfold setNextDrawn
 refine aU (aU (wpAny_setState_of gs gd hf ?_))
 dsimp only
 refine wpAny_ite_split (fun q=>absurd q (by simp)) fun _=>?_
 rw[hx]
 refine aV ?_
 refine aU (wpAny_setField ho hd (by simp) ?_)
 exact aV ⟨x,rfl,aV (hQ _ ⟨_,Heap.get?_update_self _ ho (Obj.isFreed_of_fields (Obj.data_mapFields hd _)),(Obj.cls_mapFields ..).trans hc,by rw[Obj.data_mapFields hd];simp[rawInt]⟩ (Heap.SameBut.update ..))⟩
theorem EY{T:Addr}{ps:List Nat}{i:Nat}{ot:Obj}{Q:Option Value->Shared->Prop}{nt:Nat}(hh:A.handled=none)(hit:A5 s.heap I (.ref T) i a es.size ep)(hs:lK s.heap a es ep t)(hf:t.fits es.size=true)(ht:s.heap.get? T=some ot)(hd2:ot.data= .seq (ps.map fun(n:Nat)=>rawInt n).toArray nt)
  (hp:ps[i]?=none)(hQ:∀h',Heap.ExtBut I s.heap h'->Q none { s with heap:=h' }):wpAny (model prog w) A (pyNext (.ref I)) Q E s:=by
 obtain⟨o,ho,hc,hd⟩:=id hit
 obtain⟨os,gs,gx,gd⟩:=id hs
 unfold pyNext
 refine aU (wpAny_attempt (wpAny_callSpecial?_slot (name:=Str.ofString "__next__") hit.typeIs slot_next (bF slot_next hit.typeIs entry_next ?_ (args_next _))))
 unfold Builtin.«set_iterator.__next__»
 refine aU (aV ?_)
 refine aU (wpAny_fieldsOf ho hd ?_)
 refine aU (wpAny_setEntries_of gs gd hf ?_)
 dsimp only
 rw[bz (by simp)]
 refine aU (bL ht hd2 ?_)
 dsimp only
 have e:(ps.map fun(n:Nat)=>rawInt n).toArray[(i:Int).toNat]?=none:=by
  rw[bw,List.getElem?_toArray,aE,hp];rfl
 rw[e]
 dsimp only
 refine aU (wpAny_setField ho hd (by simp) ?_)
 have g1:=Heap.get?_update_self (Obj.mapFields (·.setIfInBounds 0 (rawInt 0))) ho (Obj.isFreed_of_fields (Obj.data_mapFields hd _))
 have d1:=Obj.data_mapFields hd (·.setIfInBounds 0 (rawInt 0))
 refine Kq (s:={ s with heap:=s.heap.update I (Obj.mapFields (·.setIfInBounds 0 (rawInt 0))) }) (i:=i) hh g1 d1 (by simp) fun h' he=>hQ h' fun b o' hb e=>he b o' hb ?_
 rw[bg _ _ (Ne.symm hb)];exact e
end
theorem Hs:Slot "set_iterator" "__iter__" "set_iterator.__iter__":=
 .of (owner:="set_iterator") (n:="__iter__") (by rw[typeLookup_type,builtinLookup_eq_fast];kernel_rfl) (by decide+kernel) (by decide+kernel) (by decide+kernel) (by first | exact .inl (by decide+kernel) | exact .inr (by decide+kernel)) (by rw[isSubtype_type];kernel_rfl)
theorem Mg:entryFor table "set_iterator.__iter__"=some Builtin.«dict_keyiterator.__iter__»:=entryFor_alias (id':="dict_keyiterator.__iter__") (by kernel_rfl) rfl (by decide+kernel) (by kernel_rfl)
theorem OR(a:Value):argsOk "set_iterator.__iter__" ⟨[a],[]⟩:=by
 unfold argsOk;rw[signature?_of (id:="set_iterator.__iter__") (n:=['_','_','r','e','t','i','_','_']) (o:=['r','o','t','a','r','e','t','i','_','t','e','s']) (by kernel_rfl) Kp];kernel_rfl
section
variable {prog:Program} {w:World} {A:Around} {E:Value->Shared->Prop} {s:Shared} {I a:Addr} {es:Array (Int×Value)} {ep:Nat} {t:SetTable}
theorem Ht{first:Value}{i n:Nat}{Q:Value->Shared->Prop}(hit:A5 s.heap I first i a n ep)(h:Q (.ref I) s):wpAny (model prog w) A (pyIter (.ref I)) Q E s:=by
 refine wpAny_pyIter_slot hit.typeIs Hs (bF Hs hit.typeIs Mg ?_ (OR _))
 show wpAny _ _ (ret (.ref I)) _ _ s
 exact aV ⟨_,rfl,"set_iterator",_,hit.typeIs,slot_next.lookup,h⟩
theorem Ks(hh:A.handled=none)(YL:a≠I)(hf:t.fits es.size=true)(fst:Nat->Nat)(ord:List Value)(hlen:ord.length=es.size)
  (hg:∀(s:Shared)(i:Nat),i≤es.size->lK s.heap a es ep t->Gives prog w s a (fst i) i ep ((ord[i]?).map fun v=>(v,fst (i+1)))):
  Walks prog w A I [I,a] [I] es.size (fun i v=>ord[i]?=some v) (fun i h=>A5 h I (.int (fst i:Nat) 0) i a es.size ep/\lK h a es ep t) where
 sub:=fun b hb=>by simp at hb;simp[hb]
 frame:=fun _ _ _ st hk=>⟨st.1.at' fun o e=>hk I (by simp) o e,st.2.at' fun o e=>hk a (by simp) o e⟩
 item:=fun i s Q E hi st hQ=>by
  have ev:ord[i]?=some (ord[i]'(by omega)):=ah _
  have g:=hg s i (by omega) st.2
  rw[ev]at g
  refine OO st.1 st.2 hf g fun h' JQ sb=>?_
  refine hQ _ h' s.toks ev ⟨JQ,st.2.at' fun o e=>?_⟩ fun b o hb e=>?_
  ·rw[sb.2 a YL];exact e
  ·rw[sb.2 b (by simpa using hb)];exact e
 done:=fun s Q E st hQ=>by
  have ev:ord[es.size]?=none:=bf (by omega)
  have g:=hg s es.size (aA _) st.2
  rw[ev]at g
  exact OP hh st.1 st.2 hf g fun h' he=>hQ h' s.toks fun b o hb e=>he b o (by simpa using hb) e
 self:=fun _ _ _ _ st hQ=>Ht st.1 hQ
theorem Qw{T:Addr}{ps:List Nat}{ot:Obj}{nt:Nat}(hh:A.handled=none)(YL:a≠I)(hIT:T≠I)(hf:t.fits es.size=true)(hd2:ot.data= .seq (ps.map fun(n:Nat)=>rawInt n).toArray nt)(ord:List Value)(hlen:ps.length=es.size)
  (hg:∀(i pl:Nat),ps[i]?=some pl-> ∃h0 x,es[pl]?=some (h0,x)/\ord[i]?=some x):
  Walks prog w A I [I,a,T] [I] es.size (fun i v=>ord[i]?=some v) (fun i h=>A5 h I (.ref T) i a es.size ep/\lK h a es ep t/\h.get? T=some ot) where
 sub:=fun b hb=>by simp at hb;simp[hb]
 frame:=fun _ _ _ st hk=>⟨st.1.at' fun o e=>hk I (by simp) o e,st.2.1.at' fun o e=>hk a (by simp) o e,hk T (by simp) _ st.2.2⟩
 item:=fun i s Q E hi st hQ=>by
  have ev:ps[i]?=some (ps[i]'(by omega)):=ah _
  obtain⟨h0,x,hx,ho⟩:=hg i _ ev
  refine Mf st.1 st.2.1 hf st.2.2 hd2 ev hx fun h' JQ sb=>?_
  refine hQ _ h' s.toks ho ⟨JQ,st.2.1.at' fun o e=>?_,?_⟩ fun b o hb e=>?_
  ·rw[sb.2 a YL];exact e
  ·rw[sb.2 T hIT];exact st.2.2
  ·rw[sb.2 b (by simpa using hb)];exact e
 done:=fun s Q E st hQ=>EY hh st.1 st.2.1 hf st.2.2 hd2 (bf (by omega)) fun h' he=>hQ h' s.toks fun b o hb e=>he b o (by simpa using hb) e
 self:=fun _ _ _ _ st hQ=>Ht st.1 hQ
theorem IG{es:Array (Int×Value)}(i:Nat):(es.toList.map (·.2))[i]?=(es[i]?).map (·.2):=by rw[aE,Array.getElem?_toList]
theorem Qx{Q:Value->Shared->Prop}(hh:A.handled=none)(hs:lK s.heap a es ep t)(hf:t.fits es.size=true)(ht:Tb (ON w) t)(hz:es.size≤sizeLine)
  (h:∀(h':Heap)(d':Drawn)(I:Addr)(fp:List Addr)(ord:List Value)(St:Nat->Heap->Prop),(∀b o,s.heap.get? b=some o->h'.get? b=some o)->ord.Perm (es.toList.map (·.2))->(∀b∈fp,b=a∨s.heap.objs.size≤b)->s.heap.objs.size≤I->Walks prog w A I fp [I] es.size (fun i v=>ord[i]?=some v) St->St 0 h'->lK h' a es ep t->
   Q (.ref I) { s with heap:=h',drawn:=d' }):wpAny (model prog w) A (pyIter (.ref a)) Q E s:=by
 obtain⟨os,gs,gx,gd⟩:=id hs
 have la:a<s.heap.objs.size:=aC gs
 refine wpAny_pyIter_slot hs.typeIs PySem.F.slot_set_iter (bF PySem.F.slot_set_iter hs.typeIs Me ?_ (PySem.F.args_set_iter_1 _))
 unfold Builtin.«frozenset.__iter__» Builtin.Frozenset.slot0 slotArgs
 simp only[List.isEmpty_nil,Bool.not_true,bq,↓reduceIte,bind_assoc,List.length_nil,bne_self_eq_false]
 unfold Builtin.Frozenset.addrOf Builtin.Frozenset.sizeOf
 refine aU (aV ?_)
 try dsimp only
 refine aU (aV ?_)
 refine aU (aU (wpAny_setEntries_of gs gd hf (aV ?_)))
 refine aU ?_
 unfold setDrawn
 refine aU (wpAny_setState_of gs gd hf ?_)
 dsimp only
 refine aU (Ea ?_)
 refine aV ?_
 refine wpAny_ite_split (fun q=>?_) fun q=>?_
 ·refine aU (Nn _ _ _ (by rw[List.length_range]) fun ps d' hp=>?_)
  have pl:ps.length=es.size:=by rw[hp.length_eq,List.length_range]
  refine aU (wpAny_newTuple ?_ (by rw[aa,pl];exact hz))
  have g1:(s.heap.push { cls:=.type "tuple",data:=.seq (ps.map fun(n:Nat)=>rawInt n).toArray }).get? a=some os:=ai _ gs
  refine aU (wpAny_setEpoch_of g1 gd hf ?_)
  refine aU (bJ (aV ⟨_,rfl,"set_iterator",_,⟨_,aF _ rfl,rfl⟩,slot_next.lookup,?_⟩))
  have e1:(s.heap.push { cls:=.type "tuple",data:=.seq (ps.map fun(n:Nat)=>rawInt n).toArray }).objs.size=s.heap.objs.size+1:=Heap.size_push ..
  have hat:∀p∈ps,p<es.size:=fun p hm=>by have:=hp.mem_iff.mp hm;rw[List.mem_range]at this;exact this
  refine h _ d' _ [_,a,s.heap.objs.size] (ps.map fun p=>((es[p]?).map (·.2)).getD .none) _ (fun b o e=>ai _ (ai _ e)) ?_ ?_ (by rw[e1];exact Nat.le_succ _) (Qw (T:=s.heap.objs.size) (ps:=ps) hh ?_ ?_ hf rfl _ pl ?_) ⟨⟨_,aF _ rfl,rfl,rfl⟩,⟨os,ai _ g1,gx,gd⟩,ai _ (aF _ rfl)⟩ ⟨os,ai _ g1,gx,gd⟩
  ·refine(hp.map _).trans ?_
   have e2:(List.range es.size).map (fun p=>((es[p]?).map (·.2)).getD Value.none)=es.toList.map (·.2):=by
    refine List.ext_getElem? fun j=>?_
    rw[IG,aE]
    by_cases hj:j<es.size
    ·rw[ah (by rw[List.length_range];exact hj),List.getElem_range,Option.map_some,aY hj];rfl
    ·rw[bf (by rw[List.length_range];omega),Array.getElem?_eq_none (by omega)];rfl
   rw[e2]
  ·intro b hb
   simp only[aB,bR,or_false]at hb
   rcases hb with rfl | rfl | rfl
   ·exact .inr (by rw[e1];exact Nat.le_succ _)
   ·exact .inl rfl
   ·exact .inr (aA _)
  ·rw[e1];exact aT (Nat.lt_succ_of_lt la)
  ·rw[e1];exact aT (Nat.lt_succ_self _)
  ·intro i p hi
   have hm:=hat p (ak hi)
   refine⟨es[p].1,es[p].2,aY hm,?_⟩
   rw[aE,hi,Option.map_some,aY hm];rfl
 ·refine aU (aV ?_)
  refine aU (wpAny_setEpoch_of gs gd hf ?_)
  refine aU (bJ (aV ⟨_,rfl,"set_iterator",_,⟨_,aF _ rfl,rfl⟩,slot_next.lookup,?_⟩))
  have ZW:∀b∈[s.heap.objs.size,a],b=a∨s.heap.objs.size≤b:=by
   intro b hb
   simp only[aB,bR,or_false]at hb
   rcases hb with rfl | rfl
   ·exact .inr (aA _)
   ·exact .inl rfl
  have hs':∀ob,lK (s.heap.push ob) a es ep t:=fun ob=>⟨os,ai _ gs,gx,gd⟩
  cases hb:ON w with
  |true=>
   have hpp:(pickOrder (w.params.setOrder a ep) es).toList.Perm es.toList:=by
    have:=Hr (w.params.setOrder a ep) es.size 0 es.toList #[] (by rw[aO])
    simpa [pickOrder] using this
   refine h _ s.drawn s.heap.objs.size _ ((pickOrder (w.params.setOrder a ep) es).toList.map (·.2)) _ (fun b o e=>ai _ e) (hpp.map _) ZW (aA _) (Ks (fst:=fun _=>0) hh (aT la) hf _ (by rw[aa,hpp.length_eq,aO]) fun s2 i hi hs2=>?_) ⟨⟨_,aF _ rfl,rfl,rfl⟩,hs' _⟩ (hs' _)
   have:=gives_text (prog:=prog) (slot:=0) (i:=i) hb hs2 hf
   rw[IG]
   intro B Q' E' hq
   refine this B Q' E' ?_
   rw[Option.map_map]at hq
   exact hq
  |false=>
   have hd:(!t.plain&&decide (es.size > 1))=false:=by
    cases e:(!t.plain&&decide (es.size > 1))with
    |false=>rfl
    |true=>
     refine absurd ?_ q
     rw[hb]
     exact e
   refine h _ s.drawn s.heap.objs.size _ (es.toList.map (·.2)) _ (fun b o e=>ai _ e) (List.Perm.refl _) ZW (aA _) (Ks (fst:=slotAt t.place) hh (aT la) hf _ (by rw[aa,aO]) fun s2 i hi hs2=>?_) ⟨⟨_,aF _ rfl,rfl,rfl⟩,hs' _⟩ (hs' _)
   have:=Kr (prog:=prog) hb hs2 hf ht hd hi
   rw[IG]
   intro B Q' E' hq
   refine this B Q' E' ?_
   rw[Option.map_map]at hq
   exact hq
end
end Sv
namespace Sv
open PySem PySem.Spec PyProof.Rows
section
variable {prog:Program} {w:World} {A:Around} {E:Value->Shared->Prop} {s:Shared} {a:Addr} {es:Array (Int×Value)} {ep:Nat} {t:SetTable}
theorem Qy{Q:Bool->Shared->Prop}(hT:s.TypeIs (.ref a) "set")(h:Q false s):wpAny (model prog w) A (Builtin.List.listLengthHint (.ref a)) Q E s:=by
 unfold Builtin.List.listLengthHint
 refine aU (wpAny_specialOf hT PySem.F.slot_set_len.lookup ?_)
 generalize hid:("set.__len__":String)=id0
 wp_delta
 rw[show splitId id0=some ("set","__len__")from by subst hid;decide+kernel]
 subst hid
 refine aU (wpAny_isInstance (T:="set") (b:=true) hT (by rw[isSubtype_type];kernel_rfl) ?_)
 refine wpAny_ite_split (fun hab=>absurd hab (by decide)) (fun _=>?_)
 refine wpAny_ite_split (fun _=>?_) (fun hab=>absurd (by decide+kernel) hab)
 refine aU (wpAny_typeOf hT ?_)
 exact aV h
theorem Ku{R:List Value->Shared->Prop}(hh:A.handled=none)(hs:lK s.heap a es ep t)(hf:t.fits es.size=true)(ht:Tb (ON w) t)(hz:es.size≤sizeLine)
  (h:∀(h':Heap)(d':Drawn)(tk:Nat)(vs:List Value),(∀b o,s.heap.get? b=some o->h'.get? b=some o)->vs.Perm (es.toList.map (·.2))->R vs { s with heap:=h',drawn:=d',toks:=tk }):
  wpAny (model prog w) A (collect (.ref a)) R E s:=by
 obtain⟨os,gs,gx,gd⟩:=id hs
 have la:a<s.heap.objs.size:=aC gs
 unfold collect
 refine aU (wpAny_runValue (bH entry_proto_collect' ?_))
 rw[Around.under_plainId PySem.F.plain_proto_collect _]
 show wpAny _ A.in1 (newList [] >>= fun l=>again (.builtin "list.__iadd__" ⟨[l,.ref a],[]⟩)) _ _ s
 refine aU (bJ ?_)
 refine aV ⟨bK PySem.F.plain_list_iadd _,bH entry_list_iadd' ?_⟩
 rw[Around.under_plainId PySem.F.plain_list_iadd _]
 generalize hS:s.heap.objs.size=D at*
 have gD:(s.heap.push { cls:=.type "list",data:=.seq ([]:List Value).toArray }).get? D=some { cls:=.type "list",data:=.seq #[] }:=by rw[<-hS];exact aF _ rfl
 have hs1:lK (s.heap.push { cls:=.type "list",data:=.seq ([]:List Value).toArray }) a es ep t:=⟨os,ai _ gs,gx,gd⟩
 have z1:(s.heap.push { cls:=.type "list",data:=.seq ([]:List Value).toArray }).objs.size=D+1:=by rw[Heap.size_push,hS]
 have k1:∀b o,s.heap.get? b=some o->(s.heap.push { cls:=.type "list",data:=.seq ([]:List Value).toArray }).get? b=some o:=fun b o e=>ai _ e
 revert gD hs1 z1 k1
 generalize s.heap.push { cls:=.type "list",data:=.seq ([]:List Value).toArray }=h1
 intro gD hs1 z1 k1
 show wpAny _ A.in1 (Builtin.List.listExtendWith (.ref D) (.ref a) (.ref D)) _ _ _
 have aD:a≠D:=aT la
 unfold Builtin.List.listExtendWith
 refine aU (wpAny_typeOf (T:="set") hs1.typeIs ?_)
 have q1:Builtin.List.listSameRef (.ref D) (.ref a)=false:=by simp[Builtin.List.listSameRef,Ne.symm aD]
 simp only[q1,show (Value.type "set"==Value.type "list")=false from by decide,show (Value.type "set"==Value.type "tuple")=false from by decide,Bool.or_false,bq,if_false]
 refine aU (Qx (s:={ s with heap:=h1 }) hh hs1 hf ht hz fun h2 d2 I fp ord St k2 hp hfp hI W st hs2=>?_)
 have YM:=k2 _ _ gD
 have ZX:D∉fp:=fun hm=>by
  rcases hfp D hm with e | e
  ·exact aD e.symm
  ·rw[z1]at e;omega
 have key:∀(h3:Heap)(c tk:Nat),St 0 h3->(∀b o,b≠D->h2.get? b=some o->h3.get? b=some o)->h3.get? D=some { cls:=.type "list",data:=.seq #[] c }->
   codeAny (model prog w) A (.builtin "list.extend.loop" ⟨[.ref D,.ref I,.ref D],[]⟩) (fun(r:Result)(s':Shared)=>∃(h4:Heap)(tk:Nat)(acc:Array Value)(c':Nat),r= .ok (.ret (.ref D))/\s'={ s with heap:=h4,drawn:=d2,toks:=tk }/\(∀b o,s.heap.get? b=some o->h4.get? b=some o)/\
    h4.get? D=some { cls:=.type "list",dict:=none,data:=.seq acc c',slots:= #[] }/\ItemsOf (fun i v=>ord[i]?=some v) acc es.size) { s with heap:=h3,drawn:=d2,toks:=tk }:=by
  intro h3 c tk st3 k3 Vr
  refine codeAny_extend_loopS W.toS hz D ZX (.ref D) es.size 0 _ #[] c rfl (Nat.zero_le _) st3 Vr (ItemsOf.nil _) fun s5 acc c' hm g5 hacc=>?_
  obtain⟨h5,g',d',tk',os'⟩:=s5
  have eg:g'=s.gens:=hm.gens
  have ed:d'=d2:=hm.drawn
  have eo:os'=s.os:=hm.os
  subst eg;subst ed;subst eo
  refine⟨h5,tk',acc,c',rfl,rfl,fun b o e=>?_,g5,hacc⟩
  have bD:b≠D:=by rw[<-hS];exact aT (aC e)
  have bI:b≠I:=fun z=>by
   have q:=aC e
   rw[z]at q
   rw[hS]at q
   have hI:D+1≤I:=z1▸hI
   exact absurd (aM q (aS (Nat.le_succ D) hI)) (bX _)
  refine hm.heap b o ?_ (k3 b o bD (k2 _ _ (k1 _ _ e)))
  simp only[aB,bR,or_false,not_or]
  exact⟨bD,bI⟩
 have fin:∀{r:Result}{s':Shared},(∃(h4:Heap)(tk:Nat)(acc:Array Value)(c':Nat),r= .ok (.ret (.ref D))/\s'={ s with heap:=h4,drawn:=d2,toks:=tk }/\(∀b o,s.heap.get? b=some o->h4.get? b=some o)/\
    h4.get? D=some { cls:=.type "list",dict:=none,data:=.seq acc c',slots:= #[] }/\ItemsOf (fun i v=>ord[i]?=some v) acc es.size)-> ∃v,r= .ok (.ret v)/\wpAny (model prog w) A (match v with
     |.ref a=>do match (<-load a).data with
      |.seq xs _=>pure xs.toList
      |_=>unsupported "internal:collect"
     |_=>unsupported "internal:collect") R E s':=by
  rintro r s' ⟨h4,tk,acc,c',rfl,rfl,k4,g4,hacc⟩
  refine⟨_,rfl,?_⟩
  refine aU (wpAny_load g4 ?_)
  refine aV (h h4 d2 tk acc.toList k4 ?_)
  have e:acc.toList=ord:=by
   refine List.ext_getElem? fun j=>?_
   have ol:ord.length=es.size:=by rw[hp.length_eq,aa,aO]
   by_cases hj:j<acc.size
   ·have e1:acc[j]?=some acc[j]:=aY hj
    rw[Array.getElem?_toList,e1]
    exact(hacc.2 j _ e1).symm
   ·rw[bf (by rw[aO];omega),bf (by rw[ol,<-hacc.1];omega)]
  rw[e]
  exact hp
 have last:∀(h3:Heap)(c tk:Nat),St 0 h3->(∀b o,b≠D->h2.get? b=some o->h3.get? b=some o)->h3.get? D=some { cls:=.type "list",data:=.seq #[] c }->
   codeAny (model prog w) A (.builtin "list.extend.loop" ⟨[.ref D,.ref I,.ref D],[]⟩) (fun r s'=>match r with
    |.ok (.ret v)=>wpAny (model prog w) A (match v with
     |.ref a=>do match (<-load a).data with
      |.seq xs _=>pure xs.toList
      |_=>unsupported "internal:collect"
     |_=>unsupported "internal:collect") R E s'
    |.ok _=>False
    |.error e=>E e s') { s with heap:=h3,drawn:=d2,toks:=tk }:=fun h3 c tk st3 k3 Vr=>codeAny_mono (key h3 c tk st3 k3 Vr) fun r s' x=>by
  obtain⟨v,rfl,q⟩:=fin x
  exact q
 refine aU (bG (Qy hs2.typeIs ?_))
 refine wpAny_ite_split (fun _=>?_) (fun _=>aV ⟨bK PySem.F.plain_extend_loop _,last h2 0 s.toks st (fun _ _ _ e=>e) YM⟩)
 refine aU (wpAny_rule ?_)
 refine aU ?_
 show wpAny _ _ (updateSeq D (·.push .none) >>= fun _=>updateSeq D (·.pop)) _ _ _
 refine aU (wpAny_updateSeq YM rfl ?_)
 have Vr:=Heap.get?_update_self (Obj.mapSeq (·.push Value.none)) YM rfl
 refine wpAny_updateSeq (hz:=by seq_fits) Vr rfl ?_
 have gD4:=Heap.get?_update_self (Obj.mapSeq (·.pop)) Vr rfl
 have ZY:∀b o,b≠D->h2.get? b=some o->((h2.update D (Obj.mapSeq (·.push Value.none))).update D (Obj.mapSeq (·.pop))).get? b=some o:=fun b o hb e=>(bg _ _ (Ne.symm hb)).trans ((bg _ _ (Ne.symm hb)).trans e)
 exact aV ⟨bK PySem.F.plain_extend_loop _,last _ _ s.toks (W.frame 0 _ _ st fun b hb o e=>ZY b o (fun z=>ZX (z▸hb)) e) ZY gD4⟩
end
theorem C4:∀{ms ns:List Int},ms.Nodup->(∀z∈ms,z∈ns)->ns.length=ms.length->ns.Perm ms
 |[],ns,_,_,hl=>by
  have e:ns=[]:=List.length_eq_zero_iff.mp hl
  subst e;exact List.Perm.refl _
 |m::ms,ns,hn,hs,hl=>by
  obtain⟨h1,h2⟩:=bQ.mp hn
  have hm:=hs m aH
  refine(List.perm_cons_erase hm).trans (List.Perm.cons m (C4 h2 (fun z hz=>?_) ?_))
  ·exact(List.mem_erase_of_ne (fun e:z=m=>h1 (by rw[<-e];exact hz))).mpr (hs z (au _ hz))
  ·rw[List.length_erase_of_mem hm,hl];rfl
theorem members{prog:Program}{w:World}{es:Array (Int×Value)}{S:Int->Bool}{ms:List Int}(k1:ElemsOf (intKind prog w) es.toList)(k2:∀z,S z=true↔ ∃e∈es.toList,(intKind prog w).is z e.2=true)(hm:∀z,S z=true↔z∈ms)(hn:ms.Nodup)(hl:es.size=ms.length){vs:List Value}(hp:vs.Perm (es.toList.map (·.2))):
  ∃ns:List Int,IntsAre vs ns/\ns.Perm ms:=by
 have hk:∀v∈vs,∃z tk,v= .int z tk:=by
  intro v hv
  obtain⟨e,he,ev⟩:=aQ.mp (hp.mem_iff.mp hv)
  obtain⟨⟨z,hz,_⟩,_⟩:=k1 e he
  rw[ev]at hz
  obtain⟨tk,q⟩:=Value.isInt_shape hz
  exact⟨z,tk,q⟩
 have hex:∀vs:List Value,(∀v∈vs,∃z tk,v= .int z tk)-> ∃ns:List Int,IntsAre vs ns:=by
  intro vs
  induction vs with
  |nil=>intro _;exact⟨[],.nil⟩
  |cons v vs ih=>
   intro h
   obtain⟨z,tk,rfl⟩:=h v aH
   obtain⟨ns,hns⟩:=ih fun u hu=>h u (au _ hu)
   exact⟨z::ns,.cons _ _ hns⟩
 obtain⟨ns,hns⟩:=hex vs hk
 refine⟨ns,hns,?_⟩
 have mem:∀{vs:List Value}{ns:List Int},IntsAre vs ns-> ∀z,z∈ns↔ ∃tk,Value.int z tk∈vs:=by
  intro vs ns h
  induction h with
  |nil=>intro z;simp
  |cons n tk h ih=>
   intro z
   rw[aB,ih z]
   constructor
   ·rintro(rfl | ⟨tk',q⟩)
    ·exact⟨tk,aH⟩
    ·exact⟨tk',au _ q⟩
   ·rintro⟨tk',q⟩
    rcases aB.mp q with q | q
    ·injection q with q1 q2;exact .inl q1
    ·exact .inr ⟨tk',q⟩
 have hsub:∀z,z∈ns↔z∈ms:=by
  intro z
  rw[mem hns z,<-hm z,k2 z]
  constructor
  ·rintro⟨tk,q⟩
   obtain⟨e,he,ev⟩:=aQ.mp (hp.mem_iff.mp q)
   exact⟨e,he,by rw[ev];exact intKind_is _ _ _ _⟩
  ·rintro⟨e,he,q⟩
   obtain⟨tk,ev⟩:=Value.isInt_shape q
   exact⟨tk,hp.mem_iff.mpr (aQ.mpr ⟨e,he,ev⟩)⟩
 have hlen:ns.length=ms.length:=by rw[<-hns.length,hp.length_eq,aa,aO,hl]
 exact C4 hn (fun z hz=>(hsub z).mpr hz) hlen
end Sv
namespace L2
open PySem PySem.Spec PyProof.Rows
section
variable {X:Cx} {p p2 pos pos2:Pos} {e:Expr} {t:TA}
theorem ye(val:Nat->Int):∀i,(firstMet val i).Nodup
 |0=>by rw[firstMet_zero];exact List.nodup_nil
 |i+1=>by
  rw[firstMet_succ]
  unfold step_dedup
  split
  ·exact ye val i
  ·rename_i h
   rw[List.nodup_append]
   refine⟨ye val i,by simp,fun a ha b hb=>?_⟩
   rw[bW]at hb
   subst hb
   intro q
   exact h (List.any_eq_true.mpr ⟨a,ha,by simp[q]⟩)
theorem Sx(ns:List Int)(z:Int):z∈firstMet (fun i=>ns.getD i 0) ns.length↔z∈ns:=by
 have h:=firstMet_any (fun i=>ns.getD i 0) ns.length z
 have e:(List.range ns.length).map (fun i=>ns.getD i 0)=ns:=by
  refine List.ext_getElem? fun j=>?_
  rw[aE]
  by_cases hj:j<ns.length
  ·rw[ah (by rw[List.length_range];exact hj),List.getElem_range,Option.map_some,List.getD_eq_getElem?_getD,ah hj];rfl
  ·rw[bf (by rw[List.length_range];omega),bf (by omega)];rfl
 rw[e]at h
 have q:∀l:List Int,l.any (· ==z)=true↔z∈l:=fun l=>by simp
 rw[<-q,h,q]
def Np(ns:List Int):List Int:=firstMet (fun i=>ns.getD i 0) ns.length
def OS(P:Program)(w:World)(q:Addr)(ns:List Int):HO:=.ext fun h=>Sv.vX P w h q (fun y=>(Np ns).any (· ==y)) (Np ns).length
def YN(P:Program)(w:World)(K:PySem.W.Frag):List V->Hp->VK->Prop:=fun vs H Q=>∃(a:Addr)(ns:List Int),vs=[V.ref a]/\dG K H a (ns.map V.int)/\ns.length≤1000/\ ∀q,H q=none->Q (.ref q) (upd H q (OS P w q ns))
theorem UO(hc:X.calm=true):AJ X (.type "set") (YN X.prog X.w X.K):=by
 intro pins s σ H vs us Q I r h
 obtain⟨a,ns,rfl,hs,hn,q⟩:=h
 obtain⟨its,rv,hl,_⟩:=I.list hs
 rw[Vals.LC r]
 have hi:=rv.ints
 have hsz:its.toArray.size=ns.length:=by rw[aR,hi.length]
 refine PySem.Ko (items:=its.toArray) (ns:=ns) (I.ok.hd hc) hl.isList (by simpa using hi) (by rw[hsz];unfold scanBound;omega) fun h' tk hS hk=>?_
 rw[hsz]at hS
 refine⟨.ref _,upd H s.heap.objs.size (OS X.prog X.w s.heap.objs.size ns),I.laid (t':=tk) (fun b u e=>hk b u (aC e) e) (aA _) ⟨hS,?_,fun h1 h2 x e=>x.at' e⟩,rfl,q _ (I.hok.fresh (aA _))⟩
 obtain⟨o,es,ep,t,g,_⟩:=hS
 exact⟨o,g⟩
def Qz(P:Program)(w:World):List V->Hp->VK->Prop:=fun vs H Q=>∃(a:Addr)(ns:List Int),vs=[V.ref a]/\H a=some (OS P w a ns)/\ns.length≤1000/\
 ∀(ns':List Int)(q:Addr),ns'.Pairwise (· < ·)->(∀x,x∈ns'↔x∈ns)->H q=none->Q (.ref q) (upd H q (.lst (ns'.map V.int)))
theorem Inv.drew{pins:List (Addr×Obj)}{σ:St}{H:Hp}{s:Shared}{d':Drawn}{t':Nat}(I:Inv X pins σ H s):Inv X pins σ H { s with drawn:=d',toks:=t' }:=⟨I.ok,I.os,I.bare,I.base,I.loc,I.cell,I.free,I.qk,I.pin,I.hok,I.len⟩
theorem Mh(hc:X.calm=true):AJ X (.builtin "sorted") (Qz X.prog X.w):=by
 intro pins s σ H vs us Q I r h
 obtain⟨a,ns,rfl,ha,hn,q⟩:=h
 obtain⟨⟨o,es,ep,t,g1,g2,g3,k1,k2,k3,k4,k6,k5⟩,_,_⟩:=I.hok a _ ha
 rw[Vals.LC r]
 have ml:(Np ns).length≤1000:=aS (firstMet_length_le _ _) hn
 have QA:∀m:Nat,m≤1000->m≤sizeLine:=fun m h=>by rw[sizeLine_eq];omega
 refine Calls.call_function_entry kind_sorted plain_sorted entry_sorted (args_sorted1 _) ?_
 unfold Builtin.«sorted»
 refine aU (m:=checkCount "sorted" 1 1 _) (aV ?_)
 refine aU (Sv.Ku (A:=X.A.in1) (I.ok.hd hc) ⟨o,g1,g2,g3⟩ k4 k5 (by rw[k6];exact QA _ ml) fun h' d' tk ws hkp hws=>?_)
 obtain⟨ms,hI,hms⟩:=Sv.members k1 k2 (ms:=Np ns) (fun z=>by simp) (ye _ _) k6 hws
 have hwl:ws.length≤sizeLine:=by rw[hI.length,hms.length_eq];exact QA _ ml
 refine aU (wpAny_newList ?_ hwl)
 have RJ:(h'.push (seqObj "list" ws.toArray 0)).get? h'.objs.size=some (seqObj "list" ws.toArray 0):=aF _ rfl
 refine aU (bG (bF PyProof.Rows.slot_list_sort ⟨_,RJ,rfl⟩ PyProof.Rows.entry_list_sort
  (list_sort_treeAny RJ hI hwl fun out ns' a1 a2 a3=>⟨_,rfl,?_⟩) (PyProof.Rows.args_list_sort _)))
 refine aV ⟨_,rfl,?_⟩
 obtain⟨MO,he'⟩:=PyProof.Rows.sortedHeap_at (vs:=ws) (out:=out) RJ
 have Yy:(ns'.map V.int).length≤sizeLine:=by rw[aa,a2.length_eq,hms.length_eq];exact QA _ ml
 have I1:=Inv.drew (d':=d') (t':=tk) (I.kept (t':=s.toks) hkp)
 have hnd:ns'.Nodup:=(a2.trans hms).nodup_iff.mpr (ye _ _)
 have Nq:ns'.Pairwise (· < ·):=(a3.and hnd).imp fun⟨h1,h2⟩=>by omega
 have hmem:∀x,x∈ns'↔x∈ns:=fun x=>by rw[(a2.trans hms).mem_iff];exact Sx ns x
 refine⟨.ref _,upd H h'.objs.size (.lst (ns'.map V.int)),I1.laid (t':=tk) (fun b u hb'=>?_) (aA _) ⟨Yy,out.toList,MO,tO a1,he'⟩,rfl,q ns' _ Nq hmem (I1.hok.fresh (aA _))⟩
 have hb':h'.get? b=some u:=hb'
 rw[PyProof.Rows.sortedHeap_old (aT (aC hb')) (by rw[size_push'];exact Nat.lt_succ_of_lt (aC hb'))]
 exact ai _ hb'
end
end L2
namespace L2
open PySem PySem.Spec PyProof.Rows
theorem QB{d:Addr}{o:Obj}{kvs:List (Key×V)}{g:TG}{tb:TS}{D:Ends}{σ:St}{H:Hp}(Pv:Nat->St->Hp->Prop)(h0:Pv 0 σ H)(hl:∀i σ H,i≤kvs.length->Pv i σ H->H d=some (.oR o (.dK kvs)))
  (hs:∀i k v σ H,kvs[i]?=some (k,v)->Pv i σ H->g (kV k) σ H fun σ2 H2=>tb { D with nx:=Pv (i+1),ct:=Pv (i+1),bk:=D.nx } σ2 H2)(hd:∀σ H,Pv kvs.length σ H->D.nx σ H):
  ∃W:Nat->Nat->St->Hp->Prop,(∃m,W 0 m σ H)/\ ∀i m σ H,W i m σ H->
   ((V8 d o kvs).stop i H/\D.nx σ H)∨((V8 d o kvs).go i H/\ ∃N:St->Hp->Prop,(∀σ' H',N σ' H'-> ∃m',m'<m/\W (i+1) m' σ' H')/\ ∀x H',(V8 d o kvs).RM i H x H'->g x σ H' fun σ2 H2=>tb { D with nx:=N,ct:=N,bk:=D.nx } σ2 H2):=by
 refine⟨fun i m σ H=>m=kvs.length-i/\i≤kvs.length/\Pv i σ H,⟨kvs.length,by simp,Nat.zero_le _,h0⟩,?_⟩
 rintro i m σ H ⟨rfl,hi,p⟩
 have q:=hl i σ H hi p
 by_cases hlt:i<kvs.length
 ·refine .inr ⟨⟨q,hlt⟩,Pv (i+1),fun σ' H' p'=>⟨kvs.length-(i+1),by omega,rfl,hlt,p'⟩,fun x H' y=>?_⟩
  obtain⟨rfl,k,v,e,rfl⟩:=y
  exact hs i k v σ H' e p
 ·have e:i=kvs.length:=by omega
  subst e
  exact .inl ⟨⟨q,aA _⟩,hd σ H p⟩
theorem nE.kf{H:Hp}{a:Addr}{o:Obj}{kvs:List (Key×V)}{k:Key}(e:H a=some (.oR o (.dK kvs))):nE H a (kV k) (iY kvs k):=.inl ⟨kvs,k,.inr ⟨o,e⟩,rfl,rfl⟩
theorem Kv:∀ns ms:List Int,PyData.eqvAll (ns.map PyData.int) (ms.map PyData.int)=decide (ns=ms)
 |[],[]=>by simp[PyData.eqvAll]
 |[],_::_=>by simp[PyData.eqvAll]
 |_::_,[]=>by simp[PyData.eqvAll]
 |n::ns,m::ms=>by
  rw[aL,aL,PyData.eqvAll,Kv ns ms,PyData.eqv]
  by_cases h:n=m <;> by_cases h':ns=ms <;> simp[h,h']
theorem Eb{K:PySem.W.Frag}{H:Hp}:∀ns:List Int,Eo K H (ns.map V.int) (ns.map PyData.int)
 |[]=>.nil
 |n::ns=>.cons (.int n) (Eb ns)
theorem C5:∀ns:List Int,PyData.canLayAll0 (ns.map PyData.int)=true
 |[]=>rfl
 |n::ns=>by rw[aL,PyData.canLayAll0,C5 ns];rfl
theorem EZ:∀ns:List Int,PyData.depthAll (ns.map PyData.int)=0
 |[]=>rfl
 |n::ns=>by rw[aL,PyData.depthAll,EZ ns];simp[PyData.depth]
theorem shaped_ints(ns:List Int):SeqAt.shaped (.list (ns.map PyData.int))=true:=by
 unfold SeqAt.shaped
 rw[PyData.canLay0,C5,PyData.depth,EZ];rfl
end L2
namespace Rv
open PySem PySem.Spec PyProof.Rows L2
open Vblaaf (Frac Point Block Knot lowest whole plus minus times over less mean)
open Rc (Ok Sz)
def top(i:Nat):Stmt:=PySem.Challenge.pw_risingcurves_s01_answers.main.body.getD i (.Pass ⟨0,0,0,0⟩)
structure gY where
 CF:Addr
 CB:Addr
 CC:Addr
 CR:Addr
 CO:Addr
 CL:Addr
 CD:Addr
 CG:Addr
 CU:Addr
 CS:Addr
 o9:Addr
 lM:Addr
 jg:Addr
 kj:Addr
 iR:Addr
 jA:Addr
 qR:Addr
 jB:Addr
 ko:Addr
 kq:Addr
 jC:Addr
 lN:Addr
 tW:Addr
 lO:Addr
 jD:Addr
 iS:Addr
 jh:Addr
 iT:Addr
 jE:Addr
 ku:Addr
 kC:Addr
 nG:Addr
 kD:Addr
 kE:Addr
 jF:Addr
 iU:Addr
 pq:Addr
 jG:Addr
 jH:Addr
 jI:Addr
 II:Addr
 n9:Addr
 qv:Addr
 oh:Addr
 mT:Addr
 i6:Addr
structure rW(mg:Str->Option Value)(x:Str)(v:V):Prop where
 ex:∃u,mg x=some u/\RelV v u
theorem dB{X:Cx}{x:Str}{v:V}{pos:Pos}(hg:Gl X x)(C:rW X.mg x v)(hd:(x==("__debug__":Str))=false:=by decide):PE X (.Name x pos) (tC v):=by
 obtain⟨u,hm,r⟩:=C.ex
 exact RK hg hm r hd
structure fq{α:Type}(R:Addr->α->Prop)(as:List Addr)(xs:List α):Prop where
 len:as.length=xs.length
 at_:∀(i:Nat)(a:Addr)(x:α),as[i]?=some a->xs[i]?=some x->R a x
theorem fq.nil{α:Type}{R:Addr->α->Prop}:fq R [] []:=⟨rfl,fun i a x h=>by simp at h⟩
theorem fq.imp{α:Type}{R R':Addr->α->Prop}{as:List Addr}{xs:List α}(h:fq R as xs)(f:∀a x,R a x->R' a x):fq R' as xs:=⟨h.len,fun i a x h1 h2=>f a x (h.at_ i a x h1 h2)⟩
theorem fq.get{α:Type}{R:Addr->α->Prop}{as:List Addr}{xs:List α}(h:fq R as xs){i:Nat}{x:α}(hx:xs[i]?=some x):∃a,as[i]?=some a/\R a x:=by
 have hl:i<as.length:=by rw[h.len];exact(af.mp hx).1
 exact⟨as[i],ah hl,h.at_ i _ x (ah hl) hx⟩
theorem fq.get'{α:Type}{R:Addr->α->Prop}{as:List Addr}{xs:List α}(h:fq R as xs){i:Nat}{a:Addr}(ha:as[i]?=some a):∃x,xs[i]?=some x/\R a x:=by
 have hl:i<xs.length:=by rw[<-h.len];exact(af.mp ha).1
 exact⟨xs[i],ah hl,h.at_ i a _ ha (ah hl)⟩
theorem fq.snoc{α:Type}{R:Addr->α->Prop}{as:List Addr}{xs:List α}(h:fq R as xs){a:Addr}{x:α}(hx:R a x):fq R (as++[a]) (xs++[x]):=by
 refine⟨by simp[h.len],fun i b y h1 h2=>?_⟩
 by_cases hi:i<as.length
 ·rw[bO hi]at h1
  rw[bO (by rw[<-h.len];exact hi)]at h2
  exact h.at_ i b y h1 h2
 ·rw[bP (by omega)]at h1
  rw[bP (by rw[<-h.len];omega),<-h.len]at h2
  cases e:i-as.length with
  |zero=>
   rw[e]at h1 h2
   have e1:a=b:=by simpa using h1
   have e2:x=y:=by simpa using h2
   subst e1 e2
   exact hx
  |succ j=>rw[e]at h1;simp at h1
theorem f7{as:List Addr}{i:Nat}{y:V}(h:(as.map V.ref)[i]?=some y):∃a,as[i]?=some a/\y=V.ref a:=by
 rw[aE]at h
 cases e:as[i]? with
 |none=>rw[e]at h;cases h
 |some a=>rw[e]at h;exact⟨a,rfl,(az h).symm⟩
theorem QC{as:List Addr}{i:Nat}{a:Addr}(h:as[i]?=some a):(as.map V.ref)[i]?=some (V.ref a):=by rw[aE,h];rfl
theorem int_at{as:List Int}{i:Nat}{y:V}(h:(as.map V.int)[i]?=some y):∃a,as[i]?=some a/\y=V.int a:=by
 rw[aE]at h
 cases e:as[i]? with
 |none=>rw[e]at h;cases h
 |some a=>rw[e]at h;exact⟨a,rfl,(az h).symm⟩
theorem E1{as:List Int}{i:Nat}{a:Int}(h:as[i]?=some a):(as.map V.int)[i]?=some (V.int a):=by rw[aE,h];rfl
theorem cK.upd{H:Hp}{a:Addr}{o:HO}(h:H a=none):cK H (L2.upd H a o):=fun b u e=>by rw[cV (dj e h)];exact e
theorem cK.fU{H0 H:Hp}{a:Addr}{o:HO}(s:cK H0 H)(h:H0 a=none):cK H0 (L2.upd H a o):=fun b u e=>by rw[cV (dj e h)];exact s b u e
def fV{α:Type}(R:Hp->Addr->α->Prop)(H:Hp)(l:Addr)(xs:List α):Prop:=∃as,H l=some (.lst (as.map V.ref))/\fq (R H) as xs
theorem fV.same{α:Type}{R:Hp->Addr->α->Prop}{H H':Hp}{l:Addr}{xs:List α}(h:fV R H l xs)(s:cK H H')(f:∀a x,R H a x->R H' a x):fV R H' l xs:=
 let ⟨as,e,q⟩:=h;⟨as,s _ _ e,q.imp f⟩
def Vs(f:Frac):List (Str×V):=dX "bottom" (.int f.den) (dX "top" (.int f.num) [])
theorem gC(f:Frac):(Vs f).lookup ("top":Str)=some (.int f.num):=by
 unfold Vs
 rw[cI,bz (by decide),cI,bA rfl]
theorem eB(f:Frac):(Vs f).lookup ("bottom":Str)=some (.int f.den):=by
 unfold Vs
 rw[cI,bA rfl]
def mU(A:gY)(H:Hp)(a:Addr)(f:Frac):Prop:=∃dx,H a=some (.ins A.CF dx (Vs f))
theorem mU.same{A:gY}{H H':Hp}{a:Addr}{f:Frac}(h:mU A H a f)(s:cK H H'):mU A H' a f:=let ⟨dx,e⟩:=h;⟨dx,s _ _ e⟩
def O2(b:Block):List (Str×V):=dX "total" (.int b.sum) (dX "weight" (.int b.weight) (dX "size" (.int b.doses) (dX "last" (.int b.last) (dX "first" (.int b.first) []))))
theorem Cd(b:Block):(O2 b).lookup ("first":Str)=some (.int b.first):=by
 unfold O2
 rw[cI,bz (by decide),cI,bz (by decide),cI,bz (by decide),cI,bz (by decide),cI,bA rfl]
theorem Kw(b:Block):(O2 b).lookup ("last":Str)=some (.int b.last):=by
 unfold O2
 rw[cI,bz (by decide),cI,bz (by decide),cI,bz (by decide),cI,bA rfl]
theorem A6(b:Block):(O2 b).lookup ("size":Str)=some (.int b.doses):=by
 unfold O2
 rw[cI,bz (by decide),cI,bz (by decide),cI,bA rfl]
theorem kQ(b:Block):(O2 b).lookup ("weight":Str)=some (.int b.weight):=by
 unfold O2
 rw[cI,bz (by decide),cI,bA rfl]
theorem oG(b:Block):(O2 b).lookup ("total":Str)=some (.int b.sum):=by
 unfold O2
 rw[cI,bA rfl]
def BW(A:gY)(H:Hp)(a:Addr)(b:Block):Prop:=∃dx,H a=some (.ins A.CB dx (O2 b))
theorem BW.same{A:gY}{H H':Hp}{a:Addr}{b:Block}(h:BW A H a b)(s:cK H H'):BW A H' a b:=let ⟨dx,e⟩:=h;⟨dx,s _ _ e⟩
structure tX where
 tR:Addr
 doses:Addr
 nH:Addr
 blocks:Addr
 gA:Addr
def O3(c:tX):List (Str×V):=dX "heights" (.ref c.gA) (dX "blocks" (.ref c.blocks) (dX "whole_doses" (.ref c.nH) (dX "doses" (.ref c.doses) (dX "singles" (.ref c.tR) []))))
theorem Kx(c:tX):(O3 c).lookup ("singles":Str)=some (.ref c.tR):=by
 unfold O3
 rw[cI,bz (by decide),cI,bz (by decide),cI,bz (by decide),cI,bz (by decide),cI,bA rfl]
theorem lB(c:tX):(O3 c).lookup ("doses":Str)=some (.ref c.doses):=by
 unfold O3
 rw[cI,bz (by decide),cI,bz (by decide),cI,bz (by decide),cI,bA rfl]
theorem iC(c:tX):(O3 c).lookup ("whole_doses":Str)=some (.ref c.nH):=by
 unfold O3
 rw[cI,bz (by decide),cI,bz (by decide),cI,bA rfl]
theorem Mi(c:tX):(O3 c).lookup ("blocks":Str)=some (.ref c.blocks):=by
 unfold O3
 rw[cI,bz (by decide),cI,bA rfl]
theorem gn(c:tX):(O3 c).lookup ("heights":Str)=some (.ref c.gA):=by
 unfold O3
 rw[cI,bA rfl]
def Xn(A:gY)(H:Hp)(a:Addr)(c:tX):Prop:=∃dx,H a=some (.ins A.CC dx (O3 c))
theorem Xn.same{A:gY}{H H':Hp}{a:Addr}{c:tX}(h:Xn A H a c)(s:cK H H'):Xn A H' a c:=let ⟨dx,e⟩:=h;⟨dx,s _ _ e⟩
def Rz(p:Point):List (Str×V):=dX "bound" (.int p.bound) (dX "weight" (.int p.weight) (dX "response" (.int p.response) (dX "dose" (.int p.dose) [])))
theorem jJ(p:Point):(Rz p).lookup ("dose":Str)=some (.int p.dose):=by
 unfold Rz
 rw[cI,bz (by decide),cI,bz (by decide),cI,bz (by decide),cI,bA rfl]
theorem i7(p:Point):(Rz p).lookup ("response":Str)=some (.int p.response):=by
 unfold Rz
 rw[cI,bz (by decide),cI,bz (by decide),cI,bA rfl]
theorem lY(p:Point):(Rz p).lookup ("weight":Str)=some (.int p.weight):=by
 unfold Rz
 rw[cI,bz (by decide),cI,bA rfl]
theorem sF(p:Point):(Rz p).lookup ("bound":Str)=some (.int p.bound):=by
 unfold Rz
 rw[cI,bA rfl]
def vn(A:gY)(H:Hp)(a:Addr)(p:Point):Prop:=∃dx,H a=some (.ins A.CR dx (Rz p))
theorem vn.same{A:gY}{H H':Hp}{a:Addr}{p:Point}(h:vn A H a p)(s:cK H H'):vn A H' a p:=let ⟨dx,e⟩:=h;⟨dx,s _ _ e⟩
def UP(c:Vblaaf.Control):List (Str×V):=dX "weight" (.int c.weight) (dX "response" (.int c.response) (dX "dose" (.int c.dose) []))
theorem A7(c:Vblaaf.Control):(UP c).lookup ("dose":Str)=some (.int c.dose):=by
 unfold UP
 rw[cI,bz (by decide),cI,bz (by decide),cI,bA rfl]
theorem tY(c:Vblaaf.Control):(UP c).lookup ("response":Str)=some (.int c.response):=by
 unfold UP
 rw[cI,bz (by decide),cI,bA rfl]
theorem tZ(c:Vblaaf.Control):(UP c).lookup ("weight":Str)=some (.int c.weight):=by
 unfold UP
 rw[cI,bA rfl]
def Ce(A:gY)(H:Hp)(a:Addr)(c:Vblaaf.Control):Prop:=∃dx,H a=some (.ins A.CO dx (UP c))
theorem Ce.same{A:gY}{H H':Hp}{a:Addr}{c:Vblaaf.Control}(h:Ce A H a c)(s:cK H H'):Ce A H' a c:=let ⟨dx,e⟩:=h;⟨dx,s _ _ e⟩
structure Mj where
 until_:Int
 cP:Addr
 controls:Addr
def QD(l:Mj):List (Str×V):=dX "controls" (.ref l.controls) (dX "readings" (.ref l.cP) (dX "good_until" (.int l.until_) []))
theorem pA(l:Mj):(QD l).lookup ("good_until":Str)=some (.int l.until_):=by
 unfold QD
 rw[cI,bz (by decide),cI,bz (by decide),cI,bA rfl]
theorem d7(l:Mj):(QD l).lookup ("readings":Str)=some (.ref l.cP):=by
 unfold QD
 rw[cI,bz (by decide),cI,bA rfl]
theorem iE(l:Mj):(QD l).lookup ("controls":Str)=some (.ref l.controls):=by
 unfold QD
 rw[cI,bA rfl]
def UQ(A:gY)(H:Hp)(a:Addr)(l:Mj):Prop:=∃dx,H a=some (.ins A.CL dx (QD l))
theorem UQ.same{A:gY}{H H':Hp}{a:Addr}{l:Mj}(h:UQ A H a l)(s:cK H H'):UQ A H' a l:=let ⟨dx,e⟩:=h;⟨dx,s _ _ e⟩
structure Hu where
 now:Int
 lots:Addr
 results:Addr
def Sy(d:Hu):List (Str×V):=dX "results" (.ref d.results) (dX "lots" (.ref d.lots) (dX "now" (.int d.now) []))
theorem yf(d:Hu):(Sy d).lookup ("now":Str)=some (.int d.now):=by
 unfold Sy
 rw[cI,bz (by decide),cI,bz (by decide),cI,bA rfl]
theorem fc(d:Hu):(Sy d).lookup ("lots":Str)=some (.ref d.lots):=by
 unfold Sy
 rw[cI,bz (by decide),cI,bA rfl]
theorem jK(d:Hu):(Sy d).lookup ("results":Str)=some (.ref d.results):=by
 unfold Sy
 rw[cI,bA rfl]
def Xo(A:gY)(H:Hp)(a:Addr)(d:Hu):Prop:=∃dx,H a=some (.ins A.CD dx (Sy d))
theorem Xo.same{A:gY}{H H':Hp}{a:Addr}{d:Hu}(h:Xo A H a d)(s:cK H H'):Xo A H' a d:=let ⟨dx,e⟩:=h;⟨dx,s _ _ e⟩
structure QE where
 size:Addr
 dose:Int
def Ws(g:QE):List (Str×V):=dX "dose" (.int g.dose) (dX "size" (.ref g.size) [])
theorem Ky(g:QE):(Ws g).lookup ("size":Str)=some (.ref g.size):=by
 unfold Ws
 rw[cI,bz (by decide),cI,bA rfl]
theorem QF(g:QE):(Ws g).lookup ("dose":Str)=some (.int g.dose):=by
 unfold Ws
 rw[cI,bA rfl]
def ZZ(A:gY)(H:Hp)(a:Addr)(g:QE):Prop:=∃dx,H a=some (.ins A.CG dx (Ws g))
structure IJ where
 time:Int
 lot:Int
 response:Int
 off:Int
 doses:Addr
def QG(r:IJ):List (Str×V):=dX "doses" (.ref r.doses) (dX "off" (.int r.off) (dX "response" (.int r.response) (dX "lot_number" (.int r.lot) (dX "time" (.int r.time) []))))
theorem QH(r:IJ):(QG r).lookup ("time":Str)=some (.int r.time):=by
 unfold QG
 rw[cI,bz (by decide),cI,bz (by decide),cI,bz (by decide),cI,bz (by decide),cI,bA rfl]
theorem vY(r:IJ):(QG r).lookup ("lot_number":Str)=some (.int r.lot):=by
 unfold QG
 rw[cI,bz (by decide),cI,bz (by decide),cI,bz (by decide),cI,bA rfl]
theorem A8(r:IJ):(QG r).lookup ("response":Str)=some (.int r.response):=by
 unfold QG
 rw[cI,bz (by decide),cI,bz (by decide),cI,bA rfl]
theorem Nr(r:IJ):(QG r).lookup ("off":Str)=some (.int r.off):=by
 unfold QG
 rw[cI,bz (by decide),cI,bA rfl]
theorem Hv(r:IJ):(QG r).lookup ("doses":Str)=some (.ref r.doses):=by
 unfold QG
 rw[cI,bA rfl]
def Vt(A:gY)(H:Hp)(a:Addr)(r:IJ):Prop:=∃dx,H a=some (.ins A.CU dx (QG r))
theorem Vt.same{A:gY}{H H':Hp}{a:Addr}{r:IJ}(h:Vt A H a r)(s:cK H H'):Vt A H' a r:=let ⟨dx,e⟩:=h;⟨dx,s _ _ e⟩
structure Cf where
 curve:V
 shift:V
def QI(r:Cf):List (Str×V):=dX "shift" (r.shift) (dX "curve" (r.curve) [])
theorem lZ(r:Cf):(QI r).lookup ("curve":Str)=some (r.curve):=by
 unfold QI
 rw[cI,bz (by decide),cI,bA rfl]
theorem Hw(r:Cf):(QI r).lookup ("shift":Str)=some (r.shift):=by
 unfold QI
 rw[cI,bA rfl]
def Xp(A:gY)(H:Hp)(a:Addr)(r:Cf):Prop:=∃dx,H a=some (.ins A.CS dx (QI r))
theorem Xp.same{A:gY}{H H':Hp}{a:Addr}{r:Cf}(h:Xp A H a r)(s:cK H H'):Xp A H' a r:=let ⟨dx,e⟩:=h;⟨dx,s _ _ e⟩
def Cg(A:gY):List (Int×V):=[(4,.ref A.lM),(5,.ref A.jg),(6,.ref A.kj),(7,.ref A.iR),(8,.ref A.jA)]
def DC(A:gY):List (Int×V):=[(9,.ref A.jB),(10,.ref A.ko),(11,.ref A.kq),(17,.ref A.jC),(18,.ref A.lN)]
def E2(A:gY):List (Int×V):=[(0,.ref A.lO),(1,.ref A.jD),(2,.ref A.iS),(3,.ref A.jh),(15,.ref A.iT),(16,.ref A.jE),(23,.ref A.ku),(24,.ref A.kC)]
def A9(A:gY):List (Int×V):=[(19,.ref A.kD),(20,.ref A.kE),(21,.ref A.jF),(22,.ref A.iU)]
def Ci(A:gY):List (Int×V):=[(12,.ref A.jG),(13,.ref A.jH),(14,.ref A.jI)]
def Hx:List (Int×V):=[(0,.int (2)),(1,.int (5)),(2,.int (2)),(3,.int (1)),(4,.int (1)),(5,.int (1)),(6,.int (1)),(7,.int (1)),(8,.int (1)),(9,.int (3)),(10,.int (3)),(11,.int (2)),(12,.int (2)),(13,.int (1)),(14,.int (3)),(15,.int (4)),(16,.int (1)),(17,.int (1)),(18,.int (2)),(19,.int (1)),(20,.int (3)),(21,.int (1)),(22,.int (0)),(23,.int (3)),(24,.int (0))]
structure Txt(K:PySem.W.Frag)(mg:Str->Option Value)(A:gY):Prop where
 cF:Jy K A.CF
 iA:eZ K A.CF "top"
 eG:eZ K A.CF "bottom"
 cB:Jy K A.CB
 vZ:eZ K A.CB "first"
 Ec:eZ K A.CB "last"
 yg:eZ K A.CB "size"
 jQ:eZ K A.CB "weight"
 ng:eZ K A.CB "total"
 cC:Jy K A.CC
 pB:eZ K A.CC "singles"
 jL:eZ K A.CC "doses"
 gu:eZ K A.CC "whole_doses"
 yh:eZ K A.CC "blocks"
 f9:eZ K A.CC "heights"
 cR:Jy K A.CR
 jR:eZ K A.CR "dose"
 iF:eZ K A.CR "response"
 lC:eZ K A.CR "weight"
 pC:eZ K A.CR "bound"
 cO:Jy K A.CO
 yi:eZ K A.CO "dose"
 nh:eZ K A.CO "response"
 oH:eZ K A.CO "weight"
 cL:Jy K A.CL
 kF:eZ K A.CL "good_until"
 dY:eZ K A.CL "readings"
 fY:eZ K A.CL "controls"
 cD:Jy K A.CD
 t6:eZ K A.CD "now"
 fu:eZ K A.CD "lots"
 i8:eZ K A.CD "results"
 cG:Jy K A.CG
 Ed:eZ K A.CG "size"
 IK:eZ K A.CG "dose"
 cU:Jy K A.CU
 IL:eZ K A.CU "time"
 mV:eZ K A.CU "lot_number"
 qw:eZ K A.CU "response"
 IM:eZ K A.CU "off"
 Ba:eZ K A.CU "doses"
 cS:Jy K A.CS
 kG:eZ K A.CS "curve"
 v7:eZ K A.CS "shift"
 xFB:A.CF≠A.CB
 Wt:A.CF≠A.CC
 xFR:A.CF≠A.CR
 xFO:A.CF≠A.CO
 xFL:A.CF≠A.CL
 xFD:A.CF≠A.CD
 xFG:A.CF≠A.CG
 xFU:A.CF≠A.CU
 Xq:A.CF≠A.CS
 Tu:A.CB≠A.CC
 xBR:A.CB≠A.CR
 xBO:A.CB≠A.CO
 xBL:A.CB≠A.CL
 xBD:A.CB≠A.CD
 xBG:A.CB≠A.CG
 xBU:A.CB≠A.CU
 YO:A.CB≠A.CS
 xCR:A.CC≠A.CR
 xCO:A.CC≠A.CO
 xCL:A.CC≠A.CL
 xCD:A.CC≠A.CD
 xCG:A.CC≠A.CG
 xCU:A.CC≠A.CU
 YQ:A.CC≠A.CS
 xRO:A.CR≠A.CO
 Xr:A.CR≠A.CL
 Z0:A.CR≠A.CD
 xRG:A.CR≠A.CG
 xRU:A.CR≠A.CU
 YR:A.CR≠A.CS
 YS:A.CO≠A.CL
 Z1:A.CO≠A.CD
 xOG:A.CO≠A.CG
 xOU:A.CO≠A.CU
 YT:A.CO≠A.CS
 YU:A.CL≠A.CD
 xLG:A.CL≠A.CG
 Z2:A.CL≠A.CU
 YV:A.CL≠A.CS
 xDG:A.CD≠A.CG
 Z3:A.CD≠A.CU
 xDS:A.CD≠A.CS
 xGU:A.CG≠A.CU
 xGS:A.CG≠A.CS
 xUS:A.CU≠A.CS
 Cj:rW mg "LOT_COUNT" (.int (4))
 yF:rW mg "MOST_READINGS" (.int (40))
 yG:rW mg "MOST_CONTROLS" (.int (20))
 Hy:rW mg "LAST_TIME" (.int (4611686018427387904))
 Ck:rW mg "LAST_DOSE" (.int (1000000))
 qS:rW mg "MOST_RESPONSE" (.int (1000000))
 C6:rW mg "MOST_WEIGHT" (.int (1000))
 E3:rW mg "MOST_BOUND" (.int (1000000))
 yH:rW mg "NO_LOT_NUMBER" (.int (-1))
 Bb:rW mg "NO_SUCH_STEP" (.int (-1))
 v8:rW mg "NO_SUCH_RESULT" (.int (-1))
 Hz:rW mg "NOT_THERE" (.int (-2))
 fH:rW mg "OUT_OF_RANGE" (.int (-3))
 SA:rW mg "FULL" (.int (-4))
 Kz:rW mg "TOO_LATE" (.int (-4))
 jZ:rW mg "TURNED_OUT_OF_RANGE" (.int (-4))
 fD:rW mg "NO_READINGS" (.int (-5))
 Nt:rW mg "NO_LINE" (.int (-6))
 E4:rW mg "NO_CONTROL" (.int (-6))
 v9:rW mg "NO_SHARED_DOSE" (.int (-6))
 sG:rW mg "CONTROL_OFF_LINE" (.int (-7))
 E5:rW mg "CLASHING" (.int (-8))
 Bc:rW mg "NO_SUCH_DOSE" (.int (-9))
 Bd:rW mg "NOT_GOOD_NOW" (.int (-9))
 HA:rW mg "MOST_PART" (.int (1000))
 z8:rW mg "MOST_ASKED" (.int (1000000))
 C7:rW mg "MOST_FACTOR" (.int (1000))
 z9:rW mg "MOST_ADDED" (.int (1000000))
 Be:rW mg "MOST_RESULTS" (.int (100))
 HB:rW mg "MOST_STEP" (.int (1000000000))
 Aa:rW mg "MOST_TRUTH" (.int (2000000))
 KA:rW mg "CALL_LOT" (.int (0))
 E6:rW mg "CALL_TRIAL" (.int (8))
 KC:rW mg "CALL_GAP" (.int (18))
 abs:mg "abs"=none
 all:mg "all"=none
 dict:mg "dict"=none
 enumerate:mg "enumerate"=none
 len:mg "len"=none
 max:mg "max"=none
 min:mg "min"=none
 range:mg "range"=none
 set:mg "set"=none
 sorted:mg "sorted"=none
 sum:mg "sum"=none
 zip:mg "zip"=none
 uH:mg "CURVE_ANSWERS"=some (.ref A.o9)
 uI:ModT K A.o9 (Cg A)
 Bf:mg "answer_fit"=some (.ref A.lM)
 uJ:mg "answer_blocks"=some (.ref A.jg)
 yI:mg "answer_sums"=some (.ref A.kj)
 sH:mg "answer_squares"=some (.ref A.iR)
 wc:mg "answer_trial"=some (.ref A.jA)
 we:mg "LINE_ANSWERS"=some (.ref A.qR)
 wg:ModT K A.qR (DC A)
 wj:mg "answer_value"=some (.ref A.jB)
 yJ:mg "answer_dose"=some (.ref A.ko)
 yK:mg "answer_step"=some (.ref A.kq)
 wk:mg "answer_shift"=some (.ref A.jC)
 Bg:mg "answer_gap"=some (.ref A.lN)
 yL:mg "LOT_ANSWERS"=some (.ref A.tW)
 yM:ModT K A.tW (E2 A)
 Bh:mg "answer_lot"=some (.ref A.lO)
 wm:mg "answer_point"=some (.ref A.jD)
 sI:mg "answer_unpoint"=some (.ref A.iS)
 uK:mg "answer_points"=some (.ref A.jh)
 sJ:mg "answer_control"=some (.ref A.iT)
 wo:mg "answer_clear"=some (.ref A.jE)
 yN:mg "answer_turn"=some (.ref A.ku)
 yO:mg "answer_lots"=some (.ref A.kC)
 sL:mg "RESULT_ANSWERS"=some (.ref A.nG)
 sM:ModT K A.nG (A9 A)
 yP:mg "answer_tick"=some (.ref A.kD)
 yQ:mg "answer_read"=some (.ref A.kE)
 wu:mg "answer_shown"=some (.ref A.jF)
 sN:mg "answer_changed"=some (.ref A.iU)
 uL:mg "TRUTH_ANSWERS"=some (.ref A.pq)
 uM:ModT K A.pq (Ci A)
 wz:mg "answer_truth"=some (.ref A.jG)
 wA:mg "answer_clash"=some (.ref A.jH)
 wB:mg "answer_range"=some (.ref A.jI)
 KD:mg "WIDTHS"=some (.ref A.II)
 KG:ModT K A.II Hx
 C8:rW mg "CURVE_CALLS" (.ref A.n9)
 yR:Kh K A.n9 ([4,5,6,7,8]:List Int)
 E7:rW mg "LINE_CALLS" (.ref A.qv)
 Bj:Kh K A.qv ([9,10,11,17,18]:List Int)
 C9:rW mg "TRUTH_CALLS" (.ref A.oh)
 yS:Kh K A.oh ([12,13,14]:List Int)
 Bk:rW mg "RESULT_CALLS" (.ref A.mT)
 wC:Kh K A.mT ([19,20,21,22]:List Int)
 qx:rW mg "CALLS_WITHOUT_LOT" (.ref A.i6)
 nW:Kh K A.i6 ([19,21,22,24]:List Int)
structure Gh(f:Frac):Prop where
 ok:Ok f
 sz:Sz 3900 3900 f
theorem Gh.of{f:Frac}{n d:Nat}(o:Ok f)(s:Sz n d f)(h1:n≤3900)(h2:d≤3900):Gh f:=⟨o,s.mono h1 h2⟩
theorem Gh.num{f:Frac}(h:Gh f):Lit f.num:=.of h.sz.num (by decide)
theorem Gh.den{f:Frac}(h:Gh f):Lit (f.den:Int):=.of (by rw[br];exact h.sz.den) (by decide)
theorem Gh.pos{f:Frac}(h:Gh f):(0:Int)<f.den:=by have:=h.ok.pos;omega
end Rv
namespace Rv
open PySem PySem.Spec PyProof.Rows L2
open Vblaaf (Frac Point Block Knot lowest whole plus minus times over less mean)
open Rc (Ok Sz)
section
variable {P:Program} {w:World} {K:PySem.W.Frag} {mg:Str->Option Value} {base:Heap} {A:gY}
def Tv:Sp:=fun vs H Q _=>∃(a b:Nat),vs=[.int a,.int b]/\Q (.int (Nat.gcd a b:Nat)) H
abbrev l5:Stmt:=top 1
theorem qy:cT ["one","other","rest"] ["one","other"] (cJ l5):=gJ
def Wu(i:Nat)(σ:L2.St):Nat:=match σ[i]? with | some (some (V.int y))=>y.toNat | _=>0
theorem Bl(T:Txt K mg A)(D:Def K mg "common_divisor" l5 ["one","other"]):Good P w K mg base 3 "common_divisor" ["one","other"] Tv:=by
 refine D.good qy (fun _ _ _ _ h=>?_) (fun _ _ _ _ _ H _ Q _ hr h=>?_)
 ·obtain⟨a,b,rfl,_⟩:=h;rfl
 ·obtain⟨a,b,rfl,k⟩:=h
  have nd:=qy.nd
  refine⟨_,(cg (Ek PassesOwn.never (dw Pc (pv 1) cN (dQ _)) (cg (gi 2 nd (dJ Uj (pv 0) (pv 1)))
     (cg (gi 0 nd (pv 1))
     (cE (gi 1 nd (pv 2))))))
    (cE (cM (pv 0)))),?_⟩
  refine ES (fun σ H'=>H'=H/\ ∃(x y:Nat)(v:Option V),σ=[some (.int x),some (.int y),v]/\Nat.gcd x y=Nat.gcd a b) (fun σ _=>Wu 1 σ) ⟨rfl,a,b,none,rfl,rfl⟩ ?_
  rintro σ H' ⟨rfl,x,y,v,rfl,e⟩
  refine⟨_,rfl,rfl,_,rfl,?_⟩
  by_cases hy:y=0
  ·subst hy
   refine dR ⟨_,rfl,?_⟩
   rw[<-e,Nat.gcd_zero_right]at k
   exact k
  ·have:(!decide (V.int (y:Int)=V.int 0))=true:=by simp[hy]
   rw[this]
   refine dI (ID ?_)
   refine⟨_,rfl,_,rfl,_,_,rfl,rfl,by omega,?_⟩
   refine⟨_,rfl,?_⟩
   refine⟨_,rfl,?_⟩
   refine⟨⟨rfl,y,x%y,some (.int ((x%y:Nat):Int)),?_,?_⟩,?_⟩
   ·rfl
   ·rw[<-e,Nat.gcd_comm y,<-Nat.gcd_rec,Nat.gcd_comm]
   ·show (((x:Int)%(y:Int))).toNat<(y:Int).toNat
    have:=Nat.mod_lt x (show 0<y by omega)
    omega
theorem abs_eq(n:Int):(if n<0 then -n else n)=(n.natAbs:Int):=by split <;> omega
def gI(A:gY):Sp:=fun vs H Q _=>∃(p dx:Addr)(n d:Int),vs=[.ref p,.int n,.int d]/\H p=some (.ins A.CF dx [])/\0<d/\Lit d/\ ∀H':Hp,mU A H' p (lowest n d.toNat)->(∀b o,H b=some o->b≠p->H' b=some o)->Q .f6 H'
abbrev nI:Stmt:=inClass (top 2) 0
theorem sO:cT ["self","top","bottom","divisor"] ["self","top","bottom"] (cJ nI):=gJ
theorem Cm(T:Txt K mg A)(D:o7 K mg "Fraction" "Fraction.__init__" A.CF nI ["self","top","bottom"])(l6:Good P w K mg base 3 "common_divisor" ["one","other"] Tv):GoodC P w K mg base 4 "Fraction" A.CF ["self","top","bottom"] (gI A):=by
 refine D.good sO (fun _ _ _ _ h=>?_) (fun _ _ _ _ _ H _ Q _ hr h=>?_)
 ·obtain⟨p,dx,n,d,rfl,_⟩:=h;rfl
 ·obtain⟨p,dx,n,d,rfl,hp,hd,hl,k⟩:=h
  have nd:=sO.nd
  refine⟨_,(cg (gi 3 nd (dF l6 hr (b9 (dD Jx (by rfl) T.abs boot_abs (b9 (pv 1) cz)) (b9 (pv 2) cz))))
    (cg (e8 (pv 0) (dJ Kf (pv 1) (pv 3)) rfl)
    (cE (e8 (pv 0) (dJ Kf (pv 2) (pv 3)) rfl)))),?_⟩
  refine⟨_,rfl,_,rfl,_,rfl,n.natAbs,d.toNat,?_,?_⟩
  ·show [V.int _,V.int d]=_
   rw[abs_eq]
   have e:((d.toNat:Nat):Int)=d:=by omega
   rw[e]
  have hdn:0<d.toNat:=by omega
  have g0:=Rc.AX (n:=n) hdn
  have gle:Nat.gcd n.natAbs d.toNat≤d.toNat:=Nat.gcd_le_right _ hdn
  have lg:Lit ((Nat.gcd n.natAbs d.toNat:Nat):Int):=by
   have hl':d.natAbs<2^8000:=hl
   have e:d.natAbs=d.toNat:=by omega
   rw[e]at hl'
   exact bY (by rw[br];exact gle) hl'
  refine⟨_,rfl,_,rfl,_,_,rfl,rfl,⟨by omega,lg⟩,_,rfl,p,A.CF,dx,_,rfl,hp,T.cF,T.iA,(by show 0<1000;decide),?_⟩
  refine⟨_,rfl,_,rfl,_,_,rfl,rfl,⟨by omega,lg⟩,_,rfl,p,A.CF,dx,_,rfl,cA,T.cF,T.eG,(by show 1<1000;decide),?_⟩
  refine k _ ⟨dx,?_⟩ fun b o e hb=>by rw[cV hb,cV hb];exact e
  rw[cA,Rc.oW hdn]
  unfold Vs
  dsimp only
  have e:d/((Nat.gcd n.natAbs d.toNat:Nat):Int)=((d.toNat/Nat.gcd n.natAbs d.toNat:Nat):Int):=by
   have e:((d.toNat:Nat):Int)=d:=by omega
   rw[Int.natCast_ediv,e]
  rw[e]
theorem lD{H:Hp}{n d:Int}{Q:VK}(hd:0<d)(hl:Lit d)(k:∀(H':Hp)(p:Addr),mU A H' p (lowest n d.toNat)->cK H H'->Q (.ref p) H'):
  ∀x dx,H x=none->H dx=none->dx≠x->gI A (.ref x::([V.int n,V.int d]++[])) (L2.upd (L2.upd H dx (.own x)) x (.ins A.CF dx [])) (fun v H2=>v= .f6/\Q (.ref x) H2) E0:=
 fun x dx nx kK ne=>⟨x,dx,n,d,rfl,cA,hd,hl,fun H' hF kp=>⟨rfl,k H' x hF (cK.made nx kK kp)⟩⟩
def mW(A:gY):Sp:=fun vs H Q _=>∃(n:Int),vs=[.int n]/\ ∀(H':Hp)(p:Addr),mU A H' p (whole n)->cK H H'->Q (.ref p) H'
theorem Ml(n:Int):lowest n (1:Int).toNat=whole n:=by
 rw[Rc.oW (by decide)]
 have e:Nat.gcd n.natAbs (1:Int).toNat=1:=Nat.gcd_one_right _
 rw[e]
 unfold whole
 simp
abbrev IP:Stmt:=top 3
theorem KH:cT ["number"] ["number"] (cJ IP):=gJ
theorem QJ(T:Txt K mg A)(D:Def K mg "whole" IP ["number"])(dP:GoodC P w K mg base 4 "Fraction" A.CF ["self","top","bottom"] (gI A)):Good P w K mg base 6 "whole" ["number"] (mW A):=by
 refine D.good KH (fun _ _ _ _ h=>?_) (fun _ _ _ _ _ H _ Q _ hr h=>?_)
 ·obtain⟨n,rfl,_⟩:=h;rfl
 ·obtain⟨n,rfl,k⟩:=h
  have nd:=KH.nd
  refine⟨_,(cE (cM (jY dP hr (b9 (pv 0) (b9 cN cz))))),?_⟩
  refine⟨_,rfl,lD (by decide) (Nat.one_lt_two_pow (by decide)) fun H' p hF hs=>k H' p ?_ hs⟩
  rw[Ml]at hF
  exact hF
def wD(A:gY)(pre:Frac->Frac->Prop)(g:Frac->Frac->Frac):Sp:=fun vs H Q _=>∃(a b:Addr)(x y:Frac),vs=[.ref a,.ref b]/\mU A H a x/\mU A H b y/\Gh x/\Gh y/\pre x y/\ ∀(H':Hp)(p:Addr),mU A H' p (g x y)->cK H H'->Q (.ref p) H'
theorem Lit.mul{i j:Int}{m n:Nat}(h1:i.natAbs<2^m)(h2:j.natAbs<2^n)(h:m+n≤8000):Lit (i*j):=.of (by rw[Int.natAbs_mul];exact Rc.gH h1 h2) h
theorem Gh.UR{x y:Frac}(hx:Gh x)(hy:Gh y):Lit ((x.den:Int)*(y.den:Int)):=Lit.mul (by rw[br];exact hx.sz.den) (by rw[br];exact hy.sz.den) (by decide)
theorem toNat_mul(a b:Nat):((a:Int)*(b:Int)).toNat=a*b:=by rw[<-Int.natCast_mul,bw]
theorem SD{A:gY}{pre:Frac->Frac->Prop}{g:Frac->Frac->Frac}{vs:List V}{H:Hp}{Q:VK}{E:XK}(h:wD A pre g vs H Q E):vs.length=2:=by
 obtain⟨a,b,x,y,rfl,_⟩:=h;rfl
abbrev Mm:Stmt:=top 4
theorem Nu:cT ["one","other"] ["one","other"] (cJ Mm):=gJ
theorem SE(T:Txt K mg A)(D:Def K mg "plus" Mm ["one","other"])(dP:GoodC P w K mg base 4 "Fraction" A.CF ["self","top","bottom"] (gI A)):Good P w K mg base 6 "plus" ["one","other"] (wD A (fun _ _=>True) plus):=by
 refine D.good Nu (fun _ _ _ _ h=>?_) (fun _ _ _ _ _ H _ Q _ hr h=>?_)
 ·exact SD h
 ·obtain⟨a,b,x,y,rfl,⟨da,ha⟩,⟨db,hb⟩,fx,fy,_,k⟩:=h
  have nd:=Nu.nd
  refine⟨_,(cE (cM (jY dP hr (b9 (dJ iN (dJ eY (cH (pv 0) rfl) (cH (pv 1) rfl)) (dJ eY (cH (pv 1) rfl) (cH (pv 0) rfl))) (b9 (dJ eY (cH (pv 0) rfl) (cH (pv 1) rfl)) cz))))),?_⟩
  refine⟨_,rfl,a,A.CF,da,_,_,rfl,ha,T.cF,T.iA,gC x,_,rfl,b,A.CF,db,_,_,rfl,hb,T.cF,T.eG,eB y,_,_,rfl,rfl,⟨fx.num,fy.den⟩,?_⟩
  refine⟨_,rfl,b,A.CF,db,_,_,rfl,hb,T.cF,T.iA,gC y,_,rfl,a,A.CF,da,_,_,rfl,ha,T.cF,T.eG,eB x,_,_,rfl,rfl,⟨fy.num,fx.den⟩,?_⟩
  refine⟨_,_,rfl,rfl,?_⟩
  refine⟨_,rfl,a,A.CF,da,_,_,rfl,ha,T.cF,T.eG,eB x,_,rfl,b,A.CF,db,_,_,rfl,hb,T.cF,T.eG,eB y,_,_,rfl,rfl,⟨fx.den,fy.den⟩,?_⟩
  refine lD (Int.mul_pos fx.pos fy.pos) (fx.UR fy) fun H' p hF hs=>k H' p ?_ hs
  rw[toNat_mul]at hF
  exact hF
abbrev IQ:Stmt:=top 5
theorem KI:cT ["one","other"] ["one","other"] (cJ IQ):=gJ
theorem QK(T:Txt K mg A)(D:Def K mg "minus" IQ ["one","other"])(dP:GoodC P w K mg base 4 "Fraction" A.CF ["self","top","bottom"] (gI A)):Good P w K mg base 6 "minus" ["one","other"] (wD A (fun _ _=>True) minus):=by
 refine D.good KI (fun _ _ _ _ h=>?_) (fun _ _ _ _ _ H _ Q _ hr h=>?_)
 ·exact SD h
 ·obtain⟨a,b,x,y,rfl,⟨da,ha⟩,⟨db,hb⟩,fx,fy,_,k⟩:=h
  have nd:=KI.nd
  refine⟨_,(cE (cM (jY dP hr (b9 (dJ oS (dJ eY (cH (pv 0) rfl) (cH (pv 1) rfl)) (dJ eY (cH (pv 1) rfl) (cH (pv 0) rfl))) (b9 (dJ eY (cH (pv 0) rfl) (cH (pv 1) rfl)) cz))))),?_⟩
  refine⟨_,rfl,a,A.CF,da,_,_,rfl,ha,T.cF,T.iA,gC x,_,rfl,b,A.CF,db,_,_,rfl,hb,T.cF,T.eG,eB y,_,_,rfl,rfl,⟨fx.num,fy.den⟩,?_⟩
  refine⟨_,rfl,b,A.CF,db,_,_,rfl,hb,T.cF,T.iA,gC y,_,rfl,a,A.CF,da,_,_,rfl,ha,T.cF,T.eG,eB x,_,_,rfl,rfl,⟨fy.num,fx.den⟩,?_⟩
  refine⟨_,_,rfl,rfl,?_⟩
  refine⟨_,rfl,a,A.CF,da,_,_,rfl,ha,T.cF,T.eG,eB x,_,rfl,b,A.CF,db,_,_,rfl,hb,T.cF,T.eG,eB y,_,_,rfl,rfl,⟨fx.den,fy.den⟩,?_⟩
  refine lD (Int.mul_pos fx.pos fy.pos) (fx.UR fy) fun H' p hF hs=>k H' p ?_ hs
  rw[toNat_mul]at hF
  exact hF
abbrev IS:Stmt:=top 6
theorem KJ:cT ["one","other"] ["one","other"] (cJ IS):=gJ
theorem QL(T:Txt K mg A)(D:Def K mg "times" IS ["one","other"])(dP:GoodC P w K mg base 4 "Fraction" A.CF ["self","top","bottom"] (gI A)):Good P w K mg base 6 "times" ["one","other"] (wD A (fun _ _=>True) times):=by
 refine D.good KJ (fun _ _ _ _ h=>?_) (fun _ _ _ _ _ H _ Q _ hr h=>?_)
 ·exact SD h
 ·obtain⟨a,b,x,y,rfl,⟨da,ha⟩,⟨db,hb⟩,fx,fy,_,k⟩:=h
  have nd:=KJ.nd
  refine⟨_,(cE (cM (jY dP hr (b9 (dJ eY (cH (pv 0) rfl) (cH (pv 1) rfl)) (b9 (dJ eY (cH (pv 0) rfl) (cH (pv 1) rfl)) cz))))),?_⟩
  refine⟨_,rfl,a,A.CF,da,_,_,rfl,ha,T.cF,T.iA,gC x,_,rfl,b,A.CF,db,_,_,rfl,hb,T.cF,T.iA,gC y,_,_,rfl,rfl,⟨fx.num,fy.num⟩,?_⟩
  refine⟨_,rfl,a,A.CF,da,_,_,rfl,ha,T.cF,T.eG,eB x,_,rfl,b,A.CF,db,_,_,rfl,hb,T.cF,T.eG,eB y,_,_,rfl,rfl,⟨fx.den,fy.den⟩,?_⟩
  refine lD (Int.mul_pos fx.pos fy.pos) (fx.UR fy) fun H' p hF hs=>k H' p ?_ hs
  rw[toNat_mul]at hF
  exact hF
abbrev Mn:Stmt:=top 7
theorem Nv:cT ["one","other"] ["one","other"] (cJ Mn):=gJ
theorem SG(T:Txt K mg A)(D:Def K mg "over" Mn ["one","other"])(dP:GoodC P w K mg base 4 "Fraction" A.CF ["self","top","bottom"] (gI A)):Good P w K mg base 6 "over" ["one","other"] (wD A (fun _ y=>0<y.num) over):=by
 refine D.good Nv (fun _ _ _ _ h=>?_) (fun _ _ _ _ _ H _ Q _ hr h=>?_)
 ·exact SD h
 ·obtain⟨a,b,x,y,rfl,⟨da,ha⟩,⟨db,hb⟩,fx,fy,hy,k⟩:=h
  have nd:=Nv.nd
  refine⟨_,(cE (cM (jY dP hr (b9 (dJ eY (cH (pv 0) rfl) (cH (pv 1) rfl)) (b9 (dJ eY (cH (pv 0) rfl) (cH (pv 1) rfl)) cz))))),?_⟩
  refine⟨_,rfl,a,A.CF,da,_,_,rfl,ha,T.cF,T.iA,gC x,_,rfl,b,A.CF,db,_,_,rfl,hb,T.cF,T.eG,eB y,_,_,rfl,rfl,⟨fx.num,fy.den⟩,?_⟩
  refine⟨_,rfl,a,A.CF,da,_,_,rfl,ha,T.cF,T.eG,eB x,_,rfl,b,A.CF,db,_,_,rfl,hb,T.cF,T.iA,gC y,_,_,rfl,rfl,⟨fx.den,fy.num⟩,?_⟩
  refine lD (Int.mul_pos fx.pos hy) (Lit.mul (by rw[br];exact fx.sz.den) fy.sz.num (by decide)) fun H' p hF hs=>k H' p ?_ hs
  have e:((x.den:Int)*y.num).toNat=x.den*y.num.natAbs:=by
   have e:y.num=(y.num.natAbs:Int):=by omega
   rw[e,toNat_mul,<-e]
  rw[e]at hF
  exact hF
def Ab(A:gY):Sp:=fun vs H Q _=>∃(a b:Addr)(x y:Frac),vs=[.ref a,.ref b]/\mU A H a x/\mU A H b y/\Gh x/\Gh y/\Q (.bl (less x y)) H
abbrev Mp:Stmt:=top 8
theorem Ny:cT ["one","other"] ["one","other"] (cJ Mp):=gJ
theorem SH(T:Txt K mg A)(D:Def K mg "less" Mp ["one","other"]):Good P w K mg base 3 "less" ["one","other"] (Ab A):=by
 refine D.good Ny (fun _ _ _ _ h=>?_) (fun _ _ _ _ _ H _ Q _ hr h=>?_)
 ·obtain⟨a,b,x,y,rfl,_⟩:=h;rfl
 ·obtain⟨a,b,x,y,rfl,⟨da,ha⟩,⟨db,hb⟩,fx,fy,k⟩:=h
  have nd:=Ny.nd
  refine⟨_,(cE (cM (DV vA (dJ eY (cH (pv 0) rfl) (cH (pv 1) rfl)) (dJ eY (cH (pv 1) rfl) (cH (pv 0) rfl)) (dQ _)))),?_⟩
  refine⟨_,rfl,a,A.CF,da,_,_,rfl,ha,T.cF,T.iA,gC x,_,rfl,b,A.CF,db,_,_,rfl,hb,T.cF,T.eG,eB y,_,_,rfl,rfl,⟨fx.num,fy.den⟩,?_⟩
  refine⟨_,rfl,b,A.CF,db,_,_,rfl,hb,T.cF,T.iA,gC y,_,rfl,a,A.CF,da,_,_,rfl,ha,T.cF,T.eG,eB x,_,_,rfl,rfl,⟨fy.num,fx.den⟩,?_⟩
  exact⟨_,_,rfl,rfl,k⟩
def QM(A:gY):Sp:=fun vs H Q _=>∃(a:Addr)(x:Frac),vs=[.ref a]/\mU A H a x/\Gh x/\ ∀(H':Hp)(p:Addr),mU A H' p (Vblaaf.size x)->cK H H'->Q (.ref p) H'
abbrev Cn:Stmt:=top 9
theorem E8:cT ["one"] ["one"] (cJ Cn):=gJ
theorem Mq(T:Txt K mg A)(D:Def K mg "size_of" Cn ["one"])(dP:GoodC P w K mg base 4 "Fraction" A.CF ["self","top","bottom"] (gI A)):Good P w K mg base 6 "size_of" ["one"] (QM A):=by
 refine D.good E8 (fun _ _ _ _ h=>?_) (fun _ _ _ _ _ H _ Q _ hr h=>?_)
 ·obtain⟨a,x,rfl,_⟩:=h;rfl
 ·obtain⟨a,x,rfl,⟨da,ha⟩,fx,k⟩:=h
  have nd:=E8.nd
  refine⟨_,(cE (cM (jY dP hr (b9 (dD Jx (by rfl) T.abs boot_abs (b9 (cH (pv 0) rfl) cz)) (b9 (cH (pv 0) rfl) cz))))),?_⟩
  refine⟨_,rfl,a,A.CF,da,_,_,rfl,ha,T.cF,T.iA,gC x,_,rfl,_,rfl,a,A.CF,da,_,_,rfl,ha,T.cF,T.eG,eB x,?_⟩
  refine lD fx.pos fx.den fun H' p hF hs=>k H' p ?_ hs
  rw[abs_eq,bw,Rc.Qg fx.ok]at hF
  exact hF
def Ef(A:gY):Sp:=fun vs H Q _=>∃(p dx:Addr)(b:Block),vs=[.ref p,.int b.first,.int b.last,.int b.doses,.int b.weight,.int b.sum]/\H p=some (.ins A.CB dx [])/\ ∀H':Hp,BW A H' p b->(∀x o,H x=some o->x≠p->H' x=some o)->Q .f6 H'
abbrev t7:Stmt:=inClass (top 11) 0
theorem yT:cT ["self","first","last","size","weight","total"] ["self","first","last","size","weight","total"] (cJ t7):=gJ
theorem Gr(T:Txt K mg A)(D:o7 K mg "Block" "Block.__init__" A.CB t7 ["self","first","last","size","weight","total"]):GoodC P w K mg base 3 "Block" A.CB ["self","first","last","size","weight","total"] (Ef A):=by
 refine D.good yT (fun _ _ _ _ h=>?_) (fun _ _ _ _ _ H _ Q _ hr h=>?_)
 ·obtain⟨p,dx,b,rfl,_⟩:=h;rfl
 ·obtain⟨p,dx,b,rfl,hp,k⟩:=h
  have nd:=yT.nd
  refine⟨_,(cg (e8 (pv 0) (pv 1) rfl)
   (cg (e8 (pv 0) (pv 2) rfl)
   (cg (e8 (pv 0) (pv 3) rfl)
   (cg (e8 (pv 0) (pv 4) rfl)
   (cE (e8 (pv 0) (pv 5) rfl)))))),?_⟩
  refine⟨_,rfl,_,rfl,p,A.CB,dx,_,rfl,hp,T.cB,T.vZ,(by show 0<1000;decide),?_⟩
  refine⟨_,rfl,_,rfl,p,A.CB,dx,_,rfl,cA,T.cB,T.Ec,(by show 1<1000;decide),?_⟩
  refine⟨_,rfl,_,rfl,p,A.CB,dx,_,rfl,cA,T.cB,T.yg,(by show 2<1000;decide),?_⟩
  refine⟨_,rfl,_,rfl,p,A.CB,dx,_,rfl,cA,T.cB,T.jQ,(by show 3<1000;decide),?_⟩
  refine⟨_,rfl,_,rfl,p,A.CB,dx,_,rfl,cA,T.cB,T.ng,(by show 4<1000;decide),?_⟩
  exact k _ ⟨dx,cA⟩ fun x o e hx=>by rw[cV hx,cV hx,cV hx,cV hx,cV hx];exact e
theorem Mr{H:Hp}{b:Block}{i1 i2 i3 i4 i5:Int}{Q:VK}(e1:i1=b.first)(e2:i2=b.last)(e3:i3=b.doses)(e4:i4=b.weight)(e5:i5=b.sum)(k:∀(H':Hp)(p:Addr),BW A H' p b->cK H H'->Q (.ref p) H'):
  ∀x dx,H x=none->H dx=none->dx≠x->Ef A (.ref x::([V.int i1,V.int i2,V.int i3,V.int i4,V.int i5]++[])) (L2.upd (L2.upd H dx (.own x)) x (.ins A.CB dx [])) (fun v H2=>v= .f6/\Q (.ref x) H2) E0:=by
 subst e1 e2 e3 e4 e5
 exact fun x dx nx kK ne=>⟨x,dx,b,rfl,cA,fun H' hF kp=>⟨rfl,k H' x hF (cK.made nx kK kp)⟩⟩
def KL(A:gY):Sp:=fun vs H Q _=>∃(a b:Addr)(x y:Block),vs=[.ref a,.ref b]/\BW A H a x/\BW A H b y/\ ∀(H':Hp)(p:Addr),BW A H' p (Rc.join x y)->cK H H'->Q (.ref p) H'
abbrev E9:Stmt:=top 14
theorem HC:cT ["lower","upper","size"] ["lower","upper"] (cJ E9):=gJ
theorem OT(T:Txt K mg A)(D:Def K mg "joined" E9 ["lower","upper"])(yj:GoodC P w K mg base 3 "Block" A.CB ["self","first","last","size","weight","total"] (Ef A)):Good P w K mg base 5 "joined" ["lower","upper"] (KL A):=by
 refine D.good HC (fun _ _ _ _ h=>?_) (fun _ _ _ _ _ H _ Q _ hr h=>?_)
 ·obtain⟨a,b,x,y,rfl,_⟩:=h;rfl
 ·obtain⟨a,b,x,y,rfl,⟨da,ha⟩,⟨db,hb⟩,k⟩:=h
  have nd:=HC.nd
  refine⟨_,(cg (gi 2 nd (dJ iN (cH (pv 0) rfl) (cH (pv 1) rfl)))
   (cE (cM (jY yj hr (b9 (cH (pv 0) rfl) (b9 (cH (pv 1) rfl) (b9 (pv 2) (b9 (dJ iN (cH (pv 0) rfl) (cH (pv 1) rfl)) (b9 (dJ iN (cH (pv 0) rfl) (cH (pv 1) rfl)) cz))))))))),?_⟩
  refine⟨_,rfl,a,A.CB,da,_,_,rfl,ha,T.cB,T.yg,A6 x,_,rfl,b,A.CB,db,_,_,rfl,hb,T.cB,T.yg,A6 y,_,_,rfl,rfl,?_⟩
  refine⟨_,rfl,a,A.CB,da,_,_,rfl,ha,T.cB,T.vZ,Cd x,_,rfl,b,A.CB,db,_,_,rfl,hb,T.cB,T.Ec,Kw y,_,rfl,_,rfl,a,A.CB,da,_,_,rfl,ha,T.cB,T.jQ,kQ x,_,rfl,b,A.CB,db,_,_,rfl,hb,T.cB,T.jQ,kQ y,_,_,rfl,rfl,_,rfl,a,A.CB,da,_,_,rfl,ha,T.cB,T.ng,oG x,_,rfl,b,A.CB,db,_,_,rfl,hb,T.cB,T.ng,oG y,_,_,rfl,rfl,?_⟩
  exact Mr (b:=Rc.join x y) rfl rfl (by show _=((x.doses+y.doses:Nat):Int);rw[Int.natCast_add]) rfl rfl k
def Nz(A:gY):Sp:=fun vs H Q _=>∃(a b:Addr)(x y:Block),vs=[.ref a,.ref b]/\BW A H a x/\BW A H b y/\Rc.sA x/\Rc.sA y/\Q (.bl (decide (x.sum*y.weight<y.sum*x.weight))) H
theorem NB{x:Block}(h:Rc.sA x):Lit x.sum:=.of (n:=40) (by have:=h.s0;have:=h.s1;omega) (by decide)
theorem Ac{x:Block}(h:Rc.sA x):Lit x.weight:=.of (n:=40) (by have:=h.w0;have:=h.w1;omega) (by decide)
abbrev IT:Stmt:=top 15
theorem KN:cT ["lower","upper"] ["lower","upper"] (cJ IT):=gJ
theorem QN(T:Txt K mg A)(D:Def K mg "rises" IT ["lower","upper"]):Good P w K mg base 3 "rises" ["lower","upper"] (Nz A):=by
 refine D.good KN (fun _ _ _ _ h=>?_) (fun _ _ _ _ _ H _ Q _ hr h=>?_)
 ·obtain⟨a,b,x,y,rfl,_⟩:=h;rfl
 ·obtain⟨a,b,x,y,rfl,⟨da,ha⟩,⟨db,hb⟩,gx,gy,k⟩:=h
  have nd:=KN.nd
  refine⟨_,(cE (cM (DV vA (dJ eY (cH (pv 0) rfl) (cH (pv 1) rfl)) (dJ eY (cH (pv 1) rfl) (cH (pv 0) rfl)) (dQ _)))),?_⟩
  refine⟨_,rfl,a,A.CB,da,_,_,rfl,ha,T.cB,T.ng,oG x,_,rfl,b,A.CB,db,_,_,rfl,hb,T.cB,T.jQ,kQ y,_,_,rfl,rfl,⟨NB gx,Ac gy⟩,?_⟩
  refine⟨_,rfl,b,A.CB,db,_,_,rfl,hb,T.cB,T.ng,oG y,_,rfl,a,A.CB,da,_,_,rfl,ha,T.cB,T.jQ,kQ x,_,_,rfl,rfl,⟨NB gy,Ac gx⟩,?_⟩
  exact⟨_,_,rfl,rfl,k⟩
def Fb(A:gY):Sp:=fun vs H Q _=>∃(a:Addr)(x:Block),vs=[.ref a]/\BW A H a x/\Rc.sA x/\ ∀(H':Hp)(p:Addr),mU A H' p (mean x)->cK H H'->Q (.ref p) H'
abbrev pD:Stmt:=top 17
theorem uN:cT ["block"] ["block"] (cJ pD):=gJ
theorem DE(T:Txt K mg A)(D:Def K mg "block_height" pD ["block"])(dP:GoodC P w K mg base 4 "Fraction" A.CF ["self","top","bottom"] (gI A)):Good P w K mg base 6 "block_height" ["block"] (Fb A):=by
 refine D.good uN (fun _ _ _ _ h=>?_) (fun _ _ _ _ _ H _ Q _ hr h=>?_)
 ·obtain⟨a,x,rfl,_⟩:=h;rfl
 ·obtain⟨a,x,rfl,⟨da,ha⟩,gx,k⟩:=h
  have nd:=uN.nd
  refine⟨_,(cE (cM (jY dP hr (b9 (cH (pv 0) rfl) (b9 (cH (pv 0) rfl) cz))))),?_⟩
  refine⟨_,rfl,a,A.CB,da,_,_,rfl,ha,T.cB,T.ng,oG x,_,rfl,a,A.CB,da,_,_,rfl,ha,T.cB,T.jQ,kQ x,?_⟩
  exact lD gx.w0 (Ac gx) k
def HD(A:gY):Sp:=fun vs H Q _=>∃(l:Addr)(bs:List Block),vs=[.ref l]/\fV (BW A) H l bs/\(∀b∈bs,Rc.sA b)/\bs.length≤40/\ ∀(H':Hp)(p:Addr),fV (mU A) H' p (Rc.dh bs)->cK H H'->Q (.ref p) H'
theorem IU(bs:List Block)(b:Block):Rc.dh (bs++[b])=Rc.dh bs++List.replicate b.doses (mean b):=by
 unfold Rc.dh;rw[List.flatMap_append];simp
theorem KO{bs:List Block}(h:∀b∈bs,Rc.sA b):(Rc.dh bs).length≤40*bs.length:=by
 induction bs with
 |nil=>simp[Rc.dh]
 |cons b bs ih=>
  have e:Rc.dh (b::bs)=List.replicate b.doses (mean b)++Rc.dh bs:=rfl
  rw[e,ao,List.length_replicate,aj]
  have:=ih fun c hc=>h c (au _ hc)
  have:=(h b aH).d1
  omega
theorem fq.rep{α:Type}{R:Addr->α->Prop}{as:List Addr}{xs:List α}{a:Addr}{x:α}(h:fq R as xs)(hx:R a x):∀n,fq R (as++List.replicate n a) (xs++List.replicate n x)
 |0=>by simpa using h
 |n+1=>by
  rw[List.replicate_succ',List.replicate_succ',<-bT,<-bT]
  exact(fq.rep h hx n).snoc hx
abbrev t8:Stmt:=top 18
theorem yU:cT ["blocks","heights","block","height","place"] ["blocks"] (cJ t8):=gJ
theorem Gs(T:Txt K mg A)(D:Def K mg "heights_of" t8 ["blocks"])(iV:Good P w K mg base 6 "block_height" ["block"] (Fb A)):Good P w K mg base 7 "heights_of" ["blocks"] (HD A):=by
 refine D.good yU (fun _ _ _ _ h=>?_) (fun _ _ _ _ _ H _ Q _ hr h=>?_)
 ·obtain⟨l,bs,rfl,_⟩:=h;rfl
 ·obtain⟨l,bs,rfl,⟨as,hl,QO⟩,gb,hn,k⟩:=h
  have nd:=yU.nd
  refine⟨_,(cg (gi 1 nd (dc cz))
    (cg (iJ PassesOwn.never rfl (fL (pv 0)) (qu 2 nd) (cg (gi 3 nd (dF iV hr (b9 (pv 2) cz)))
     (cE (iJ PassesOwn.never rfl (GN rfl T.range (b9 (cH (pv 2) rfl) cz)) (qu 4 nd) (cE (iL (nV aP PySem.F.slot_list_append PySem.F.type_list_append k8 (pv 1) (b9 (pv 3) cz))))))))
    (cE (cM (pv 1))))),?_⟩
  refine⟨Nat.zero_le _,fun q hq=>?_⟩
  have s0:cK H (L2.upd H q (.lst [])):=cK.upd hq
  refine⟨_,rfl,l,rfl,⟨_,dG.of (s0 _ _ hl)⟩,j8 (K:=K) (a:=l) (xs:=as.map V.ref) (fun i σ H'=>∃v2 v3 v4:Option V,σ=[some (.ref l),some (.ref q),v2,v3,v4]/\cK H H'/\fV (mU A) H' q (Rc.dh (bs.take i)))
   ⟨none,none,none,rfl,s0,[],cA,fq.nil⟩ (fun i σ H' _ ⟨_,_,_,_,s,_⟩=>dG.of (s _ _ hl)) ?_ ?_⟩
  ·rintro i y σ H' hi ⟨v2,v3,v4,rfl,s,cs,hc,hcs⟩
   obtain⟨a,ia,rfl⟩:=f7 hi
   obtain⟨b,hb,hab⟩:=QO.get' ia
   have hbm:b∈bs:=ak hb
   have YW:=gb b hbm
   refine⟨_,rfl,a,b,rfl,hab.same s,YW,fun H1 f hf s1=>?_⟩
   obtain⟨da,ha⟩:=(hab.same s).same s1
   have SI:(Rc.dh (bs.take i)).length≤1600:=by
    have h1:=KO (bs:=bs.take i) fun c hc=>gb c (List.mem_of_mem_take hc)
    have h2:(bs.take i).length≤40:=by rw[aJ];omega
    omega
   have hlc:cs.length≤1600:=by rw[hcs.len];exact SI
   refine⟨_,rfl,a,A.CB,da,_,_,rfl,ha,T.cB,T.yg,A6 b,(b.doses:Int),rfl,by omega,by have:=YW.d1;omega,BY (n:=(b.doses:Int).toNat) (fun j σ H'=>∃v4:Option V,σ=[some (.ref l),some (.ref q),some (.ref a),some (.ref f),v4]/\cK H H'/\mU A H' f (mean b)/\
    H' q=some (.lst ((cs++List.replicate j f).map V.ref))/\fq (mU A H') cs (Rc.dh (bs.take i))) ⟨_,rfl,s.trans s1,hf,by simpa using s1 _ _ hc,hcs.imp fun c x hx=>hx.same s1⟩ ?_ ?_⟩
   ·rintro j σ H2 hj ⟨v5,rfl,s2,hf2,hq2,hc2⟩
    have hd:=YW.d1
    refine⟨_,rfl,.inl ⟨rfl,_,dG.of hq2⟩,_,rfl,q,_,_,rfl,rfl,hq2,dO (by rw[aa,ao,List.length_replicate];omega),?_⟩
    refine⟨_,rfl,cK.fU s2 hq,?_,?_,?_⟩
    ·obtain⟨dx,e⟩:=hf2
     exact⟨dx,by rw[cV (e9 e hq2 (by intro z;cases z))];exact e⟩
    ·rw[cA,List.replicate_succ',<-bT,ay (f:=V.ref) (l₁:=cs++List.replicate j f)]
     rfl
    ·exact hc2.imp fun c x ⟨dx,e⟩=>⟨dx,by rw[cV (e9 e hq2 (by intro z;cases z))];exact e⟩
   ·rintro σ H2 ⟨v5,rfl,s2,hf2,hq2,hc2⟩
    refine⟨_,_,_,rfl,s2,_,hq2,?_⟩
    rw[Rc.di hb,IU]
    have e:(b.doses:Int).toNat=b.doses:=bw _
    rw[e]
    exact fq.rep hc2 hf2 b.doses
  ·rintro σ H' ⟨v2,v3,v4,rfl,s,hc⟩
   refine⟨_,rfl,k H' q ?_ s⟩
   have e:(as.map V.ref).length=bs.length:=by rw[aa,QO.len]
   rw[e,aK]at hc
   exact hc
theorem yV:∀{l m:List Int},l.Pairwise (· < ·)->m.Pairwise (· < ·)->(∀x,x∈l↔x∈m)->l=m
 |[],[],_,_,_=>rfl
 |[],b::m,_,_,h=>by have:=(h b).mpr aH;cases this
 |a::l,[],_,_,h=>by have:=(h a).mp aH;cases this
 |a::l,b::m,hl,hm,h=>by
  obtain⟨la,hl'⟩:=List.pairwise_cons.mp hl
  obtain⟨mb,hm'⟩:=List.pairwise_cons.mp hm
  have e:a=b:=by
   have h1:=(h a).mp aH
   have h2:=(h b).mpr aH
   rcases aB.mp h1 with e | e
   ·exact e
   ·rcases aB.mp h2 with e' | e'
    ·exact e'.symm
    ·have:=la b e';have:=mb a e;omega
  subst e
  have:l=m:=yV hl' hm' fun x=>by
   constructor
   ·intro hx
    rcases aB.mp ((h x).mp (au _ hx))with e | e
    ·have:=la x hx;omega
    ·exact e
   ·intro hx
    rcases aB.mp ((h x).mpr (au _ hx))with e | e
    ·have:=mb x hx;omega
    ·exact e
  rw[this]
theorem OU{l:List Int}(h:l.Pairwise (· ≤ ·))(hn:l.Nodup):l.Pairwise (· < ·):=by
 have:=h.and hn
 exact this.imp fun⟨h1,h2⟩=>by omega
theorem HE(kvs:List (Key×V))(k:Key)(v:V):(putK kvs k v).map (·.1)=if (iY kvs k).isSome=true then kvs.map (·.1) else kvs.map (·.1)++[k]:=by
 unfold putK
 rw[m5]
 split
 ·rw[List.map_map]
  refine List.map_congr_left fun p _=>?_
  show (if p.1=k then (p.1,v) else p).1=p.1
  split <;> rfl
 ·rw[ay];rfl
def KP(kvs:List (Key×V))(hs:List Vblaaf.Heap)(g:Vblaaf.Heap->Int):Prop:=∀d:Int,iY kvs (Sum.inl d)=(Rc.jX hs d).map fun h=>V.int (g h)
def was(hs:List Vblaaf.Heap)(g:Vblaaf.Heap->Int)(d:Int):Int:=((Rc.jX hs d).map g).getD 0
theorem KP.get{kvs:List (Key×V)}{hs:List Vblaaf.Heap}{g:Vblaaf.Heap->Int}(h:KP kvs hs g)(d:Int):(iY kvs (Sum.inl d)).getD (.int 0)= .int (was hs g d):=by
 rw[h d];unfold was
 cases Rc.jX hs d <;> rfl
theorem KP.put{kvs:List (Key×V)}{hs:List Vblaaf.Heap}{g:Vblaaf.Heap->Int}{p:Point}{n:Int}(h:KP kvs hs g)(hr:Rc.oX hs)(h1:g (Rc.heapOf p)=n)(h2:∀x:Vblaaf.Heap,g ⟨p.dose,x.weight+p.weight,x.sum+p.weight*p.response⟩=g x+n):
  KP (putK kvs (Sum.inl p.dose) (.int (was hs g p.dose+n))) (Vblaaf.putHeap p hs) g:=by
 intro d
 rw[AQ,Rc.Ez hr]
 by_cases e:p.dose=d
 ·subst e
  rw[bA rfl,bA rfl]
  unfold was
  cases hx:Rc.jX hs p.dose with
  |none=>show some (V.int (0+n))=some (V.int (g (Rc.heapOf p)));rw[h1,Int.zero_add]
  |some x=>show some (V.int (g x+n))=some (V.int (g _));rw[h2]
 ·rw[bz (by intro z;exact e (Sum.inl.inj z).symm),bz e]
  exact h d
structure NC(kvs:List (Key×V))(ns:List Int)(hs:List Vblaaf.Heap):Prop where
 keys:kvs.map (·.1)=ns.map Sum.inl
 nd:ns.Nodup
 mem:∀d,d∈ns↔d∈hs.map (·.dose)
theorem Ms{hs:List Vblaaf.Heap}{d:Int}:d∈hs.map (·.dose)↔(Rc.jX hs d).isSome=true:=by
 unfold Rc.jX
 rw[List.find?_isSome,aQ]
 constructor
 ·rintro⟨x,hx,e⟩;exact⟨x,hx,by simpa using e⟩
 ·rintro⟨x,hx,e⟩;exact⟨x,hx,by simpa using e⟩
theorem NC.put{kvs:List (Key×V)}{ns:List Int}{hs:List Vblaaf.Heap}{g:Vblaaf.Heap->Int}{p:Point}{v:V}(h:NC kvs ns hs)(t:KP kvs hs g):∃ns',NC (putK kvs (Sum.inl p.dose) v) ns' (Vblaaf.putHeap p hs):=by
 have hm:=HE kvs (Sum.inl p.dose) v
 have hs':(iY kvs (Sum.inl p.dose)).isSome=true↔p.dose∈hs.map (·.dose):=by
  rw[t p.dose,Option.isSome_map,Ms]
 by_cases hp:p.dose∈hs.map (·.dose)
 ·rw[bA (hs'.mpr hp)]at hm
  refine⟨ns,hm.trans h.keys,h.nd,fun d=>?_⟩
  rw[Rc.m7,h.mem d]
  exact⟨.inr,fun z=>z.elim (fun e=>e▸hp) id⟩
 ·rw[bz (fun z=>hp (hs'.mp z))]at hm
  refine⟨ns++[p.dose],?_,?_,fun d=>?_⟩
  ·rw[hm,h.keys,ay];rfl
  ·rw[List.nodup_append]
   refine⟨h.nd,by simp,fun a ha b hb=>?_⟩
   rw[bW]at hb
   subst hb
   intro e;subst e
   exact hp ((h.mem _).mp ha)
  ·rw[Rc.m7,bh,bW,h.mem d]
   exact⟨fun z=>z.elim .inr .inl,fun z=>z.elim .inr .inl⟩
def HF(A:gY):Sp:=fun vs H Q _=>∃(l:Addr)(ps:List Point),vs=[.ref l]/\fV (vn A) H l ps/\Rc.eF ps/\ ∀(H':Hp)(p:Addr),fV (BW A) H' p ((Vblaaf.heaps ps).map Rc.single)->cK H H'->Q (.ref p) H'
theorem Ad{ps:List Point}{i:Nat}{p:Point}(h:ps[i]?=some p):Vblaaf.heaps (ps.take (i+1))=Vblaaf.putHeap p (Vblaaf.heaps (ps.take i)):=by rw[Rc.di h,Rc.Ex]
abbrev nJ:Stmt:=top 13
theorem sP:cT ["readings","weights","totals","reading","dose"] ["readings"] (cJ nJ):=gJ
theorem Co(T:Txt K mg A)(D:Def K mg "single_blocks" nJ ["readings"])(yj:GoodC P w K mg base 3 "Block" A.CB ["self","first","last","size","weight","total"] (Ef A)):Good P w K mg base 5 "single_blocks" ["readings"] (HF A):=by
 refine D.good sP (fun _ _ _ _ h=>?_) (fun _ _ _ _ _ H _ Q _ hr h=>?_)
 ·obtain⟨l,ps,rfl,_⟩:=h;rfl
 ·obtain⟨l,ps,rfl,⟨as,hl,hps⟩,gp,k⟩:=h
  have nd:=sP.nd
  have hu:=iX hr
  refine⟨_,(cg (tN (i:=1) nd rfl (Or.inr rfl) AS)
    (cg (tN (i:=2) nd rfl (Or.inr rfl) AS)
    (cg (iJ PassesOwn.never rfl (fL (pv 0)) (qu 3 nd) (cg (gi 4 nd (cH (pv 3) rfl))
     (cg (DY hu (pv 1) (pv 4) (dJ iN (JP hu (pv 1) (pv 4) cN ⟨rfl,rfl,rfl,rfl⟩) (cH (pv 3) rfl)) rfl)
     (cE (DY hu (pv 2) (pv 4) (dJ iN (JP hu (pv 2) (pv 4) cN ⟨rfl,rfl,rfl,rfl⟩) (dJ eY (cH (pv 3) rfl) (cH (pv 3) rfl))) rfl)))))
    (cE (cM (qm rfl nd (fL (dD (L1 rfl) (by rfl) T.sorted boot_sorted (b9 (pv 1) cz))) (own:=[("dose",4)]) (gK (by kernel_rfl)) (fun _ _ _ _ _=>qu 4 nd) (fun _ _ _ _ _=>lG) (fun _ _ _ _ _=>(jY yj hr (b9 (pv 4) (b9 (pv 4) (b9 cN (b9 (fE hu (pv 1) (pv 4) (fun _ _=>rfl)) (b9 (fE hu (pv 2) (pv 4) (fun _ _=>rfl)) cz))))))))))))),?_⟩
  intro W hW
  intro U hU
  have Xs:W≠U:=dj (H:=L2.upd H W (.dK [])) cA hU
  have hU0:H U=none:=by rw[<-hU,cV Xs.symm]
  have s0:cK H (L2.upd (L2.upd H W (.dK [])) U (.dK [])):=(cK.upd hW).trans (cK.upd hU)
  refine⟨_,rfl,l,rfl,⟨_,dG.of (s0 _ _ hl)⟩,j8 (K:=K) (a:=l) (xs:=as.map V.ref) (fun i σ H'=>∃(v3 v4:Option V)(kw kt:List (Key×V))(ns:List Int),σ=[some (.ref l),some (.ref W),some (.ref U),v3,v4]/\cK H H'/\H' W=some (.dK kw)/\H' U=some (.dK kt)/\
    KP kw (Vblaaf.heaps (ps.take i)) (·.weight)/\KP kt (Vblaaf.heaps (ps.take i)) (·.sum)/\NC kw ns (Vblaaf.heaps (ps.take i))/\kw.length≤i/\kt.length≤i)
   ⟨none,none,[],[],[],rfl,s0,(by rw[cV Xs];exact cA),cA,fun d=>rfl,fun d=>rfl,⟨rfl,List.nodup_nil,fun d=>by simp[Vblaaf.heaps]⟩,aA _,aA _⟩ (fun i σ H' _ ⟨_,_,_,_,_,_,s,_⟩=>dG.of (s _ _ hl)) ?_ ?_⟩
  ·rintro i y σ H' hi ⟨v3,v4,kw,kt,ns,rfl,s,hw,hu1,tw,tt,kk,lw,lt⟩
   obtain⟨a,ia,rfl⟩:=f7 hi
   obtain⟨p,ip,hap⟩:=hps.get' ia
   obtain⟨da,ha⟩:=hap.same s
   have g:=gp.all p (ak ip)
   have aag:i<40:=by
    have h1:=(af.mp ip).1
    have:=gp.len
    omega
   have hr:=Rc.kP (ps.take i)
   refine⟨_,rfl,a,A.CR,da,_,_,rfl,ha,T.cR,T.jR,jJ p,?_⟩
   refine⟨_,rfl,W,rfl,.inl ⟨_,.inl hw⟩,_,rfl,_,nE.k (k:=Sum.inl p.dose) hw,_,rfl,a,A.CR,da,_,_,rfl,ha,T.cR,T.lC,lY p,was (Vblaaf.heaps (ps.take i)) (·.weight) p.dose,p.weight,tw.get p.dose,rfl,?_⟩
   refine⟨_,rfl,_,rfl,W,_,rfl,JN.k (k:=Sum.inl p.dose) hw (dO (by omega)),?_⟩
   have ha1:=ha
   have haW:a≠W:=e9 ha hw (by intro z;cases z)
   have haU:a≠U:=e9 ha hu1 (by intro z;cases z)
   replace ha:(L2.upd H' W (.dK (putK kw (Sum.inl p.dose) (.int (was (Vblaaf.heaps (ps.take i)) (·.weight) p.dose+p.weight))))) a=some (.ins A.CR da (Rz p)):=by rw[cV haW];exact ha1
   have UE:(L2.upd H' W (.dK (putK kw (Sum.inl p.dose) (.int (was (Vblaaf.heaps (ps.take i)) (·.weight) p.dose+p.weight))))) U=some (.dK kt):=by rw[cV Xs.symm];exact hu1
   refine⟨_,rfl,U,rfl,.inl ⟨_,.inl UE⟩,_,rfl,_,nE.k (k:=Sum.inl p.dose) UE,_,rfl,a,A.CR,da,_,_,rfl,ha,T.cR,T.lC,lY p,_,rfl,a,A.CR,da,_,_,rfl,ha,T.cR,T.iF,i7 p,_,_,rfl,rfl,⟨.of (n:=40) (by have:=g.w0;have:=g.w1;omega) (by decide),.of (n:=40) (by have:=g.r0;have:=g.r1;omega) (by decide)⟩,was (Vblaaf.heaps (ps.take i)) (·.sum) p.dose,p.weight*p.response,tt.get p.dose,rfl,?_⟩
   refine⟨_,rfl,_,rfl,U,_,rfl,JN.k (k:=Sum.inl p.dose) UE (dO (by omega)),?_⟩
   obtain⟨ns',kk'⟩:=kk.put (v:=.int (was (Vblaaf.heaps (ps.take i)) (·.weight) p.dose+p.weight)) tw (p:=p)
   refine⟨_,_,_,_,ns',rfl,(cK.fU (cK.fU s hW) hU0),(by rw[cV Xs];exact cA),cA,?_,?_,?_,aS (k9 _ _ _) (Nat.succ_le_succ lw),aS (k9 _ _ _) (Nat.succ_le_succ lt)⟩
   ·rw[Ad ip];exact tw.put hr rfl fun x=>rfl
   ·rw[Ad ip];exact tt.put hr rfl fun x=>rfl
   ·rw[Ad ip];exact kk'
  ·rintro σ H' ⟨v3,v4,kw,kt,ns,rfl,s,hw,hu1,tw,tt,kk,lw,lt⟩
   have e:(as.map V.ref).length=ps.length:=by rw[aa,hps.len]
   rw[e,aK]at tw tt kk
   rw[e]at lw lt
   have aah:=gp.len
   have hnl:ns.length=kw.length:=by have:=congrArg List.length kk.keys;rw[aa,aa]at this;exact this.symm
   refine⟨_,rfl,W,kw,ns,rfl,hw,kk.keys,by omega,fun ns' S hp hle hS=>?_⟩
   have hds:ns'=(Vblaaf.heaps ps).map (·.dose):=by
    refine yV (OU hle (hp.nodup_iff.mpr kk.nd)) (List.pairwise_map.mpr (Rc.kP ps)) fun x=>?_
    rw[hp.mem_iff];exact kk.mem x
   subst hds
   have sS:cK H' (L2.upd H' S (.lst (((Vblaaf.heaps ps).map (·.dose)).map V.int))):=cK.upd hS
   refine⟨S,rfl,⟨_,dG.of cA⟩,fun D hD=>iM (K:=K) (a:=S) (xs:=((Vblaaf.heaps ps).map (·.dose)).map V.int)
    (fun i H2=>cK (L2.upd H' S (.lst (((Vblaaf.heaps ps).map (·.dose)).map V.int))) H2/\fV (BW A) H2 D (((Vblaaf.heaps ps).take i).map Rc.single)) ⟨cK.upd hD,[],cA,by simpa using fq.nil⟩ (fun i H2 _ ⟨s2,_⟩=>dG.of (s2 _ _ cA)) ?_ ?_⟩
   ·rintro i x H2 hx ⟨s2,cs,hc,hcs⟩
    obtain⟨d,hd,rfl⟩:=int_at hx
    rw[aE]at hd
    obtain⟨hh,ih,ed⟩:=aI.mp hd
    subst ed
    have hm:=ak ih
    have hat:=Rc.yy (Rc.kP ps) hm
    refine⟨rfl,o8 ?_⟩
    have YX:=s2 _ _ (sS _ _ hw)
    have UE:=s2 _ _ (sS _ _ hu1)
    have vw:iY kw (Sum.inl hh.dose)=some (V.int hh.weight):=by rw[tw hh.dose,hat];rfl
    have vt:iY kt (Sum.inl hh.dose)=some (V.int hh.sum):=by rw[tt hh.dose,hat];rfl
    refine⟨_,rfl,_,rfl,_,rfl,_,rfl,W,_,rfl,(by rw[<-vw];exact nE.k (k:=Sum.inl hh.dose) YX),_,rfl,_,rfl,U,_,rfl,(by rw[<-vt];exact nE.k (k:=Sum.inl hh.dose) UE),?_⟩
    intro q dq nq Wv neq
    refine⟨q,dq,Rc.single hh,rfl,cA,fun H3 hq kp=>⟨rfl,?_⟩⟩
    have s3:cK H2 H3:=cK.made nq Wv kp
    have SI:=Rc.fh ps
    refine⟨_,s3 _ _ hc,dO (by rw[aa,hcs.len,aa,aJ];omega),?_,cs++[q],?_,?_⟩
    ·exact cK.fU (s2.trans s3) hD
    ·rw[cA,ay];rfl
    ·rw[Rc.di ih,ay]
     refine fq.snoc (hcs.imp fun c b hb=>?_) ?_
     ·obtain⟨dx,e⟩:=hb.same s3
      exact⟨dx,by rw[cV (e9 e (s3 _ _ hc) (by intro z;cases z))];exact e⟩
     ·obtain⟨dx,e⟩:=hq
      exact⟨dx,by rw[cV (e9 e (s3 _ _ hc) (by intro z;cases z))];exact e⟩
   ·rintro H2 ⟨s2,hb⟩
    have e:(((Vblaaf.heaps ps).map (·.dose)).map V.int).length=(Vblaaf.heaps ps).length:=by rw[aa,aa]
    rw[e,aK]at hb
    exact k H2 D hb ((s.trans sS).trans s2)
theorem fq.US{α:Type}{R:Addr->α->Prop}{as:List Addr}{xs:List α}{x:α}(h:fq R as (xs++[x])):∃as' a,as=as'++[a]/\fq R as' xs/\R a x:=by
 have hl:=h.len
 rw[ao,List.length_singleton]at hl
 obtain⟨as',a,rfl⟩:∃as' a,as=as'++[a]:=⟨as.dropLast,as.getLast (by intro e;rw[e]at hl;simp at hl),(List.dropLast_concat_getLast _).symm⟩
 rw[ao,List.length_singleton]at hl
 have hl':as'.length=xs.length:=by omega
 refine⟨as',a,rfl,⟨hl',fun i b y h1 h2=>?_⟩,?_⟩
 ·have hi:=(af.mp h1).1
  exact h.at_ i b y (by rw[bO hi];exact h1) (by rw[bO (by omega)];exact h2)
 ·exact h.at_ as'.length a x (by simp) (by rw[hl'];simp)
def SJ(q:Addr)(H:Hp):Nat:=match H q with | some (.lst xs)=>xs.length | _=>0
def KQ(A:gY):Sp:=fun vs H Q _=>∃(l:Addr)(ps:List Point),vs=[.ref l]/\fV (BW A) H l ((Vblaaf.heaps ps).map Rc.single)/\Rc.eF ps/\ ∀(H':Hp)(p:Addr),fV (BW A) H' p (Vblaaf.blocks ps)->cK H H'->Q (.ref p) H'
theorem BW.upd{H:Hp}{q c:Addr}{xs ys:List V}{b:Block}(h:BW A H c b)(hq:H q=some (.lst xs)):BW A (L2.upd H q (.lst ys)) c b:=by
 obtain⟨dx,e⟩:=h
 exact⟨dx,by rw[cV (e9 e hq (by intro z;cases z))];exact e⟩
abbrev Fc:Stmt:=top 16
theorem HG:cT ["singles","blocks","single","block"] ["singles"] (cJ Fc):=gJ
theorem OV(T:Txt K mg A)(D:Def K mg "pooled" Fc ["singles"])(Fd:Good P w K mg base 5 "joined" ["lower","upper"] (KL A))(IV:Good P w K mg base 3 "rises" ["lower","upper"] (Nz A)):Good P w K mg base 6 "pooled" ["singles"] (KQ A):=by
 refine D.good HG (fun _ _ _ _ h=>?_) (fun _ _ _ _ _ H _ Q _ hr h=>?_)
 ·obtain⟨l,ps,rfl,_⟩:=h;rfl
 ·obtain⟨l,ps,rfl,⟨as,hl,QO⟩,gp,k⟩:=h
  have nd:=HG.nd
  refine⟨_,(cg (gi 1 nd (dc cz))
    (cg (iJ PassesOwn.never rfl (fL (pv 0)) (qu 2 nd) (cg (gi 3 nd (pv 2))
     (cg (Ek PassesOwn.never (PW.pt (Lr (dw MU (dD cX (by rfl) T.len aG (b9 (pv 1) cz)) cN (dQ _)) (HY (gQ (gP (dF IV hr (b9 (dN cW (pv 1) (CP vz cN) (fun _ _=>rfl)) (b9 (pv 3) cz)))))))) (cE (gi 3 nd (dF Fd hr (b9 (Up aP PySem.F.slot_list_pop PySem.F.type_list_pop Uq (pv 1)) (b9 (pv 3) cz))))))
     (cE (iL (nV aP PySem.F.slot_list_append PySem.F.type_list_append k8 (pv 1) (b9 (pv 3) cz)))))))
    (cE (cM (pv 1))))),?_⟩
  refine⟨Nat.zero_le _,fun q hq=>?_⟩
  have s0:cK H (L2.upd H q (.lst [])):=cK.upd hq
  have SI:(Vblaaf.heaps ps).length≤40:=aS (Rc.fh ps) gp.len
  refine⟨_,rfl,l,rfl,⟨_,dG.of (s0 _ _ hl)⟩,j8 (K:=K) (a:=l) (xs:=as.map V.ref) (fun i σ H'=>∃v2 v3:Option V,σ=[some (.ref l),some (.ref q),v2,v3]/\cK H H'/\fV (BW A) H' q (Rc.stack ((Vblaaf.heaps ps).take i)).reverse)
   ⟨none,none,rfl,s0,[],cA,fq.nil⟩ (fun i σ H' _ ⟨_,_,_,s,_⟩=>dG.of (s _ _ hl)) ?_ ?_⟩
  ·rintro i y σ H' hi ⟨v2,v3,rfl,s,YY,hc0,YZ⟩
   obtain⟨a,ia,rfl⟩:=f7 hi
   obtain⟨b0,ib,hab⟩:=QO.get' ia
   rw[aE]at ib
   obtain⟨hh,ih,eb⟩:=aI.mp ib
   subst eb
   have Tw:=Rc.di ih
   have UT:Rc.stack ((Vblaaf.heaps ps).take (i+1))=Vblaaf.pooled (Rc.single hh) (Rc.stack ((Vblaaf.heaps ps).take i)):=by rw[Tw,Rc.zT]
   have UU:Vblaaf.heaps ps=(Vblaaf.heaps ps).take (i+1)++(Vblaaf.heaps ps).drop (i+1):=(List.take_append_drop _ _).symm
   have good:∀{pre g:List Vblaaf.Heap}{st:List Block}{b:Block},Rc.sj pre st->Rc.PR g b->pre++g=(Vblaaf.heaps ps).take (i+1)->(∀c∈b::st,Rc.sA c)/\st.length≤40:=by
    intro pre g st b hp hg e
    have hP:=(Rc.sj.snoc hp hg).part
    rw[e]at hP
    refine⟨fun c hc=>gp.part UU hP c (List.mem_reverse.mpr hc),?_⟩
    have key:∀{pre:List Vblaaf.Heap}{st:List Block},Rc.sj pre st->st.length≤pre.length:=by
     intro pre st h
     induction h with
     |nil=>exact aA _
     |snoc _ hg ih=>
      have:0<_:=List.length_pos_iff.mpr hg.ne
      rw[ao,aj];omega
    have h1:=key hp
    have h2:=congrArg List.length e
    rw[ao,aJ]at h2
    omega
   refine⟨_,rfl,?_⟩
   refine ES (fun σ H2=>∃(st:List Block)(b:Block)(ba:Addr)(cs:List Addr)(pre g:List Vblaaf.Heap),σ=[some (.ref l),some (.ref q),some (.ref a),some (.ref ba)]/\cK H H2/\H2 q=some (.lst (cs.map V.ref))/\fq (BW A H2) cs st.reverse/\BW A H2 ba b/\
    Rc.sj pre st/\Rc.PR g b/\pre++g=(Vblaaf.heaps ps).take (i+1)/\Vblaaf.pooled b st=Rc.stack ((Vblaaf.heaps ps).take (i+1))) (fun _ H2=>SJ q H2)
    ⟨_,Rc.single hh,a,YY,_,[hh],rfl,s,hc0,YZ,hab.same s,Rc.EC _,Rc.zS hh,Tw.symm,UT.symm⟩ ?_
   rintro σ H2 ⟨st,b,ba,cs,pre,g,rfl,s2,hq2,hcs,hba,Ww,hgr,Wx,Tz⟩
   obtain⟨SK,aai⟩:=good Ww hgr Wx
   have Mt:cs.length=st.length:=by rw[hcs.len,List.length_reverse]
   have leave:∀e:Vblaaf.pooled b st=b::st,∃v2 v3:Option V,[some (V.ref l),some (V.ref q),some (V.ref a),some (V.ref ba)]=[some (.ref l),some (.ref q),v2,v3]/\cK H (L2.upd H2 q (.lst (cs.map V.ref++[V.ref ba])))/\fV (BW A) (L2.upd H2 q (.lst (cs.map V.ref++[V.ref ba]))) q (Rc.stack ((Vblaaf.heaps ps).take (i+1))).reverse:=by
    intro e
    refine⟨_,_,rfl,cK.fU s2 hq,cs++[ba],by rw[cA,ay];rfl,?_⟩
    rw[<-Tz,e,List.reverse_cons]
    exact fq.snoc (hcs.imp fun c x hx=>hx.upd hq2) (hba.upd hq2)
   refine⟨_,rfl,q,_,rfl,.inl (dG.of hq2),_,_,rfl,rfl,_,rfl,?_⟩
   cases st with
   |nil=>
    have e0:cs=[]:=List.length_eq_zero_iff.mp Mt
    subst e0
    refine dR (dR ?_)
    refine⟨_,rfl,.inl ⟨rfl,_,dG.of hq2⟩,_,rfl,q,_,_,rfl,rfl,hq2,dO (by decide),?_⟩
    exact leave rfl
   |cons c st=>
    rw[List.reverse_cons]at hcs
    obtain⟨cs,ca,rfl,UW,hca⟩:=hcs.US
    have e1:decide ((0:Int)<(((cs++[ca]).map V.ref).length:Nat))=true:=aX (by rw[aa,ao,List.length_singleton];omega)
    rw[e1]
    have RA:=hq2
    rw[ay,aL,bV]at RA
    refine dI ⟨_,rfl,_,rfl,q,_, -1,V.ref ca,rfl,rfl,dG.of RA,JF _ _,_,rfl,ca,ba,c,b,rfl,hca,hba,SK c (by simp),SK b (by simp),_,rfl,?_⟩
    have gc:=SK c (by simp)
    have gb:=SK b (by simp)
    by_cases hlt:c.sum*b.weight<b.sum*c.weight
    ·rw[aX hlt]
     refine dR ?_
     refine⟨_,rfl,.inl ⟨rfl,_,dG.of hq2⟩,_,rfl,q,_,_,rfl,rfl,hq2,dO (by rw[aa,Mt];omega),?_⟩
     refine leave ?_
     unfold Vblaaf.pooled
     rw[bz (by omega)]
    ·rw[aW hlt]
     refine dI (ID ?_)
     have hlast:(cs.map V.ref++[V.ref ca])[(cs.map V.ref++[V.ref ca]).length-1]?=some (V.ref ca):=by simp
     refine⟨_,rfl,.inl ⟨rfl,_,dG.of RA⟩,q,_,V.ref ca,rfl,rfl,RA,hlast,_,rfl,ca,ba,c,b,rfl,hca.upd RA,hba.upd RA,fun H3 p hp s3=>?_⟩
     have ed:(cs.map V.ref++[V.ref ca]).dropLast=cs.map V.ref:=by simp
     rw[ed]at s3
     have Lo:=s3 _ _ (cA (H:=H2) (a:=q) (o:=.lst (cs.map V.ref)))
     cases Ww with
     |@snoc pre' g' _ _ Y0 Y3=>
      refine⟨⟨st,Rc.join c b,p,cs,pre',g'++g,rfl,?_,Lo,?_,hp,Y0,Rc.JY hgr Y3,?_,?_⟩,?_⟩
      ·exact(cK.fU s2 hq).trans s3
      ·exact UW.imp fun x y hx=>(hx.upd RA).same s3
      ·rw[<-Wx,bT]
      ·rw[<-Tz]
       conv=>rhs;unfold Vblaaf.pooled
       rw[bA (by omega)]
       rfl
      ·show SJ q H3<SJ q H2
       unfold SJ
       rw[Lo,RA]
       simp
  ·rintro σ H' ⟨v2,v3,rfl,s,hc⟩
   refine⟨_,rfl,k H' q ?_ s⟩
   have e:(as.map V.ref).length=(Vblaaf.heaps ps).length:=by rw[aa,QO.len,aa]
   rw[e,aK]at hc
   exact hc
theorem t9{H:Hp}{a b C D d e:Addr}{f g:List (Str×V)}(h1:H a=some (.ins C d f))(h2:H b=some (.ins D e g))(ne:C≠D):a≠b:=e9 h1 h2 (by intro z;injection z with z1;exact ne z1)
def jn(p:Addr)(H H':Hp):Prop:=∀b o,H b=some o->b≠p->H' b=some o
theorem jn.upd{p:Addr}{H:Hp}{o:HO}:jn p H (L2.upd H p o):=fun b u e hb=>by rw[cV hb];exact e
theorem fV.but{α:Type}{R:Hp->Addr->α->Prop}{H H':Hp}{l p C d:Addr}{fs:List (Str×V)}{xs:List α}(h:fV R H l xs)(hp:H p=some (.ins C d fs))(s:jn p H H')(f:∀a x,R H a x->R H' a x):fV R H' l xs:=
 let ⟨as,e,q⟩:=h;⟨as,s _ _ e (e9 e hp (by intro z;cases z)),q.imp f⟩
theorem BW.but{H H':Hp}{a p C d:Addr}{fs:List (Str×V)}{b:Block}(h:BW A H a b)(hp:H p=some (.ins C d fs))(ne:A.CB≠C)(s:jn p H H'):BW A H' a b:=
 let ⟨dx,e⟩:=h;⟨dx,s _ _ e (t9 e hp ne)⟩
theorem mU.but{H H':Hp}{a p C d:Addr}{fs:List (Str×V)}{b:Frac}(h:mU A H a b)(hp:H p=some (.ins C d fs))(ne:A.CF≠C)(s:jn p H H'):mU A H' a b:=
 let ⟨dx,e⟩:=h;⟨dx,s _ _ e (t9 e hp ne)⟩
theorem Cp{ps:List Point}(gp:Rc.eF ps):(Vblaaf.blocks ps).length≤40:=by
 have key:∀{hs:List Vblaaf.Heap}{bs:List Block},Rc.Part hs bs->bs.length≤hs.length:=by
  intro hs bs h
  induction h with
  |nil=>exact aA _
  |cons hg _ ih=>
   have:0<_:=List.length_pos_iff.mpr hg.ne
   rw[ao,aj];omega
 have h1:=key (Rc.jv ps)
 have h2:=Rc.fh ps
 have h3:=gp.len
 omega
theorem mU.upd{H:Hp}{q c:Addr}{xs ys:List V}{f:Frac}(h:mU A H c f)(hq:H q=some (.lst xs)):mU A (L2.upd H q (.lst ys)) c f:=by
 obtain⟨dx,e⟩:=h
 exact⟨dx,by rw[cV (e9 e hq (by intro z;cases z))];exact e⟩
theorem fV.push{H:Hp}{q c:Addr}{as:List Addr}{xs:List Frac}{x:Frac}(h:H q=some (.lst (as.map V.ref)))(hs:fq (mU A H) as xs)(hc:mU A H c x):fV (mU A) (L2.upd H q (.lst (as.map V.ref++[V.ref c]))) q (xs++[x]):=
 ⟨as++[c],by rw[cA,ay];rfl,fq.snoc (hs.imp fun _ _ hx=>hx.upd h) (hc.upd h)⟩
structure fQ(A:gY)(H:Hp)(a:Addr)(ps:List Point):Prop where
 ex:∃c:tX,Xn A H a c/\fV (BW A) H c.tR ((Vblaaf.heaps ps).map Rc.single)/\H c.doses=some (.lst (((Vblaaf.heaps ps).map (·.dose)).map V.int))/\fV (mU A) H c.nH (((Vblaaf.heaps ps).map (·.dose)).map whole)/\fV (BW A) H c.blocks (Vblaaf.blocks ps)/\fV (mU A) H c.gA (Rc.dh (Vblaaf.blocks ps))
theorem fQ.same{H H':Hp}{a:Addr}{ps:List Point}(h:fQ A H a ps)(s:cK H H'):fQ A H' a ps:=by
 obtain⟨c,h1,h2,h3,h4,h5,h6⟩:=h.ex
 exact⟨c,h1.same s,h2.same s fun _ _ h=>h.same s,s _ _ h3,h4.same s fun _ _ h=>h.same s,h5.same s fun _ _ h=>h.same s,h6.same s fun _ _ h=>h.same s⟩
def kN(A:gY):Sp:=fun vs H Q _=>∃(p dx l:Addr)(ps:List Point),vs=[.ref p,.ref l]/\H p=some (.ins A.CC dx [])/\fV (vn A) H l ps/\Rc.eF ps/\ ∀H':Hp,fQ A H' p ps->jn p H H'->Q .f6 H'
abbrev uc:Stmt:=inClass (top 12) 0
theorem yW:cT ["self","readings","single","dose"] ["self","readings"] (cJ uc):=gJ
theorem Gu(T:Txt K mg A)(D:o7 K mg "Curve" "Curve.__init__" A.CC uc ["self","readings"])(nM:Good P w K mg base 5 "single_blocks" ["readings"] (HF A))(Fe:Good P w K mg base 6 "pooled" ["singles"] (KQ A))(ud:Good P w K mg base 7 "heights_of" ["blocks"] (HD A))(eN:Good P w K mg base 6 "whole" ["number"] (mW A)):GoodC P w K mg base 8 "Curve" A.CC ["self","readings"] (kN A):=by
 refine D.good yW (fun _ _ _ _ h=>?_) (fun _ _ _ _ _ H _ Q _ hr h=>?_)
 ·obtain⟨p,dx,l,ps,rfl,_⟩:=h;rfl
 ·obtain⟨p,dx,l,ps,rfl,hp,hl,gp,k⟩:=h
  have nd:=yW.nd
  refine⟨_,(cg (e8 (pv 0) (dF nM hr (b9 (pv 1) cz)) rfl)
    (cg (e8 (pv 0) (qm rfl nd (fL (cH (pv 0) rfl)) (own:=[("single",2)]) (gK (by kernel_rfl)) (fun _ _ _ _ _=>qu 2 nd) (fun _ _ _ _ _=>lG) (fun _ _ _ _ _=>(tV (K:=K) rfl (cH (pv 2) rfl)))) rfl)
    (cg (e8 (pv 0) (qm rfl nd (fL (cH (pv 0) rfl)) (own:=[("dose",3)]) (gK (by kernel_rfl)) (fun _ _ _ _ _=>qu 3 nd) (fun _ _ _ _ _=>lG) (fun _ _ _ _ _=>(dF eN hr (b9 (pv 3) cz)))) rfl)
    (cg (e8 (pv 0) (dF Fe hr (b9 (cH (pv 0) rfl) cz)) rfl)
    (cE (e8 (pv 0) (dF ud hr (b9 (cH (pv 0) rfl) cz)) rfl)))))),?_⟩
  refine⟨_,rfl,l,ps,rfl,hl,gp,fun H1 q1 hq1 s1=>?_⟩
  have hp1:=s1 _ _ hp
  refine⟨_,rfl,p,A.CC,dx,_,rfl,hp1,T.cC,T.pB,(by show 0<1000;decide),?_⟩
  have b2:jn p H1 (L2.upd H1 p (.ins A.CC dx (dX "singles" (.ref q1) []))):=jn.upd
  have hp2:(L2.upd H1 p (.ins A.CC dx (dX "singles" (.ref q1) []))) p=some (.ins A.CC dx (dX "singles" (.ref q1) [])):=cA
  have hq2:=hq1.but hp1 b2 fun _ _ h=>h.but hp1 T.Tu b2
  revert b2 hp2 hq2
  generalize L2.upd H1 p (.ins A.CC dx (dX "singles" (.ref q1) []))=H2
  intro b2 hp2 hq2
  have b02:jn p H H2:=fun b o e hb=>b2 b o (s1 b o e) hb
  obtain⟨sa,hsa,hsb⟩:=id hq2
  refine⟨_,rfl,p,A.CC,dx,_,_,rfl,hp2,T.cC,T.pB,(by rw[cI,bA rfl]),q1,rfl,⟨_,dG.of hsa⟩,fun D hD=>iM (K:=K) (a:=q1) (xs:=sa.map V.ref)
   (fun i H3=>cK H2 H3/\H3 D=some (.lst ((((Vblaaf.heaps ps).take i).map (·.dose)).map V.int))) ⟨cK.upd hD,cA⟩ (fun i H3 _ ⟨s3,_⟩=>dG.of (s3 _ _ hsa)) ?_ ?_⟩
  ·rintro i x H3 hx ⟨s3,UX⟩
   obtain⟨a,ia,rfl⟩:=f7 hx
   obtain⟨b,ib,hab⟩:=hsb.get' ia
   rw[aE]at ib
   obtain⟨hh,ih,eb⟩:=aI.mp ib
   subst eb
   obtain⟨da,ha⟩:=hab.same s3
   refine⟨rfl,o8 ?_⟩
   have SI:=Rc.fh ps
   have:=gp.len
   refine⟨_,rfl,a,A.CB,da,_,_,rfl,ha,T.cB,T.vZ,Cd (Rc.single hh),_,UX,dO (by rw[aa,aa,aJ];omega),cK.fU s3 hD,?_⟩
   rw[cA,Rc.di ih,ay,ay]
   rfl
  ·rintro H3 ⟨s3,UX⟩
   have e:(sa.map V.ref).length=(Vblaaf.heaps ps).length:=by rw[aa,hsb.len,aa]
   rw[e,aK]at UX
   have hp3:=s3 _ _ hp2
   refine⟨_,rfl,p,A.CC,dx,_,rfl,hp3,T.cC,T.jL,(by show 1<1000;decide),?_⟩
   have b4:jn p H3 (L2.upd H3 p (.ins A.CC dx (dX "doses" (.ref D) (dX "singles" (.ref q1) [])))):=jn.upd
   have HH:(L2.upd H3 p (.ins A.CC dx (dX "doses" (.ref D) (dX "singles" (.ref q1) [])))) p=some (.ins A.CC dx (dX "doses" (.ref D) (dX "singles" (.ref q1) []))):=cA
   have Lo:=(hq2.same s3 fun _ _ h=>h.same s3).but hp3 b4 fun _ _ h=>h.but hp3 T.Tu b4
   have RB:=b4 _ _ UX (e9 UX hp3 (by intro z;cases z))
   revert b4 HH Lo RB
   generalize L2.upd H3 p (.ins A.CC dx (dX "doses" (.ref D) (dX "singles" (.ref q1) [])))=H4
   intro b4 HH Lo RB
   have Vu:jn p H H4:=fun b o e hb=>b4 b o (s3 _ _ (b02 b o e hb)) hb
   refine⟨_,rfl,p,A.CC,dx,_,_,rfl,HH,T.cC,T.jL,(by rw[cI,bA rfl]),D,rfl,⟨_,dG.of RB⟩,fun W hW=>iM (K:=K) (a:=D) (xs:=((Vblaaf.heaps ps).map (·.dose)).map V.int) (fun i H5=>cK H4 H5/\fV (mU A) H5 W ((((Vblaaf.heaps ps).map (·.dose)).take i).map whole))
    ⟨cK.upd hW,[],cA,fq.nil⟩ (fun i H5 _ ⟨s5,_⟩=>dG.of (s5 _ _ RB)) ?_ ?_⟩
   ·rintro i x H5 hx ⟨s5,as,hW5,has⟩
    obtain⟨d,UY,rfl⟩:=int_at hx
    refine⟨rfl,o8 ?_⟩
    have Xu:(Vblaaf.heaps ps).length≤40:=aS (Rc.fh ps) gp.len
    refine⟨_,rfl,d,rfl,fun H6 q hq s6=>?_⟩
    have Vv:=s6 _ _ hW5
    refine⟨_,Vv,dO (by rw[aa,has.len,aa,aJ,aa];omega),cK.fU (s5.trans s6) hW,?_⟩
    obtain⟨SM,e1,e2⟩:=fV.push Vv (has.imp fun _ _ h=>h.same s6) hq
    refine⟨SM,e1,?_⟩
    rw[Rc.di UY,ay]
    exact e2
   rintro Wy ⟨Wz,UZ⟩
   rw[aa,aK]at UZ
   have Mu:=Wz _ _ HH
   refine⟨_,rfl,p,A.CC,dx,_,rfl,Mu,T.cC,T.gu,(by show 2<1000;decide),?_⟩
   have U0:jn p Wy (L2.upd Wy p (.ins A.CC dx (dX "whole_doses" (.ref W) (dX "doses" (.ref D) (dX "singles" (.ref q1) []))))):=jn.upd
   have Y4:(L2.upd Wy p (.ins A.CC dx (dX "whole_doses" (.ref W) (dX "doses" (.ref D) (dX "singles" (.ref q1) []))))) p=some (.ins A.CC dx (dX "whole_doses" (.ref W) (dX "doses" (.ref D) (dX "singles" (.ref q1) [])))):=cA
   have Y5:=(Lo.same Wz fun _ _ h=>h.same Wz).but Mu U0 fun _ _ h=>h.but Mu T.Tu U0
   have U1:=Wz _ _ RB
   have Y6:=U0 _ _ U1 (e9 U1 Mu (by intro z;cases z))
   have Y7:=UZ.but Mu U0 fun _ _ h=>h.but Mu T.Wt U0
   have Y8:jn p H (L2.upd Wy p (.ins A.CC dx (dX "whole_doses" (.ref W) (dX "doses" (.ref D) (dX "singles" (.ref q1) []))))):=fun b o e hb=>U0 b o (Wz _ _ (Vu b o e hb)) hb
   clear b4 HH Lo RB Vu UZ Mu U1 U0
   revert Y4 Y5 Y6 Y7 Y8
   generalize L2.upd Wy p (.ins A.CC dx (dX "whole_doses" (.ref W) (dX "doses" (.ref D) (dX "singles" (.ref q1) []))))=H4c
   intro HH Lo RB hW4 Vu
   refine⟨_,rfl,p,A.CC,dx,_,_,rfl,HH,T.cC,T.pB,(by rw[cI,bz (by decide),cI,bz (by decide),cI,bA rfl]),q1,ps,rfl,Lo,gp,fun H5 q5 hb5 s5=>?_⟩
   have TF:=s5 _ _ HH
   refine⟨_,rfl,p,A.CC,dx,_,rfl,TF,T.cC,T.yh,(by show 3<1000;decide),?_⟩
   have b6:jn p H5 (L2.upd H5 p (.ins A.CC dx (dX "blocks" (.ref q5) (dX "whole_doses" (.ref W) (dX "doses" (.ref D) (dX "singles" (.ref q1) [])))))):=jn.upd
   have TH:(L2.upd H5 p (.ins A.CC dx (dX "blocks" (.ref q5) (dX "whole_doses" (.ref W) (dX "doses" (.ref D) (dX "singles" (.ref q1) [])))))) p=some (.ins A.CC dx (dX "blocks" (.ref q5) (dX "whole_doses" (.ref W) (dX "doses" (.ref D) (dX "singles" (.ref q1) []))))):=cA
   have TJ:=(Lo.same s5 fun _ _ h=>h.same s5).but TF b6 fun _ _ h=>h.but TF T.Tu b6
   have Z4:=s5 _ _ RB
   have Y9:=b6 _ _ Z4 (e9 Z4 TF (by intro z;cases z))
   have Vv:=(hW4.same s5 fun _ _ h=>h.same s5).but TF b6 fun _ _ h=>h.but TF T.Wt b6
   have Xv:=hb5.but TF b6 fun _ _ h=>h.but TF T.Tu b6
   revert b6 TH TJ Y9 Xv Vv
   generalize L2.upd H5 p (.ins A.CC dx (dX "blocks" (.ref q5) (dX "whole_doses" (.ref W) (dX "doses" (.ref D) (dX "singles" (.ref q1) [])))))=H6
   intro b6 TH TJ Y9 Vv Xv
   have b06:jn p H H6:=fun b o e hb=>b6 b o (s5 _ _ (Vu b o e hb)) hb
   have Za:(Vblaaf.blocks ps).length≤40:=Cp gp
   refine⟨_,rfl,p,A.CC,dx,_,_,rfl,TH,T.cC,T.yh,(by rw[cI,bA rfl]),q5,_,rfl,Xv,gp.blocks,Za,fun H7 q7 hh7 s7=>?_⟩
   have RC:=s7 _ _ TH
   refine⟨_,rfl,p,A.CC,dx,_,rfl,RC,T.cC,T.f9,(by show 4<1000;decide),?_⟩
   have b8:jn p H7 (L2.upd H7 p (.ins A.CC dx (O3 ⟨q1,D,W,q5,q7⟩))):=jn.upd
   refine k _ ⟨⟨q1,D,W,q5,q7⟩,⟨dx,cA⟩,?_,?_,?_,?_,?_⟩ fun b o e hb=>b8 b o (s7 _ _ (b06 b o e hb)) hb
   ·exact(TJ.same s7 fun _ _ h=>h.same s7).but RC b8 fun _ _ h=>h.but RC T.Tu b8
   ·have Z5:=s7 _ _ Y9
    exact b8 _ _ Z5 (e9 Z5 RC (by intro z;cases z))
   ·exact(Vv.same s7 fun _ _ h=>h.same s7).but RC b8 fun _ _ h=>h.but RC T.Wt b8
   ·exact(Xv.same s7 fun _ _ h=>h.same s7).but RC b8 fun _ _ h=>h.but RC T.Tu b8
   ·exact hh7.but RC b8 fun _ _ h=>h.but RC T.Wt b8
def QS(A:gY):Sp:=fun vs H Q _=>∃(a:Addr)(ps:List Point),vs=[.ref a]/\fQ A H a ps/\Rc.eF ps/\ ∀(H':Hp)(p:Addr),fV (mU A) H' p (Vblaaf.above ps)->cK H H'->Q (.ref p) H'
theorem HJ{l:List Frac}{a b:Nat}(h:∀x∈l,Ok x/\Sz a b x)(hn:a+1+l.length*(b+1)≤3900):Gh (Vblaaf.total l):=by
 refine .of (Rc.EI fun x hx=>(h x hx).1) (Rc.J5 (fun x hx=>(h x hx).1) fun x hx=>(h x hx).2) hn ?_
 have:l.length*b≤l.length*(b+1):=Nat.mul_le_mul_left _ (by omega)
 omega
theorem Ff{α:Type}(g:Nat->α)(n:Nat):(List.range (n+1)).map g=(List.range n).map g++[g n]:=by rw[List.range_succ,ay];rfl
abbrev pF:Stmt:=top 19
theorem uO:cT ["curve","running","sums","single","height","fitted"] ["curve"] (cJ pF):=gJ
theorem DF(T:Txt K mg A)(D:Def K mg "running_sums" pF ["curve"])(eN:Good P w K mg base 6 "whole" ["number"] (mW A))(mX:Good P w K mg base 6 "times" ["one","other"] (wD A (fun _ _=>True) times))(ue:Good P w K mg base 6 "plus" ["one","other"] (wD A (fun _ _=>True) plus))(i9:Good P w K mg base 6 "minus" ["one","other"] (wD A (fun _ _=>True) minus)):Good P w K mg base 7 "running_sums" ["curve"] (QS A):=by
 refine D.good uO (fun _ _ _ _ h=>?_) (fun _ _ _ _ _ H _ Q _ hr h=>?_)
 ·obtain⟨a,ps,rfl,_⟩:=h;rfl
 ·obtain⟨a,ps,rfl,hC,gp,k⟩:=h
  obtain⟨c,⟨da,ha⟩,hsg,hds,hws,EX,Eg⟩:=hC.ex
  have nd:=uO.nd
  refine⟨_,(cg (gi 1 nd (dF eN hr (b9 cN cz)))
    (cg (gi 2 nd (dc cz))
    (cg (iJ PassesOwn.never rfl (PF rfl T.zip (b9 (cH (pv 0) rfl) (b9 (cH (pv 0) rfl) cz))) (zN rfl (iD (qu 3 nd) (iD (qu 4 nd) tM))) (cg (gi 5 nd (dF mX hr (b9 (dF eN hr (b9 (cH (pv 3) rfl) cz)) (b9 (pv 4) cz))))
     (cg (gi 1 nd (dF ue hr (b9 (pv 1) (b9 (dF i9 hr (b9 (dF eN hr (b9 (cH (pv 3) rfl) cz)) (b9 (pv 5) cz))) cz))))
     (cE (iL (nV aP PySem.F.slot_list_append PySem.F.type_list_append k8 (pv 2) (b9 (pv 1) cz)))))))
    (cE (cM (pv 2)))))),?_⟩
  refine⟨0,rfl,fun H1 r0 hr0 s1=>?_⟩
  refine⟨Nat.zero_le _,fun q hq=>?_⟩
  have s2:cK H (L2.upd H1 q (.lst [])):=s1.trans (cK.upd hq)
  have hq0:H q=none:=s1.free hq
  have ha0:=ha
  replace ha:=s2 _ _ ha
  obtain⟨sa,hsa,hsb⟩:=id hsg
  obtain⟨fa,Jt,ND⟩:=id Eg
  have WA:sa.length=(Vblaaf.heaps ps).length:=by rw[hsb.len,aa]
  have Zb:fa.length=(Vblaaf.heaps ps).length:=by rw[ND.len,Rc.eO]
  have Xu:(Vblaaf.heaps ps).length≤40:=aS (Rc.fh ps) gp.len
  have tl:=Rc.Iw ps
  refine⟨_,rfl,a,A.CC,da,_,_,rfl,ha,T.cC,T.pB,Kx c,_,rfl,a,A.CC,da,_,_,rfl,ha,T.cC,T.f9,gn c,c.tR,c.gA,_,_,rfl,dG.of (s2 _ _ hsa),dG.of (s2 _ _ Jt),Nl (K:=K) (xs:=sa.map V.ref) (ys:=fa.map V.ref)
   (fun i σ H'=>∃(v3 v4 v5:Option V)(r:Addr)(as:List Addr),σ=[some (.ref a),some (.ref r),some (.ref q),v3,v4,v5]/\cK H H'/\mU A H' r (Vblaaf.total ((Rc.terms ps).take i))/\H' q=some (.lst (as.map V.ref))/\fq (mU A H') as ((List.range i).map fun j=>Vblaaf.total ((Rc.terms ps).take (j+1))))
   (by rw[aa,aa,WA,Zb]) ⟨none,none,none,r0,[],rfl,s2,hr0.same (cK.upd hq),cA,fq.nil⟩ (fun i σ H' _ ⟨_,_,_,_,_,_,s,_⟩=>⟨dG.of (s _ _ hsa),dG.of (s _ _ Jt)⟩) ?_ ?_⟩
  ·rintro i x y Tp σ H' hx hy QT ⟨v3,v4,v5,r,as,rfl,s,hr',hq',has⟩
   obtain⟨b,ib,rfl⟩:=f7 hx
   obtain⟨f,jf,rfl⟩:=f7 hy
   obtain⟨b0,Z6,hb0⟩:=hsb.get' ib
   obtain⟨f0,Xw,SN⟩:=ND.get' jf
   rw[aE]at Z6
   obtain⟨hh,ih,eb⟩:=aI.mp Z6
   subst eb
   have gB:=gp.tR hh (ak ih)
   have hfit:=gp.gA f0 (ak Xw)
   have sT:cK H' (L2.upd H' Tp (.tup [V.ref b,V.ref f])):=cK.upd QT
   obtain⟨db,hb⟩:=(hb0.same s).same sT
   have hf:=(SN.same s).same sT
   have i40:i<40:=by have:=(af.mp ih).1;omega
   have TM:(Rc.terms ps)[i]?=some (Rc.LM (hh,f0)):=by
    unfold Rc.terms
    rw[aE,(List.getElem?_zip_eq_some (z:=(hh,f0))).mpr ⟨ih,Xw⟩];rfl
   have w0:0<hh.weight:=gB.w0
   have w1:hh.weight≤40000:=gB.w1
   have t0: -40000000000≤hh.sum:=gB.s0
   have t1:hh.sum≤40000000000:=gB.s1
   have zw:Sz 16 1 (whole hh.weight):=Rc.jc (by omega)
   have zs:Sz 36 1 (whole hh.sum):=Rc.jc (by omega)
   have zt:=Rc.lJ (Rc.cQ hh.weight) hfit.1 zw hfit.2
   have ot:=Rc.gM (Rc.cQ hh.weight) hfit.1
   have TN:=gp.terms _ (ak TM)
   have U3:Gh (Vblaaf.total ((Rc.terms ps).take i)):=HJ (a:=70) (b:=20) (fun x hx=>gp.terms x (List.mem_of_mem_take hx)) (by
    have h1:((Rc.terms ps).take i).length≤40:=by rw[aJ];omega
    have h2:((Rc.terms ps).take i).length*(20+1)≤40*21:=Nat.mul_le_mul_right _ h1
    omega)
   refine⟨Tp,_,rfl,Jr.of cA,rfl,_,_,rfl,_,_,rfl,rfl,?_⟩
   refine⟨_,rfl,b,A.CB,db,_,_,rfl,hb,T.cB,T.jQ,kQ (Rc.single hh),hh.weight,rfl,fun H2 q2 YX s2'=>?_⟩
   refine⟨_,rfl,q2,f,_,f0,rfl,YX,hf.same s2',.of (Rc.cQ _) zw (by decide) (by decide),.of hfit.1 hfit.2 (by decide) (by decide),trivial,fun H3 q3 ht3 s3=>?_⟩
   have hb3:H3 b=some (.ins A.CB db (O2 (Rc.single hh))):=s3 _ _ (s2' _ _ hb)
   replace hb:=hb3
   refine⟨_,rfl,_,rfl,b,A.CB,db,_,_,rfl,hb,T.cB,T.ng,oG (Rc.single hh),hh.sum,rfl,fun H4 q4 Ym s4=>?_⟩
   refine⟨_,rfl,q4,q3,_,_,rfl,Ym,ht3.same s4,.of (Rc.cQ _) zs (by decide) (by decide),.of ot zt (by decide) (by decide),trivial,fun H5 q5 hm5 s5=>?_⟩
   have RD:cK H' H5:=(((sT.trans s2').trans s3).trans s4).trans s5
   refine⟨r,q5,_,_,rfl,hr'.same RD,hm5,U3,.of TN.1 TN.2 (by decide) (by decide),trivial,fun H6 q6 TH s6=>?_⟩
   have Zc:=RD.trans s6
   have TJ:=Zc _ _ hq'
   refine⟨_,rfl,.inl ⟨rfl,_,dG.of TJ⟩,_,rfl,q,_,_,rfl,rfl,TJ,dO (by rw[aa,has.len,aa,List.length_range];omega),?_⟩
   have Zd:Vblaaf.total ((Rc.terms ps).take (i+1))=plus (Vblaaf.total ((Rc.terms ps).take i)) (minus (whole hh.sum) (times (whole hh.weight) f0)):=by rw[Rc.di TM,Rc.oY];rfl
   rw[<-Zd]at TH
   obtain⟨SM,e1,e2⟩:=fV.push TJ (has.imp fun _ _ h=>h.same Zc) TH
   refine⟨_,_,_,q6,SM,rfl,cK.fU (s.trans Zc) hq0,TH.upd TJ,e1,?_⟩
   rw[Ff]
   exact e2
  ·rintro σ H' ⟨v3,v4,v5,r,as,rfl,s,hr',hq',has⟩
   refine⟨_,rfl,k H' q ⟨as,hq',?_⟩ s⟩
   rw[aa,WA]at has
   rw[Rc.EJ]
   exact has
theorem KR{ns:List Int}{ys:List V}{i:Nat}{n:Int}{y:V}(hnd:ns.Nodup)(hn:ns[i]?=some n)(hy:ys[i]?=some y)(hl:ns.length=ys.length):∀j,i<j->j≤ns.length->iY (vR ns ys j) (Sum.inl n)=some y
 |0,h,_=>by omega
 |j+1,h,hj=>by
  have hlt:j<ns.length:=by omega
  have ej:ns[j]?=some ns[j]:=ah hlt
  have ey:ys[j]?=some (ys[j]'(by omega)):=ah _
  rw[Cb ej ey,AQ]
  by_cases e:i=j
  ·subst e
   rw[ej]at hn
   rw[ey]at hy
   rw[bA (by rw[az hn])]
   exact hy
  ·have ne:n≠ns[j]:=by
    intro q
    obtain⟨hi,e1⟩:=af.mp hn
    exact e ((List.getElem_inj hnd).mp (e1.trans q))
   rw[bz (by intro z;exact ne (Sum.inl.inj z))]
   exact KR hnd hn hy hl j (by omega) (by omega)
def Fg(A:gY):Sp:=fun vs H Q _=>∃(l d g:Addr)(ps:List Point)(ds:List Int)(fs:List Frac),vs=[.ref l,.ref d,.ref g]/\fV (vn A) H l ps/\H d=some (.lst (ds.map V.int))/\fV (mU A) H g fs/\Rc.eF ps/\ds.Nodup/\ds.length=fs.length/\
 (∀p∈ps,p.dose∈ds)/\(∀f∈fs,Ok f/\Sz 36 16 f)/\ ∀(H':Hp)(p:Addr),mU A H' p (Vblaaf.total (Rc.gX ps ds fs))->cK H H'->Q (.ref p) H'
theorem KS{ps:List Point}{ds:List Int}{fs:List Frac}(gp:Rc.eF ps)(hf:∀f∈fs,Ok f/\Sz 36 16 f):∀x∈Rc.gX ps ds fs,Ok x/\Sz 100 40 x:=by
 intro x hx
 obtain⟨p,hp,e⟩:=aQ.mp hx
 have g:=gp.all p hp
 subst e
 split
 ·exact⟨Rc.cQ 0,(Rc.jc (n:=0) (a:=0) (by decide)).mono (by decide) (by decide)⟩
 ·rename_i k hk
  have hm:k∈ds.zip fs:=List.mem_of_find?_eq_some hk
  obtain⟨o,s⟩:=hf k.2 (List.of_mem_zip (a:=k.1) (b:=k.2) hm).2
  exact⟨Rc.C1 o,Rc.C2 o s (by have:=g.w0;have:=g.w1;omega) (by have:=g.r0;have:=g.r1;omega)⟩
theorem Fi{ps:List Point}{p:Point}{ds:List Int}{fs:List Frac}{i j:Nat}{f:Frac}(hp:ps[i]?=some p)(hn:ds.Nodup)(h1:ds[j]?=some p.dose)(h2:fs[j]?=some f):
 Rc.gX (ps.take (i+1)) ds fs=Rc.gX (ps.take i) ds fs++[Rc.vJ p.weight p.response f]:=by rw[Rc.di hp];exact Rc.EK hn h1 h2
abbrev uf:Stmt:=top 20
theorem yX:cT ["readings","doses","heights","height_at","squares","reading","off"] ["readings","doses","heights"] (cJ uf):=gJ
theorem Gv(T:Txt K mg A)(D:Def K mg "square_sum" uf ["readings","doses","heights"])(eN:Good P w K mg base 6 "whole" ["number"] (mW A))(i9:Good P w K mg base 6 "minus" ["one","other"] (wD A (fun _ _=>True) minus))(ue:Good P w K mg base 6 "plus" ["one","other"] (wD A (fun _ _=>True) plus))(mX:Good P w K mg base 6 "times" ["one","other"] (wD A (fun _ _=>True) times)):Good P w K mg base 7 "square_sum" ["readings","doses","heights"] (Fg A):=by
 refine D.good yX (fun _ _ _ _ h=>?_) (fun _ _ _ _ _ H _ Q _ hr h=>?_)
 ·obtain⟨l,d,g,ps,ds,fs,rfl,_⟩:=h;rfl
 ·obtain⟨l,d,g,ps,ds,fs,rfl,⟨as,hl,hps⟩,hd,⟨fa,hg,hfs⟩,gp,Z7,WB,Ze,WC,k⟩:=h
  have nd:=yX.nd
  have hu:=iX hr
  refine⟨_,(cg (gi 3 nd (Ma rfl rfl T.dict rfl T.zip (b9 (pv 1) (b9 (pv 2) cz))))
    (cg (gi 4 nd (dF eN hr (b9 cN cz)))
    (cg (iJ PassesOwn.never rfl (fL (pv 0)) (qu 5 nd) (cg (gi 6 nd (dF i9 hr (b9 (dF eN hr (b9 (cH (pv 5) rfl) cz)) (b9 (fE hu (pv 3) (cH (pv 5) rfl) (fun _ _=>rfl)) cz))))
     (cE (gi 4 nd (dF ue hr (b9 (pv 4) (b9 (dF mX hr (b9 (dF eN hr (b9 (cH (pv 5) rfl) cz)) (b9 (dF mX hr (b9 (pv 6) (b9 (pv 6) cz))) cz))) cz)))))))
    (cE (cM (pv 4)))))),?_⟩
  refine⟨_,rfl,_,rfl,d,g,ds,fa.map V.ref,rfl,dG.of hd,dG.of hg,by rw[aa,hfs.len];exact WB,fun W hW=>?_⟩
  have s1:cK H (L2.upd H W (.dK (vR ds (fa.map V.ref) ds.length))):=cK.upd hW
  refine⟨0,rfl,fun H2 r0 hr0 s2=>?_⟩
  have wF:=s1.trans s2
  have hW2:=s2 _ _ (cA (H:=H) (a:=W) (o:=.dK (vR ds (fa.map V.ref) ds.length)))
  refine⟨_,rfl,l,rfl,⟨_,dG.of (wF _ _ hl)⟩,j8 (K:=K) (a:=l) (xs:=as.map V.ref) (fun i σ H'=>∃(v5 v6:Option V)(r:Addr),σ=[some (.ref l),some (.ref d),some (.ref g),some (.ref W),some (.ref r),v5,v6]/\cK H2 H'/\mU A H' r (Vblaaf.total (Rc.gX (ps.take i) ds fs)))
   ⟨none,none,r0,rfl,cK.refl _,hr0⟩ (fun i σ H' _ ⟨_,_,_,_,s,_⟩=>dG.of (s _ _ (wF _ _ hl))) ?_ ?_⟩
  ·rintro i y σ H' hi ⟨v5,v6,r,rfl,s,hr'⟩
   obtain⟨a,ia,rfl⟩:=f7 hi
   obtain⟨p,ip,hap⟩:=hps.get' ia
   have TQ:=gp.all p (ak ip)
   obtain⟨j,hj,ej⟩:=List.mem_iff_getElem.mp (Ze p (ak ip))
   have jd:ds[j]?=some p.dose:=by rw[ah hj,ej]
   have jf:fs[j]?=some (fs[j]'(by omega)):=ah _
   obtain⟨fj,hfj,hFj⟩:=hfs.get jf
   have ff:=WC _ (ak jf)
   generalize (fs[j]'(by omega))=f0 at*
   have s0':=wF.trans s
   obtain⟨da,ha⟩:=hap.same s0'
   have hv:iY (vR ds (fa.map V.ref) ds.length) (Sum.inl p.dose)=some (V.ref fj):=KR Z7 jd (by rw[aE,hfj];rfl) (by rw[aa,hfs.len];exact WB) ds.length hj (aA _)
   have zr:Sz 21 1 (whole p.response):=Rc.eS (by have:=TQ.r0;have:=TQ.r1;omega)
   have zw:Sz 21 1 (whole p.weight):=Rc.eS (by have:=TQ.w0;have:=TQ.w1;omega)
   have zo:=Rc.iP (Rc.cQ p.response) ff.1 zr ff.2
   have oo:=Rc.dS (Rc.cQ p.response) ff.1
   have zq:=Rc.lJ oo oo zo zo
   have oq:=Rc.gM oo oo
   have i40:i<40:=by have:=(af.mp ip).1;have:=gp.len;omega
   have Z8:Rc.eF (ps.take i):=⟨fun x hx=>gp.all x (List.mem_of_mem_take hx),by rw[aJ];have:=gp.len;omega⟩
   have U3:Gh (Vblaaf.total (Rc.gX (ps.take i) ds fs)):=HJ (a:=100) (b:=40) (KS Z8 WC) (by
    have h1:(Rc.gX (ps.take i) ds fs).length≤40:=by unfold Rc.gX;rw[aa];exact Z8.len
    have h2:(Rc.gX (ps.take i) ds fs).length*(40+1)≤40*41:=Nat.mul_le_mul_right _ h1
    omega)
   refine⟨_,rfl,a,A.CR,da,_,_,rfl,ha,T.cR,T.iF,i7 p,p.response,rfl,fun H3 q3 h3 s3=>?_⟩
   have hW3:=s3 _ _ (s _ _ hW2)
   have ha3:=ha
   replace ha:=s3 _ _ ha
   refine⟨_,rfl,_,rfl,a,A.CR,da,_,_,rfl,ha,T.cR,T.jR,jJ p,W,V.ref fj,rfl,(by rw[<-hv];exact nE.k (k:=Sum.inl p.dose) hW3),?_⟩
   refine⟨q3,fj,_,f0,rfl,h3,(hFj.same s0').same s3,.of (Rc.cQ _) zr (by decide) (by decide),.of ff.1 ff.2 (by decide) (by decide),trivial,fun H4 q4 h4 s4=>?_⟩
   replace ha:=s4 _ _ ha
   refine⟨_,rfl,_,rfl,a,A.CR,da,_,_,rfl,ha,T.cR,T.lC,lY p,p.weight,rfl,fun H5 q5 h5 s5=>?_⟩
   refine⟨_,rfl,_,rfl,q4,q4,_,_,rfl,h4.same s5,h4.same s5,.of oo zo (by decide) (by decide),.of oo zo (by decide) (by decide),trivial,fun H6 q6 h6 s6=>?_⟩
   refine⟨q5,q6,_,_,rfl,h5.same s6,h6,.of (Rc.cQ _) zw (by decide) (by decide),.of oq zq (by decide) (by decide),trivial,fun H7 q7 h7 s7=>?_⟩
   have Z9:cK H' H7:=(((s3.trans s4).trans s5).trans s6).trans s7
   have Zf:=Rc.C2 (w:=p.weight) (r:=p.response) ff.1 ff.2 (by have:=TQ.w0;have:=TQ.w1;omega) (by have:=TQ.r0;have:=TQ.r1;omega)
   refine⟨r,q7,_,_,rfl,hr'.same Z9,h7,U3,.of (Rc.C1 ff.1) Zf (by decide) (by decide),trivial,fun H8 q8 h8 s8=>?_⟩
   refine⟨_,_,q8,rfl,(s.trans Z9).trans s8,?_⟩
   rw[Fi ip Z7 jd jf,Rc.oY]
   exact h8
  ·rintro σ H' ⟨v5,v6,r,rfl,s,hr'⟩
   refine⟨_,rfl,k H' r ?_ (wF.trans s)⟩
   rw[aa,hps.len,aK]at hr'
   exact hr'
def NF:Sp:=fun vs H Q _=>∃(l:Addr)(ns:List Int),vs=[.ref l]/\H l=some (.lst (ns.map V.int))/\ns.length≤16000/\Q (.bl (Vblaaf.isRising ns)) H
abbrev qT:Stmt:=top 21
theorem wG:cT ["numbers","place"] ["numbers"] (cJ qT):=gJ
theorem Fj(T:Txt K mg A)(D:Def K mg "never_falls" qT ["numbers"]):Good P w K mg base 3 "never_falls" ["numbers"] NF:=by
 refine D.good wG (fun _ _ _ _ h=>?_) (fun _ _ _ _ _ H _ Q _ hr h=>?_)
 ·obtain⟨l,ns,rfl,_⟩:=h;rfl
 ·obtain⟨l,ns,rfl,hl,hn,k⟩:=h
  have nd:=wG.nd
  refine⟨_,(cg (iJ PassesOwn.never rfl (N3 rfl T.range (b9 cN (b9 (dD cX (by rfl) T.len aG (b9 (pv 0) cz)) cz))) (qu 1 nd) (cE (dU (dw vA (dN cW (pv 0) (pv 1) (fun _ _=>rfl)) (dN cW (pv 0) (dJ oS (pv 1) cN) (fun _ _=>rfl)) (dQ _)) (cE (cM S8)) cY)))
    (cE (cM S8))),?_⟩
  refine⟨_,rfl,l,_,rfl,.inl (dG.of hl),1,_,rfl,⟨by decide,by decide,by omega,?_⟩,BY (lo:=1) (fun i σ H'=>∃v1:Option V,σ=[some (.ref l),v1]/\H'=H/\ ∀(j:Nat)(x y:Int),j<i->ns[j]?=some x->ns[j+1]?=some y->x≤y) ⟨none,rfl,rfl,by intro j x y h;omega⟩ ?_ ?_⟩
  ·rw[aa];omega
  ·rintro i σ H' hi ⟨v1,rfl,rfl,hall⟩
   rw[aa]at hi
   have hi1:i+1<ns.length:=by omega
   have e0:ns[i]?=some (ns[i]'(by omega)):=ah _
   have e1:ns[i+1]?=some ns[i+1]:=ah hi1
   generalize (ns[i]'(by omega))=x at*
   generalize ns[i+1]=y at*
   refine⟨_,rfl,_,rfl,l,_,1+(i:Int),V.int y,rfl,rfl,dG.of hl,at_of (j:=i+1) (by omega) (E1 e1),_,rfl,_,rfl,_,_,rfl,rfl,l,_,1+(i:Int)-1,V.int x,rfl,rfl,dG.of hl,at_of (j:=i) (by omega) (E1 e0),_,_,rfl,rfl,_,rfl,?_⟩
   by_cases hlt:y<x
   ·rw[aX hlt]
    refine dI ?_
    have:Vblaaf.isRising ns=false:=by
     cases h:Vblaaf.isRising ns with
     |false=>rfl
     |true=>have:=(Rc.tS ns).mp h i x y e0 e1;omega
    rw[this]at k
    exact k
   ·rw[aW hlt]
    refine dR ⟨_,rfl,rfl,fun j x' y' hj hx hy=>?_⟩
    by_cases e:j=i
    ·subst e
     rw[hx]at e0
     rw[hy]at e1
     cases e0;cases e1
     omega
    ·exact hall j x' y' (by omega) hx hy
  ·rintro σ H' ⟨v1,rfl,rfl,hall⟩
   have:Vblaaf.isRising ns=true:=(Rc.tS ns).mpr fun j x y hx hy=>hall j x y (by
    have:=(af.mp hy).1
    rw[aa];omega) hx hy
   rw[this]at k
   exact k
def WD:Option Nat->V
 |none=>.f6
 |some i=>.int (i:Nat)
structure U4(fs:List Frac):Prop where
 all:∀f∈fs,Ok f/\Sz 36 16 f
 len:fs.length≤40
theorem U4.fit{fs:List Frac}(h:U4 fs){i:Nat}{f:Frac}(hf:fs[i]?=some f):Gh f:=.of (h.all f (ak hf)).1 (h.all f (ak hf)).2 (by decide) (by decide)
structure Ask(x:Frac):Prop where
 ok:Ok x
 sz:Sz 3000 2650 x
theorem Ask.fit{x:Frac}(h:Ask x):Gh x:=.of h.ok h.sz (by decide) (by decide)
def Mv(A:gY)(R:List Frac->Frac->Option Nat->Prop):Sp:=fun vs H Q _=>∃(l b:Addr)(fs:List Frac)(x:Frac),vs=[.ref l,.ref b]/\fV (mU A) H l fs/\mU A H b x/\U4 fs/\Ask x/\ ∀(H':Hp)(r:Option Nat),R fs x r->cK H H'->Q (WD r) H'
abbrev pG:Stmt:=top 60
theorem uP:cT ["fractions","limit","found","place","fraction"] ["fractions","limit"] (cJ pG):=gJ
theorem DG(T:Txt K mg A)(D:Def K mg "last_at_most" pG ["fractions","limit"])(jk:Good P w K mg base 3 "less" ["one","other"] (Ab A)):Good P w K mg base 4 "last_at_most" ["fractions","limit"] (Mv A Rc.B9):=by
 refine D.good uP (fun _ _ _ _ h=>?_) (fun _ _ _ _ _ H _ Q _ hr h=>?_)
 ·obtain⟨l,b,fs,x,rfl,_⟩:=h;rfl
 ·obtain⟨l,b,fs,x,rfl,⟨fa,hl,hfs⟩,hb,sm,ax,k⟩:=h
  have nd:=uP.nd
  refine⟨_,(cg (tN (i:=2) nd rfl (Or.inl rfl) fK)
    (cg (iJ PassesOwn.never rfl (AV rfl T.enumerate (b9 (pv 0) cz)) (zN rfl (iD (qu 3 nd) (iD (qu 4 nd) tM))) (cE (dU (gQ (gP (dF jk hr (b9 (pv 1) (b9 (pv 4) cz))))) (cE (gi 2 nd (pv 3))) cY)))
    (cE (cM (pv 2))))),?_⟩
  refine⟨_,rfl,l,_,rfl,dG.of hl,vW (K:=K) (a:=l) (xs:=fa.map V.ref) (fun i σ H'=>∃(v3 v4:Option V)(r:Option Nat),σ=[some (.ref l),some (.ref b),some (WD r),v3,v4]/\cK H H'/\Rc.B9 (fs.take i) x r)
   ⟨none,none,none,rfl,cK.refl _,by intro i f hf;simp at hf⟩ (fun i σ H' _ ⟨_,_,_,_,s,_⟩=>dG.of (s _ _ hl)) ?_ ?_⟩
  ·rintro i y Tp σ H' hy QT ⟨v3,v4,r,rfl,s,hr'⟩
   obtain⟨c,ic,rfl⟩:=f7 hy
   obtain⟨f0,jf,SN⟩:=hfs.get' ic
   have sT:cK H' (L2.upd H' Tp (.tup [.int (i:Nat),V.ref c])):=cK.upd QT
   have s':=s.trans sT
   refine⟨Tp,_,rfl,Jr.of cA,rfl,_,_,rfl,_,_,rfl,rfl,?_⟩
   refine⟨_,rfl,_,rfl,b,c,x,f0,rfl,hb.same s',SN.same s',ax.fit,sm.fit jf,_,rfl,?_⟩
   have hi:=(af.mp jf).1
   have tk:=Rc.di jf
   have tl:(fs.take i).length=i:=by rw[aJ];omega
   cases hx:less x f0 with
   |true=>
    refine dR ⟨_,_,r,rfl,s',?_⟩
    rw[tk]
    cases r with
    |none=>
     intro j g hj
     by_cases hji:j<i
     ·rw[bO (by omega)]at hj;exact hr' j g hj
     ·rw[bP (by omega),tl]at hj
      by_cases e:j-i=0
      ·rw[e]at hj;cases hj;exact hx
      ·rw[bf (by simp;omega)]at hj;cases hj
    |some m=>
     obtain⟨⟨f,hf,hle⟩,hall⟩:=hr'
     have hm:=(af.mp hf).1
     refine⟨⟨f,by rw[bO hm];exact hf,hle⟩,fun j g hmj hj=>?_⟩
     by_cases hji:j<i
     ·rw[bO (by omega)]at hj;exact hall j g hmj hj
     ·rw[bP (by omega),tl]at hj
      by_cases e:j-i=0
      ·rw[e]at hj;cases hj;exact hx
      ·rw[bf (by simp;omega)]at hj;cases hj
   |false=>
    refine dI ⟨_,rfl,_,_,some i,rfl,s',?_⟩
    rw[tk]
    refine⟨⟨f0,by rw[bP (by omega),tl];simp,hx⟩,fun j g hij hj=>?_⟩
    rw[bf (by rw[ao,tl];simp;omega)]at hj;cases hj
  ·rintro σ H' ⟨v3,v4,r,rfl,s,hr'⟩
   rw[aa,hfs.len,aK]at hr'
   exact⟨_,rfl,k H' r hr' s⟩
abbrev l7:Stmt:=top 61
theorem qz:cT ["fractions","limit","place","fraction"] ["fractions","limit"] (cJ l7):=gJ
theorem Bm(T:Txt K mg A)(D:Def K mg "first_at_least" l7 ["fractions","limit"])(jk:Good P w K mg base 3 "less" ["one","other"] (Ab A)):Good P w K mg base 4 "first_at_least" ["fractions","limit"] (Mv A Rc.D7):=by
 refine D.good qz (fun _ _ _ _ h=>?_) (fun _ _ _ _ _ H _ Q _ hr h=>?_)
 ·obtain⟨l,b,fs,x,rfl,_⟩:=h;rfl
 ·obtain⟨l,b,fs,x,rfl,⟨fa,hl,hfs⟩,hb,sm,ax,k⟩:=h
  have nd:=qz.nd
  refine⟨_,(cg (iJ PassesOwn.never rfl (AV rfl T.enumerate (b9 (pv 0) cz)) (zN rfl (iD (qu 2 nd) (iD (qu 3 nd) tM))) (cE (dU (gQ (gP (dF jk hr (b9 (pv 3) (b9 (pv 1) cz))))) (cE (cM (pv 2))) cY)))
    (cE (cM fK))),?_⟩
  refine⟨_,rfl,l,_,rfl,dG.of hl,vW (K:=K) (a:=l) (xs:=fa.map V.ref) (fun i σ H'=>∃(v2 v3:Option V),σ=[some (.ref l),some (.ref b),v2,v3]/\cK H H'/\ ∀(j:Nat)(g:Frac),j<i->fs[j]?=some g->less g x=true)
   ⟨none,none,rfl,cK.refl _,by intro j g hj;omega⟩ (fun i σ H' _ ⟨_,_,_,s,_⟩=>dG.of (s _ _ hl)) ?_ ?_⟩
  ·rintro i y Tp σ H' hy QT ⟨v2,v3,rfl,s,hall⟩
   obtain⟨c,ic,rfl⟩:=f7 hy
   obtain⟨f0,jf,SN⟩:=hfs.get' ic
   have sT:cK H' (L2.upd H' Tp (.tup [.int (i:Nat),V.ref c])):=cK.upd QT
   have s':=s.trans sT
   refine⟨Tp,_,rfl,Jr.of cA,rfl,_,_,rfl,_,_,rfl,rfl,?_⟩
   refine⟨_,rfl,_,rfl,c,b,f0,x,rfl,SN.same s',hb.same s',sm.fit jf,ax.fit,_,rfl,?_⟩
   cases hx:less f0 x with
   |true=>
    refine dR ⟨_,_,rfl,s',fun j g hj hg=>?_⟩
    by_cases e:j=i
    ·subst e;rw[jf]at hg;cases hg;exact hx
    ·exact hall j g (by omega) hg
   |false=>exact dI ⟨_,rfl,k _ (some i) ⟨⟨f0,jf,hx⟩,hall⟩ s'⟩
  ·rintro σ H' ⟨v2,v3,rfl,s,hall⟩
   refine k H' none (fun j g hg=>hall j g ?_ hg) s
   have:=(af.mp hg).1
   rw[aa,hfs.len];exact this
def Ae(A:gY):Sp:=fun vs H Q _=>∃(l m b:Addr)(n:Nat)(xs ys:List Frac)(x a0 a1 u0 u1:Frac),vs=[.ref l,.ref m,.int (n:Nat),.ref b]/\fV (mU A) H l xs/\fV (mU A) H m ys/\mU A H b x/\U4 xs/\U4 ys/\Ask x/\
 xs[n]?=some a0/\xs[n+1]?=some a1/\ys[n]?=some u0/\ys[n+1]?=some u1/\less a0 a1=true/\ ∀(H':Hp)(p:Addr),mU A H' p (Rc.gO a0 a1 u0 u1 x)->cK H H'->Q (.ref p) H'
theorem wH{α:Type}{R:Hp->Addr->α->Prop}{H:Hp}{as:List Addr}{xs:List α}{i:Nat}{x:α}(h:fq (R H) as xs)(hx:xs[i]?=some x):∃a,(as.map V.ref)[i]?=some (V.ref a)/\R H a x:=by
 obtain⟨a,ia,ha⟩:=h.get hx
 exact⟨a,QC ia,ha⟩
abbrev Af:Stmt:=top 62
theorem Dc:cT ["across","up","place","at","left","right","start","end","share_top","share_bottom","climb_top","top"] ["across","up","place","at"] (cJ Af):=gJ
theorem KU(T:Txt K mg A)(D:Def K mg "straight" Af ["across","up","place","at"])(dP:GoodC P w K mg base 4 "Fraction" A.CF ["self","top","bottom"] (gI A)):Good P w K mg base 6 "straight" ["across","up","place","at"] (Ae A):=by
 refine D.good Dc (fun _ _ _ _ h=>?_) (fun _ _ _ _ _ H _ Q _ hr h=>?_)
 ·obtain⟨l,m,b,n,xs,ys,x,a0,a1,u0,u1,rfl,_⟩:=h;rfl
 ·obtain⟨l,m,b,n,xs,ys,x,a0,a1,u0,u1,rfl,⟨xa,hl,hxs⟩,⟨ya,hm,hys⟩,hb,sx,sy,ax,ix0,ix1,iy0,iy1,hlt,k⟩:=h
  obtain⟨c0,ec0,hc0⟩:=wH hxs ix0
  obtain⟨c1,Zg,hc1⟩:=wH hxs ix1
  obtain⟨e0,ee0,Vw⟩:=wH hys iy0
  obtain⟨e1,ee1,Vx⟩:=wH hys iy1
  have p0:=sx.all a0 (ak ix0)
  have p1:=sx.all a1 (ak ix1)
  have r0:=sy.all u0 (ak iy0)
  have r1:=sy.all u1 (ak iy1)
  have en:(n:Int)+1=((n+1:Nat):Int):=by omega
  obtain⟨da,ha⟩:=hb
  obtain⟨Xx,hc0⟩:=hc0
  obtain⟨Zh,hc1⟩:=hc1
  obtain⟨Xy,Vw⟩:=Vw
  obtain⟨Xz,Vx⟩:=Vx
  have bx:=Rc.Bt.num ax.sz
  have WE:=Rc.Bt.den ax.sz
  have b0:=Rc.Bt.num p0.2
  have WG:=Rc.Bt.den p0.2
  have b1:=Rc.Bt.num p1.2
  have XA:=Rc.Bt.den p1.2
  have v0:=Rc.Bt.num r0.2
  have WH:=Rc.Bt.den r0.2
  have v1:=Rc.Bt.num r1.2
  have U5:=Rc.Bt.den r1.2
  have zt:=((bx.mul WG).sub (b0.mul WE)).mul XA
  have zs:=(b1.mul WG).sub (b0.mul XA)
  have zb:=zs.mul WE
  have zc:=(v1.mul WH).sub (v0.mul U5)
  have hcp:=Rc.EF p0.1 p1.1 hlt
  have q0:(0:Int)<u0.den:=by have:=r0.1.pos;omega
  have q1:(0:Int)<u1.den:=by have:=r1.1.pos;omega
  have q2:(0:Int)<x.den:=by have:=ax.ok.pos;omega
  have nd:=Dc.nd
  refine⟨_,(cg (gi 4 nd (dN cW (pv 0) (pv 2) (fun _ _=>rfl)))
   (cg (gi 5 nd (dN cW (pv 0) (dJ iN (pv 2) cN) (fun _ _=>rfl)))
   (cg (gi 6 nd (dN cW (pv 1) (pv 2) (fun _ _=>rfl)))
   (cg (gi 7 nd (dN cW (pv 1) (dJ iN (pv 2) cN) (fun _ _=>rfl)))
   (cg (gi 8 nd (dJ eY (dJ oS (dJ eY (cH (pv 3) rfl) (cH (pv 4) rfl)) (dJ eY (cH (pv 4) rfl) (cH (pv 3) rfl))) (cH (pv 5) rfl)))
   (cg (gi 9 nd (dJ eY (dJ oS (dJ eY (cH (pv 5) rfl) (cH (pv 4) rfl)) (dJ eY (cH (pv 4) rfl) (cH (pv 5) rfl))) (cH (pv 3) rfl)))
   (cg (gi 10 nd (dJ oS (dJ eY (cH (pv 7) rfl) (cH (pv 6) rfl)) (dJ eY (cH (pv 6) rfl) (cH (pv 7) rfl))))
   (cg (gi 11 nd (dJ iN (dJ eY (dJ eY (cH (pv 6) rfl) (cH (pv 7) rfl)) (pv 9)) (dJ eY (pv 8) (pv 10))))
   (cE (cM (jY dP hr (b9 (pv 11) (b9 (dJ eY (dJ eY (cH (pv 6) rfl) (cH (pv 7) rfl)) (pv 9)) cz))))))))))))),?_⟩
  refine⟨_,rfl,_,rfl,l,_,_,_,rfl,rfl,dG.of hl,kJ ec0,?_⟩
  refine⟨_,rfl,_,rfl,_,_,rfl,rfl,l,_,_,_,rfl,rfl,dG.of hl,at_of en Zg,?_⟩
  refine⟨_,rfl,_,rfl,m,_,_,_,rfl,rfl,dG.of hm,kJ ee0,?_⟩
  refine⟨_,rfl,_,rfl,_,_,rfl,rfl,m,_,_,_,rfl,rfl,dG.of hm,at_of en ee1,?_⟩
  refine⟨_,rfl,b,A.CF,da,_,_,rfl,ha,T.cF,T.iA,gC x,_,rfl,c0,A.CF,Xx,_,_,rfl,hc0,T.cF,T.eG,eB a0,_,_,rfl,rfl,⟨.of bx (by decide),.of WG (by decide)⟩,?_⟩
  refine⟨_,rfl,c0,A.CF,Xx,_,_,rfl,hc0,T.cF,T.iA,gC a0,_,rfl,b,A.CF,da,_,_,rfl,ha,T.cF,T.eG,eB x,_,_,rfl,rfl,⟨.of b0 (by decide),.of WE (by decide)⟩,?_⟩
  refine⟨_,_,rfl,rfl,_,rfl,c1,A.CF,Zh,_,_,rfl,hc1,T.cF,T.eG,eB a1,_,_,rfl,rfl,⟨.of ((bx.mul WG).sub (b0.mul WE)) (by decide),.of XA (by decide)⟩,?_⟩
  refine⟨_,rfl,c1,A.CF,Zh,_,_,rfl,hc1,T.cF,T.iA,gC a1,_,rfl,c0,A.CF,Xx,_,_,rfl,hc0,T.cF,T.eG,eB a0,_,_,rfl,rfl,⟨.of b1 (by decide),.of WG (by decide)⟩,?_⟩
  refine⟨_,rfl,c0,A.CF,Xx,_,_,rfl,hc0,T.cF,T.iA,gC a0,_,rfl,c1,A.CF,Zh,_,_,rfl,hc1,T.cF,T.eG,eB a1,_,_,rfl,rfl,⟨.of b0 (by decide),.of XA (by decide)⟩,?_⟩
  refine⟨_,_,rfl,rfl,_,rfl,b,A.CF,da,_,_,rfl,ha,T.cF,T.eG,eB x,_,_,rfl,rfl,⟨.of zs (by decide),.of WE (by decide)⟩,?_⟩
  refine⟨_,rfl,e1,A.CF,Xz,_,_,rfl,Vx,T.cF,T.iA,gC u1,_,rfl,e0,A.CF,Xy,_,_,rfl,Vw,T.cF,T.eG,eB u0,_,_,rfl,rfl,⟨.of v1 (by decide),.of WH (by decide)⟩,?_⟩
  refine⟨_,rfl,e0,A.CF,Xy,_,_,rfl,Vw,T.cF,T.iA,gC u0,_,rfl,e1,A.CF,Xz,_,_,rfl,Vx,T.cF,T.eG,eB u1,_,_,rfl,rfl,⟨.of v0 (by decide),.of U5 (by decide)⟩,?_⟩
  refine⟨_,_,rfl,rfl,?_⟩
  refine⟨_,rfl,e0,A.CF,Xy,_,_,rfl,Vw,T.cF,T.iA,gC u0,_,rfl,e1,A.CF,Xz,_,_,rfl,Vx,T.cF,T.eG,eB u1,_,_,rfl,rfl,⟨.of v0 (by decide),.of U5 (by decide)⟩,?_⟩
  refine⟨_,rfl,_,_,rfl,rfl,⟨.of (v0.mul U5) (by decide),.of zb (by decide)⟩,?_⟩
  refine⟨_,rfl,_,rfl,_,_,rfl,rfl,⟨.of zt (by decide),.of zc (by decide)⟩,?_⟩
  refine⟨_,_,rfl,rfl,?_⟩
  refine⟨_,rfl,_,rfl,e0,A.CF,Xy,_,_,rfl,Vw,T.cF,T.eG,eB u0,_,rfl,e1,A.CF,Xz,_,_,rfl,Vx,T.cF,T.eG,eB u1,_,_,rfl,rfl,⟨.of WH (by decide),.of U5 (by decide)⟩,?_⟩
  refine⟨_,rfl,_,_,rfl,rfl,⟨.of (WH.mul U5) (by decide),.of zb (by decide)⟩,?_⟩
  refine lD (Int.mul_pos (Int.mul_pos q0 q1) (Int.mul_pos hcp q2)) (.of ((WH.mul U5).mul zb) (by decide)) fun H' p hF hs=>k H' p ?_ hs
  rw[Rc.IC p0.1 p1.1 r0.1 r1.1 ax.ok hlt]at hF
  exact hF
theorem yk{ps:List Point}(gp:Rc.eF ps):U4 (((Vblaaf.heaps ps).map (·.dose)).map whole):=by
 refine⟨fun f hf=>?_,?_⟩
 ·obtain⟨d,hd,e⟩:=aQ.mp hf
  subst e
  rw[Rc.xY]at hd
  obtain⟨p,hp,e⟩:=aQ.mp hd
  have g:=gp.all p hp
  exact⟨Rc.cQ d,(Rc.eS (by have:=g.d0;have:=g.d1;omega)).mono (by decide) (by decide)⟩
 ·rw[aa,aa];exact aS (Rc.fh ps) gp.len
theorem lE{ps:List Point}(gp:Rc.eF ps):U4 (Rc.dh (Vblaaf.blocks ps)):=⟨gp.gA,by rw[Rc.eO];exact aS (Rc.fh ps) gp.len⟩
def Bo(A:gY)(H:Hp)(v:V):Option Frac->Prop
 |none=>v= .f6
 |some f=>∃a,v= .ref a/\mU A H a f
theorem IW{ps:List Point}{i:Nat}(h:i<(Vblaaf.heaps ps).length):∃k,(Vblaaf.curve ps)[i]?=some k:=by
 rw[<-Rc.fF]at h
 exact⟨_,ah h⟩
theorem Cq{xs:List V}{v:V}(h:xs[xs.length-1]?=some v):RU xs (-1)=some v:=by
 obtain⟨h1,e1⟩:=af.mp h
 have ne:xs≠[]:=by intro q;rw[q]at h1;simp at h1
 have e:xs=xs.dropLast++[v]:=by rw[<-e1,<-List.getLast_eq_getElem ne,List.dropLast_concat_getLast]
 rw[e]
 exact JF _ _
def IX(A:gY):Sp:=fun vs H Q _=>∃(a b:Addr)(ps:List Point)(x:Frac),vs=[.ref a,.ref b]/\fQ A H a ps/\Rc.eF ps/\ps≠[]/\mU A H b x/\Ask x/\ ∀(H':Hp)(v:V),Bo A H' v (Vblaaf.valueAt x (Vblaaf.curve ps))->cK H H'->Q v H'
def QU(A:gY):Sp:=fun vs H Q _=>∃(a:Addr)(ps:List Point)(x:Int),vs=[.ref a,.int x]/\fQ A H a ps/\Rc.eF ps/\ps≠[]/\Q (.bl (Vblaaf.valueAt (whole x) (Vblaaf.curve ps)).isSome) H
theorem Cr{ps:List Point}(ne:ps≠[]):∃z,(Vblaaf.curve ps)[(Vblaaf.curve ps).length-1]?=some z:=⟨_,ah (by have:=Rc.vO ne;omega)⟩
theorem Ag{ps:List Point}(ne:ps≠[]):∃z,(Vblaaf.curve ps)[0]?=some z:=⟨_,ah (Rc.vO ne)⟩
theorem U6{ps:List Point}(gp:Rc.eF ps){a z:Knot}(ha:(Vblaaf.curve ps)[0]?=some a)(hz:(Vblaaf.curve ps)[(Vblaaf.curve ps).length-1]?=some z)(x:Int):
  (Vblaaf.valueAt (whole x) (Vblaaf.curve ps)).isSome=(decide (a.1≤x)&&decide (x≤z.1)):=by
 have h:=Rc.vL (Rc.cQ x) (Rc.kh gp.pos) (a:=a) (z:=z) (by rw[List.head?_eq_getElem?];exact ha) (by rw[List.getLast?_eq_getElem?];exact hz)
 rw[Rc.fB,Rc.fB]at h
 rw[Bool.eq_iff_iff,h]
 simp
abbrev Ah:Stmt:=top 63
theorem Dd:cT ["curve","dose"] ["curve","dose"] (cJ Ah):=gJ
theorem KW(T:Txt K mg A)(D:Def K mg "has_line" Ah ["curve","dose"]):Good P w K mg base 3 "has_line" ["curve","dose"] (QU A):=by
 refine D.good Dd (fun _ _ _ _ h=>?_) (fun _ _ _ _ _ H _ Q _ hr h=>?_)
 ·obtain⟨a,ps,x,rfl,_⟩:=h;rfl
 ·obtain⟨a,ps,x,rfl,hC,gp,ne,k⟩:=h
  obtain⟨c,⟨da,ha⟩,hsg,hds,hws,EX,Eg⟩:=hC.ex
  obtain⟨f,hf⟩:=Ag ne
  obtain⟨z,hz⟩:=Cr ne
  rw[U6 gp hf hz]at k
  have e0:=E1 (Rc.fG hf)
  have e1:=E1 (Rc.fG hz)
  have el:(((Vblaaf.heaps ps).map (·.dose)).map V.int).length=(Vblaaf.curve ps).length:=by rw[aa,aa,Rc.fF]
  rw[<-el]at e1
  have nd:=Dd.nd
  refine⟨_,(cE (cM (mZ gU gU (dN cW (cH (pv 0) rfl) cN (fun _ _=>rfl)) (pv 1) (dN cW (cH (pv 0) rfl) (CP vz cN) (fun _ _=>rfl))))),?_⟩
  refine⟨_,rfl,a,A.CC,da,_,_,rfl,ha,T.cC,T.jL,lB c,c.doses,_,0,V.int f.1,rfl,rfl,dG.of hds,at_of (j:=0) rfl e0,_,rfl,_,_,rfl,rfl,_,rfl,?_⟩
  by_cases h1:f.1≤x
  ·rw[aX h1,Bool.true_and]at k
   rw[aX h1]
   refine dI ⟨_,rfl,a,A.CC,da,_,_,rfl,ha,T.cC,T.jL,lB c,_,rfl,c.doses,_, -1,V.int z.1,rfl,rfl,dG.of hds,Cq e1,_,_,rfl,rfl,k⟩
  ·rw[aW h1,Bool.false_and]at k
   rw[aW h1]
   exact dR k
abbrev Cs:Stmt:=top 64
theorem Fl:cT ["curve","dose","doses","place"] ["curve","dose"] (cJ Cs):=gJ
theorem Mw(T:Txt K mg A)(D:Def K mg "line_at" Cs ["curve","dose"])(fW:Good P w K mg base 4 "last_at_most" ["fractions","limit"] (Mv A Rc.B9))(l8:Good P w K mg base 6 "straight" ["across","up","place","at"] (Ae A))(jk:Good P w K mg base 3 "less" ["one","other"] (Ab A)):Good P w K mg base 7 "line_at" ["curve","dose"] (IX A):=by
 refine D.good Fl (fun _ _ _ _ h=>?_) (fun _ _ _ _ _ H _ Q _ hr h=>?_)
 ·obtain⟨a,b,ps,x,rfl,_⟩:=h;rfl
 ·obtain⟨a,b,ps,x,rfl,hC,gp,ne,hb,ax,k⟩:=h
  have kn:=Rc.kh gp.pos
  have sd:=yk gp
  have sh:=lE gp
  have cpos:=Rc.vO ne
  have Mt:=Rc.fF ps
  have hlen:=Rc.eO ps
  have nd:=Fl.nd
  refine⟨_,(cg (gi 2 nd (cH (pv 0) rfl))
    (cg (gi 3 nd (dF fW hr (b9 (pv 2) (b9 (pv 1) cz))))
    (cg (dU (PW.pt (GK (dw nD (pv 3) fK (dQ _)) (BX (gP (dF jk hr (b9 (dN cW (pv 2) (CP vz cN) (fun _ _=>rfl)) (b9 (pv 1) cz))))))) (cE (cM fK)) cY)
    (cg (dU (dw kZ (pv 3) (dJ oS (dD cX (by rfl) T.len aG (b9 (pv 2) cz)) cN) (dQ _)) (cE (cM (dN cW (cH (pv 0) rfl) (pv 3) (fun _ _=>rfl)))) cY)
    (cE (cM (dF l8 hr (b9 (pv 2) (b9 (cH (pv 0) rfl) (b9 (pv 3) (b9 (pv 1) cz))))))))))),?_⟩
  obtain⟨c,⟨da,ha⟩,hsg,hds,hws,EX,Eg⟩:=hC.ex
  refine⟨_,rfl,a,A.CC,da,_,_,rfl,ha,T.cC,T.gu,iC c,?_⟩
  refine⟨_,rfl,_,rfl,c.nH,b,_,x,rfl,hws,hb,sd,ax,fun H2 r hr2 wF=>?_⟩
  have ha:=wF _ _ ha
  have Eg:=Eg.same wF fun _ _ h=>h.same wF
  have yY:=hws.same wF fun _ _ h=>h.same wF
  obtain⟨as,SO,has⟩:=id yY
  obtain⟨fa,Jt,ND⟩:=id Eg
  have dl:(((Vblaaf.heaps ps).map (·.dose)).map whole).length=(Vblaaf.curve ps).length:=by rw[aa,aa,Mt]
  have Zi:as.length=(Vblaaf.curve ps).length:=by rw[has.len,dl]
  obtain⟨z,hz⟩:∃z,(Vblaaf.curve ps)[(Vblaaf.curve ps).length-1]?=some z:=⟨_,ah (by omega)⟩
  have dz:=Rc.getElem?_map_whole (Rc.fG hz)
  obtain⟨za,eza,hza⟩:=wH has dz
  have hlast:(as.map V.ref)[(as.map V.ref).length-1]?=some (V.ref za):=by rw[aa,Zi];exact eza
  cases r with
  |none=>
   have hv:Vblaaf.valueAt x (Vblaaf.curve ps)=none:=Rc.IB cpos fun kk hk=>by
    obtain⟨i,hi,e⟩:=List.mem_iff_getElem.mp hk
    exact hr2 i (whole kk.1) (Rc.getElem?_map_whole (Rc.fG (by rw[ah hi,e])))
   rw[hv]at k
   refine⟨_,rfl,rfl,_,rfl,dI (dI ?_)⟩
   exact k H2 .f6 rfl wF
  |some i=>
   obtain⟨⟨f,hf,hfx⟩,hall⟩:=hr2
   refine⟨_,rfl,rfl,_,rfl,dR ?_⟩
   refine⟨_,rfl,_,rfl,c.nH,_, -1,V.ref za,rfl,rfl,dG.of SO,Cq hlast,_,rfl,za,b,_,x,rfl,hza,hb.same wF,sd.fit dz,ax.fit,_,rfl,?_⟩
   cases hp:less (whole z.1) x with
   |true=>
    rw[Rc.LZ kn ax.ok hz hp]at k
    exact dI (k H2 .f6 rfl wF)
   |false=>
    refine dR ?_
    rw[aE]at hf
    obtain⟨d,hd,ed⟩:=aI.mp hf
    subst ed
    have hi:i<(Vblaaf.heaps ps).length:=by have:=(af.mp hd).1;rw[aa]at this;exact this
    obtain⟨kk,hkk⟩:=IW hi
    have ek:=Rc.fG hkk
    rw[hd]at ek
    have ek:d=kk.1:=az ek
    subst ek
    refine⟨_,rfl,_,rfl,c.nH,_,rfl,.inl (dG.of SO),_,_,rfl,rfl,rfl,_,rfl,?_⟩
    by_cases QV:i=(Vblaaf.curve ps).length-1
    ·have e1:decide (WD (some i)=V.int (((as.map V.ref).length:Nat)-1:Int))=true:=aX (by
      rw[aa,Zi]
      show V.int (i:Int)=_
      congr 1;omega)
     rw[e1]
     refine dI ?_
     rw[QV,hz]at hkk
     cases hkk
     have ex:x=whole z.1:=Rc.iO ax.ok (Rc.cQ _) hfx hp
     have hv:Vblaaf.valueAt x (Vblaaf.curve ps)=some z.2:=by rw[ex];exact Rc.J2 kn hz
     rw[hv]at k
     obtain⟨ha2,eh,hh2⟩:=wH ND (Rc.fC hz)
     rw[<-QV]at eh
     refine⟨_,rfl,a,A.CC,da,_,_,rfl,ha,T.cC,T.f9,gn c,_,rfl,c.gA,_,(i:Int),V.ref ha2,rfl,rfl,dG.of Jt,kJ eh,?_⟩
     exact k H2 _ ⟨ha2,rfl,hh2⟩ wF
    ·have e1:decide (WD (some i)=V.int (((as.map V.ref).length:Nat)-1:Int))=false:=aW (by
      rw[aa,Zi]
      show ¬V.int (i:Int)=_
      intro q;injection q with q;omega)
     rw[e1]
     refine dR ?_
     have hi1:i+1<(Vblaaf.heaps ps).length:=by omega
     obtain⟨k1,hk1⟩:=IW hi1
     have hx1:=hall (i+1) _ (by omega) (Rc.getElem?_map_whole (Rc.fG hk1))
     have hlt:=kn.Tj (by omega) hkk hk1
     have ok0:=(kn.ok kk (ak hkk))
     have ok1:=(kn.ok k1 (ak hk1))
     have hv:Vblaaf.valueAt x (Vblaaf.curve ps)=some (Rc.gO (whole kk.1) (whole k1.1) kk.2 k1.2 x):=by
      rw[Rc.x8 ax.ok kn hkk hk1 hfx (Rc.iu hx1),Rc.B6 ok0 ok1 ax.ok hlt]
     rw[hv]at k
     refine⟨_,rfl,_,rfl,a,A.CC,da,_,_,rfl,ha,T.cC,T.f9,gn c,_,rfl,_,rfl,c.nH,c.gA,b,i,_,_,x,_,_,_,_,rfl,yY,Eg,hb.same wF,sd,sh,ax,Rc.getElem?_map_whole hd,Rc.getElem?_map_whole (Rc.fG hk1),Rc.fC hkk,Rc.fC hk1,by rw[Rc.fB];exact aX hlt,fun H3 q h3 s3=>?_⟩
     exact k H3 _ ⟨q,rfl,h3⟩ (wF.trans s3)
def IY(A:gY)(g:List Frac->Frac->Bool):Sp:=fun vs H Q _=>∃(a b:Addr)(ps:List Point)(r:Frac),vs=[.ref a,.ref b]/\fQ A H a ps/\Rc.eF ps/\ps≠[]/\mU A H b r/\Ask r/\Q (.bl (g (Rc.dh (Vblaaf.blocks ps)) r)) H
def ug(fs:List Frac)(r:Frac):Bool:=match fs[0]? with | some f=>less r f | none=>false
def uh(fs:List Frac)(r:Frac):Bool:=match fs[fs.length-1]? with | some f=>less f r | none=>false
abbrev Ai:Stmt:=top 65
theorem De:cT ["curve","response"] ["curve","response"] (cJ Ai):=gJ
theorem KY(T:Txt K mg A)(D:Def K mg "is_below" Ai ["curve","response"])(jk:Good P w K mg base 3 "less" ["one","other"] (Ab A)):Good P w K mg base 4 "is_below" ["curve","response"] (IY A ug):=by
 refine D.good De (fun _ _ _ _ h=>?_) (fun _ _ _ _ _ H _ Q _ hr h=>?_)
 ·obtain⟨a,b,ps,r,rfl,_⟩:=h;rfl
 ·obtain⟨a,b,ps,r,rfl,hC,gp,ne,hb,ax,k⟩:=h
  obtain⟨c,⟨da,ha⟩,hsg,hds,hws,EX,⟨fa,Jt,ND⟩⟩:=hC.ex
  have cpos:=Rc.vO ne
  rw[Rc.fF,<-Rc.eO]at cpos
  have i0:(Rc.dh (Vblaaf.blocks ps))[0]?=some (Rc.dh (Vblaaf.blocks ps))[0]:=ah cpos
  obtain⟨f0,ef,hf⟩:=wH ND i0
  have nd:=De.nd
  refine⟨_,(cE (cM (dF jk hr (b9 (pv 1) (b9 (dN cW (cH (pv 0) rfl) cN (fun _ _=>rfl)) cz))))),?_⟩
  refine⟨_,rfl,_,rfl,a,A.CC,da,_,_,rfl,ha,T.cC,T.f9,gn c,c.gA,_,0,V.ref f0,rfl,rfl,dG.of Jt,at_of (j:=0) rfl ef,b,f0,r,_,rfl,hb,hf,ax.fit,(lE gp).fit i0,?_⟩
  unfold ug at k
  rw[i0]at k
  exact k
abbrev Aj:Stmt:=top 66
theorem Df:cT ["curve","response"] ["curve","response"] (cJ Aj):=gJ
theorem KZ(T:Txt K mg A)(D:Def K mg "is_above" Aj ["curve","response"])(jk:Good P w K mg base 3 "less" ["one","other"] (Ab A)):Good P w K mg base 4 "is_above" ["curve","response"] (IY A uh):=by
 refine D.good Df (fun _ _ _ _ h=>?_) (fun _ _ _ _ _ H _ Q _ hr h=>?_)
 ·obtain⟨a,b,ps,r,rfl,_⟩:=h;rfl
 ·obtain⟨a,b,ps,r,rfl,hC,gp,ne,hb,ax,k⟩:=h
  obtain⟨c,⟨da,ha⟩,hsg,hds,hws,EX,⟨fa,Jt,ND⟩⟩:=hC.ex
  have cpos:=Rc.vO ne
  rw[Rc.fF,<-Rc.eO]at cpos
  have i0:(Rc.dh (Vblaaf.blocks ps))[(Rc.dh (Vblaaf.blocks ps)).length-1]?=some ((Rc.dh (Vblaaf.blocks ps))[(Rc.dh (Vblaaf.blocks ps)).length-1]'(by omega)):=ah _
  obtain⟨f0,ef,hf⟩:=wH ND i0
  rw[<-ND.len,<-aa (f:=V.ref)]at ef
  have nd:=Df.nd
  refine⟨_,(cE (cM (dF jk hr (b9 (dN cW (cH (pv 0) rfl) (CP vz cN) (fun _ _=>rfl)) (b9 (pv 1) cz))))),?_⟩
  refine⟨_,rfl,a,A.CC,da,_,_,rfl,ha,T.cC,T.f9,gn c,_,rfl,c.gA,_, -1,V.ref f0,rfl,rfl,dG.of Jt,Cq ef,_,rfl,f0,b,_,r,rfl,hf,hb,(lE gp).fit i0,ax.fit,?_⟩
  unfold uh at k
  rw[i0]at k
  exact k
theorem Fo{ps:List Point}{z:Knot}{r:Frac}(hz:(Vblaaf.curve ps)[(Vblaaf.curve ps).length-1]?=some z):uh (Rc.dh (Vblaaf.blocks ps)) r=less z.2 r:=by
 unfold uh
 have:=Rc.fC hz
 rw[Rc.fF,<-Rc.eO]at this
 rw[this]
theorem Fp{ps:List Point}{z:Knot}{r:Frac}(hz:(Vblaaf.curve ps)[0]?=some z):ug (Rc.dh (Vblaaf.blocks ps)) r=less r z.2:=by
 unfold ug
 rw[Rc.fC hz]
def HK(A:gY):Sp:=fun vs H Q _=>∃(a b:Addr)(ps:List Point)(r:Frac),vs=[.ref a,.ref b]/\fQ A H a ps/\Rc.eF ps/\ps≠[]/\mU A H b r/\Ask r/\ug (Rc.dh (Vblaaf.blocks ps)) r=false/\uh (Rc.dh (Vblaaf.blocks ps)) r=false/\
 ∀(H':Hp)(q c d:Addr)(v w:Frac),Vblaaf.doseOf r (Vblaaf.curve ps)= .inside v w->H' q=some (.lst [.ref c,.ref d])->mU A H' c v->mU A H' d w->cK H H'->Q (.ref q) H'
theorem NG{ps:List Point}{i:Nat}{f:Frac}(h:(Rc.dh (Vblaaf.blocks ps))[i]?=some f):∃k,(Vblaaf.curve ps)[i]?=some k/\k.2=f:=by
 have hi:i<(Vblaaf.heaps ps).length:=by have:=(af.mp h).1;rw[Rc.eO]at this;exact this
 obtain⟨kk,hkk⟩:=IW hi
 have ek:=Rc.fC hkk
 rw[h]at ek
 exact⟨kk,hkk,(az ek).symm⟩
abbrev Ak:Stmt:=top 67
theorem Dg:cT ["curve","response","reached","left","crossing"] ["curve","response"] (cJ Ak):=gJ
theorem K0(T:Txt K mg A)(D:Def K mg "doses_of" Ak ["curve","response"])(gZ:Good P w K mg base 4 "first_at_least" ["fractions","limit"] (Mv A Rc.D7))(fW:Good P w K mg base 4 "last_at_most" ["fractions","limit"] (Mv A Rc.B9))(l8:Good P w K mg base 6 "straight" ["across","up","place","at"] (Ae A)):Good P w K mg base 7 "doses_of" ["curve","response"] (HK A):=by
 refine D.good Dg (fun _ _ _ _ h=>?_) (fun _ _ _ _ _ H _ Q _ hr h=>?_)
 ·obtain⟨a,b,ps,r,rfl,_⟩:=h;rfl
 ·obtain⟨a,b,ps,r,rfl,hC,gp,ne,hb,ax,Rt,hab,k⟩:=h
  have kn:=Rc.kh gp.pos
  obtain⟨z,hz⟩:=Cr ne
  obtain⟨z0,hz0⟩:=Ag ne
  rw[Fo hz]at hab
  rw[Fp hz0]at Rt
  obtain⟨c,⟨da,ha⟩,hsg,hds,hws,EX,Eg⟩:=hC.ex
  have nd:=Dg.nd
  refine⟨_,(cg (gi 2 nd (dF gZ hr (b9 (cH (pv 0) rfl) (b9 (pv 1) cz))))
    (cg (gi 3 nd (dF fW hr (b9 (cH (pv 0) rfl) (b9 (pv 1) cz))))
    (cg (dU (dw vA (pv 3) (pv 2) (dQ _)) (cg (gi 4 nd (dF l8 hr (b9 (cH (pv 0) rfl) (b9 (cH (pv 0) rfl) (b9 (pv 3) (b9 (pv 1) cz))))))
     (cE (cM (dc (b9 (pv 4) (b9 (pv 4) cz)))))) cY)
    (cE (cM (dc (b9 (dN cW (cH (pv 0) rfl) (pv 2) (fun _ _=>rfl)) (b9 (dN cW (cH (pv 0) rfl) (pv 3) (fun _ _=>rfl)) cz)))))))),?_⟩
  refine⟨_,rfl,a,A.CC,da,_,_,rfl,ha,T.cC,T.f9,gn c,_,rfl,c.gA,b,_,r,rfl,Eg,hb,lE gp,ax,fun H1 ix hix s1=>?_⟩
  have ha:=s1 _ _ ha
  have Eg:=Eg.same s1 fun _ _ h=>h.same s1
  refine⟨_,rfl,a,A.CC,da,_,_,rfl,ha,T.cC,T.f9,gn c,_,rfl,c.gA,b,_,r,rfl,Eg,hb.same s1,lE gp,ax,fun H2 jx hjx s2=>?_⟩
  have wF:=s1.trans s2
  have ha:=s2 _ _ ha
  have Eg:=Eg.same s2 fun _ _ h=>h.same s2
  have hws:=hws.same wF fun _ _ h=>h.same wF
  cases ix with
  |none=>
   have:=hix _ _ (Rc.fC hz)
   rw[hab]at this;cases this
  |some i=>
  cases jx with
  |none=>
   have:=hjx _ _ (Rc.fC hz0)
   rw[Rt]at this;cases this
  |some j=>
   obtain⟨⟨f,hf,hfr⟩,hall⟩:=hix
   obtain⟨⟨g,hg,hgr⟩,WI⟩:=hjx
   obtain⟨kf,hkf,rfl⟩:=NG hf
   obtain⟨kg,WJ,rfl⟩:=NG hg
   have before:∀q k,q<i->(Vblaaf.curve ps)[q]?=some k->less k.2 r=true:=fun q k hq hk=>hall q _ hq (Rc.fC hk)
   have behind:∀q k,j<q->(Vblaaf.curve ps)[q]?=some k->less r k.2=true:=fun q k hq hk=>WI q _ hq (Rc.fC hk)
   refine⟨_,rfl,_,rfl,(j:Int),(i:Int),rfl,rfl,_,rfl,?_⟩
   by_cases hij:j<i
   ·rw[aX (by omega)]
    obtain⟨hk1,hlt,e1,e2⟩:=Rc.Ke kn ax.ok hkf WJ hfr hgr before behind hij
    refine dI ?_
    refine⟨_,rfl,a,A.CC,da,_,_,rfl,ha,T.cC,T.f9,gn c,_,rfl,a,A.CC,da,_,_,rfl,ha,T.cC,T.gu,iC c,_,rfl,_,rfl,c.gA,c.nH,b,j,_,_,r,_,_,_,_,rfl,Eg,hws,hb.same wF,lE gp,yk gp,ax,Rc.fC WJ,Rc.fC hk1,Rc.getElem?_map_whole (Rc.fG WJ),Rc.getElem?_map_whole (Rc.fG hk1),hlt,fun H3 q hq s3=>?_⟩
    refine⟨_,rfl,_,rfl,(by show 2≤sizeLine;rw[sizeLine_eq];decide),fun l hl=>?_⟩
    exact k _ l q q _ _ (Rc.qQ e1 e2) cA (hq.same (cK.upd hl)) (hq.same (cK.upd hl)) ((wF.trans s3).trans (cK.upd hl))
   ·rw[aW (by omega)]
    obtain⟨e1,e2⟩:=Rc.L0 kn ax.ok hkf WJ hfr hgr before behind (by omega)
    refine dR ?_
    obtain⟨wa,hwa,hwb⟩:=hws
    obtain⟨c1,Zg,hc1⟩:=wH hwb (Rc.getElem?_map_whole (Rc.fG hkf))
    obtain⟨c2,ec2,hc2⟩:=wH hwb (Rc.getElem?_map_whole (Rc.fG WJ))
    refine⟨_,rfl,a,A.CC,da,_,_,rfl,ha,T.cC,T.gu,iC c,_,rfl,c.nH,_,(i:Int),V.ref c1,rfl,rfl,dG.of hwa,kJ Zg,_,rfl,a,A.CC,da,_,_,rfl,ha,T.cC,T.gu,iC c,_,rfl,c.nH,_,(j:Int),V.ref c2,rfl,rfl,dG.of hwa,kJ ec2,(by show 2≤sizeLine;rw[sizeLine_eq];decide),fun l hl=>?_⟩
    exact k _ l c1 c2 _ _ (Rc.qQ e1 e2) cA (hc1.same (cK.upd hl)) (hc2.same (cK.upd hl)) (wF.trans (cK.upd hl))
def Fq(A:gY):Sp:=fun vs H Q _=>∃(a:Addr)(ps:List Point)(r:Option Nat),vs=[.ref a,WD r]/\fQ A H a ps/\(∀i,r=some i->i<(Rc.dh (Vblaaf.blocks ps)).length)/\ ∀v,Bo A H v (r.bind fun i=>(Rc.dh (Vblaaf.blocks ps))[i]?)->Q v H
abbrev l9:Stmt:=top 68
theorem qA:cT ["curve","place"] ["curve","place"] (cJ l9):=gJ
theorem Bp(T:Txt K mg A)(D:Def K mg "height_or_none" l9 ["curve","place"]):Good P w K mg base 3 "height_or_none" ["curve","place"] (Fq A):=by
 refine D.good qA (fun _ _ _ _ h=>?_) (fun _ _ _ _ _ H _ Q _ hr h=>?_)
 ·obtain⟨a,ps,r,rfl,_⟩:=h;rfl
 ·obtain⟨a,ps,r,rfl,hC,hri,k⟩:=h
  obtain⟨c,⟨da,ha⟩,hsg,hds,hws,EX,⟨fa,Jt,ND⟩⟩:=hC.ex
  have nd:=qA.nd
  refine⟨_,(cg (dU (dw nD (pv 1) fK (dQ _)) (cE (cM fK)) cY)
    (cE (cM (dN cW (cH (pv 0) rfl) (pv 1) (fun _ _=>rfl))))),?_⟩
  cases r with
  |none=>exact⟨_,rfl,rfl,_,rfl,dI (k .f6 rfl)⟩
  |some i=>
   refine⟨_,rfl,rfl,_,rfl,dR ?_⟩
   have hi:(Rc.dh (Vblaaf.blocks ps))[i]?=some ((Rc.dh (Vblaaf.blocks ps))[i]'(hri i rfl)):=ah _
   obtain⟨f0,ef,hf⟩:=wH ND hi
   refine⟨_,rfl,a,A.CC,da,_,_,rfl,ha,T.cC,T.f9,gn c,_,rfl,c.gA,_,(i:Int),V.ref f0,rfl,rfl,dG.of Jt,kJ ef,?_⟩
   refine k _ ?_
   rw[Option.bind_some,hi]
   exact⟨f0,rfl,hf⟩
def IZ(A:gY)(g:Int->List Knot->Option Frac):Sp:=fun vs H Q _=>∃(a:Addr)(ps:List Point)(x:Int),vs=[.ref a,.int x]/\fQ A H a ps/\Rc.eF ps/\x.natAbs≤2000000/\ ∀(H':Hp)(v:V),Bo A H' v (g x (Vblaaf.curve ps))->cK H H'->Q v H'
theorem oJ{x:Int}(h:x.natAbs≤2000000):Ask (whole x):=⟨Rc.cQ x,(Rc.eS h).mono (by decide) (by decide)⟩
abbrev Al:Stmt:=top 69
theorem Dh:cT ["curve","dose"] ["curve","dose"] (cJ Al):=gJ
theorem K1(T:Txt K mg A)(D:Def K mg "low_step" Al ["curve","dose"])(ie:Good P w K mg base 3 "height_or_none" ["curve","place"] (Fq A))(fW:Good P w K mg base 4 "last_at_most" ["fractions","limit"] (Mv A Rc.B9))(eN:Good P w K mg base 6 "whole" ["number"] (mW A)):Good P w K mg base 7 "low_step" ["curve","dose"] (IZ A Vblaaf.stepLow):=by
 refine D.good Dh (fun _ _ _ _ h=>?_) (fun _ _ _ _ _ H _ Q _ hr h=>?_)
 ·obtain⟨a,ps,x,rfl,_⟩:=h;rfl
 ·obtain⟨a,ps,x,rfl,hC,gp,hx,k⟩:=h
  have nd:=Dh.nd
  refine⟨_,(cE (cM (dF ie hr (b9 (pv 0) (b9 (dF fW hr (b9 (cH (pv 0) rfl) (b9 (dF eN hr (b9 (pv 1) cz)) cz))) cz))))),?_⟩
  obtain⟨c,⟨da,ha⟩,hsg,hds,hws,EX,Eg⟩:=hC.ex
  refine⟨_,rfl,_,rfl,a,A.CC,da,_,_,rfl,ha,T.cC,T.gu,iC c,?_⟩
  refine⟨_,rfl,x,rfl,fun H2 q hq s2=>?_⟩
  refine⟨c.nH,q,_,_,rfl,hws.same s2 fun _ _ h=>h.same s2,hq,yk gp,oJ hx,fun H3 r U7 s3=>?_⟩
  have yl:=s2.trans s3
  refine⟨a,ps,r,rfl,hC.same yl,?_,fun v hv=>?_⟩
  ·rintro i rfl
   obtain⟨⟨f,hf,_⟩,_⟩:=U7
   have:=(af.mp hf).1
   rw[aa,aa]at this
   rw[Rc.eO];exact this
  ·rw[<-Rc.UK U7]at hv
   exact k H3 v hv yl
abbrev wI:Stmt:=top 70
theorem Bq:cT ["curve","dose"] ["curve","dose"] (cJ wI):=gJ
theorem Ja(T:Txt K mg A)(D:Def K mg "high_step" wI ["curve","dose"])(ie:Good P w K mg base 3 "height_or_none" ["curve","place"] (Fq A))(gZ:Good P w K mg base 4 "first_at_least" ["fractions","limit"] (Mv A Rc.D7))(eN:Good P w K mg base 6 "whole" ["number"] (mW A)):Good P w K mg base 7 "high_step" ["curve","dose"] (IZ A Vblaaf.stepHigh):=by
 refine D.good Bq (fun _ _ _ _ h=>?_) (fun _ _ _ _ _ H _ Q _ hr h=>?_)
 ·obtain⟨a,ps,x,rfl,_⟩:=h;rfl
 ·obtain⟨a,ps,x,rfl,hC,gp,hx,k⟩:=h
  have nd:=Bq.nd
  refine⟨_,(cE (cM (dF ie hr (b9 (pv 0) (b9 (dF gZ hr (b9 (cH (pv 0) rfl) (b9 (dF eN hr (b9 (pv 1) cz)) cz))) cz))))),?_⟩
  obtain⟨c,⟨da,ha⟩,hsg,hds,hws,EX,Eg⟩:=hC.ex
  refine⟨_,rfl,_,rfl,a,A.CC,da,_,_,rfl,ha,T.cC,T.gu,iC c,?_⟩
  refine⟨_,rfl,x,rfl,fun H2 q hq s2=>?_⟩
  refine⟨c.nH,q,_,_,rfl,hws.same s2 fun _ _ h=>h.same s2,hq,yk gp,oJ hx,fun H3 r U7 s3=>?_⟩
  have yl:=s2.trans s3
  refine⟨a,ps,r,rfl,hC.same yl,?_,fun v hv=>?_⟩
  ·rintro i rfl
   obtain⟨⟨f,hf,_⟩,_⟩:=U7
   have:=(af.mp hf).1
   rw[aa,aa]at this
   rw[Rc.eO];exact this
  ·rw[<-Rc.Si U7]at hv
   exact k H3 v hv yl
end
end Rv
namespace Rv
open PySem PySem.Spec PyProof.Rows L2
open Vblaaf (Frac Point Block Knot lowest whole plus minus times over less mean)
open Rc (Ok Sz)
section
variable {P:Program} {w:World} {K:PySem.W.Frag} {mg:Str->Option Value} {base:Heap} {A:gY}
open Vblaaf (inside)
theorem oK{lo x hi:Int}{R:Prop}{P:Bool->Prop}(q:P (inside x lo hi))(h:P (decide (x≤hi))->R):if decide (lo≤x)=true then R else P false:=by
 unfold inside at q
 by_cases hl:lo≤x
 ·rw[aX hl,Bool.true_and]at q
  rw[aX hl]
  exact dI (h q)
 ·rw[aW hl,Bool.false_and]at q
  rw[aW hl]
  exact dR q
def sQ(n:Int):Bool:=inside n 0 1000000
def dZ(n:Int):Bool:=inside n (-1000000) 1000000
def Br(n:Int):Bool:=inside n 1 1000
def Ft(n:Int):Bool:=inside n 0 1000000
def Di(n:Int):Bool:=inside n 0 4611686018427387904
def pH(g:Int->Bool):Sp:=fun vs H Q _=>∃n:Int,vs=[.int n]/\Q (.bl (g n)) H
abbrev Ct:Stmt:=top 34
theorem Fv:cT ["number"] ["number"] (cJ Ct):=gJ
theorem Mx(T:Txt K mg A)(D:Def K mg "is_time" Ct ["number"]):Good P w K mg base 3 "is_time" ["number"] (pH Di):=by
 refine D.good Fv (fun _ _ _ _ h=>?_) (fun _ _ _ _ _ H _ Q _ hr h=>?_)
 ·obtain⟨n,rfl,_⟩:=h;rfl
 ·obtain⟨n,rfl,k⟩:=h
  have nd:=Fv.nd
  refine⟨_,(cE (cM (mZ gU gU cN (pv 0) (dB rfl T.Hy)))),?_⟩
  exact⟨_,rfl,_,_,rfl,rfl,_,rfl,oK (P:=fun b=>Q (.bl b) H) k fun q=>⟨_,_,rfl,rfl,q⟩⟩
abbrev Cu:Stmt:=top 35
theorem Fw:cT ["number"] ["number"] (cJ Cu):=gJ
theorem My(T:Txt K mg A)(D:Def K mg "is_dose" Cu ["number"]):Good P w K mg base 3 "is_dose" ["number"] (pH sQ):=by
 refine D.good Fw (fun _ _ _ _ h=>?_) (fun _ _ _ _ _ H _ Q _ hr h=>?_)
 ·obtain⟨n,rfl,_⟩:=h;rfl
 ·obtain⟨n,rfl,k⟩:=h
  have nd:=Fw.nd
  refine⟨_,(cE (cM (mZ gU gU cN (pv 0) (dB rfl T.Ck)))),?_⟩
  exact⟨_,rfl,_,_,rfl,rfl,_,rfl,oK (P:=fun b=>Q (.bl b) H) k fun q=>⟨_,_,rfl,rfl,q⟩⟩
abbrev qU:Stmt:=top 36
theorem wJ:cT ["number"] ["number"] (cJ qU):=gJ
theorem Fx(T:Txt K mg A)(D:Def K mg "is_response" qU ["number"]):Good P w K mg base 3 "is_response" ["number"] (pH dZ):=by
 refine D.good wJ (fun _ _ _ _ h=>?_) (fun _ _ _ _ _ H _ Q _ hr h=>?_)
 ·obtain⟨n,rfl,_⟩:=h;rfl
 ·obtain⟨n,rfl,k⟩:=h
  have nd:=wJ.nd
  refine⟨_,(cE (cM (mZ gU gU (CP vz (dB rfl T.qS)) (pv 0) (dB rfl T.qS)))),?_⟩
  exact⟨_,rfl,_,rfl,_,_,rfl,rfl,_,rfl,oK (P:=fun b=>Q (.bl b) H) k fun q=>⟨_,_,rfl,rfl,q⟩⟩
abbrev wK:Stmt:=top 37
theorem Bs:cT ["number"] ["number"] (cJ wK):=gJ
theorem Jb(T:Txt K mg A)(D:Def K mg "is_weight" wK ["number"]):Good P w K mg base 3 "is_weight" ["number"] (pH Br):=by
 refine D.good Bs (fun _ _ _ _ h=>?_) (fun _ _ _ _ _ H _ Q _ hr h=>?_)
 ·obtain⟨n,rfl,_⟩:=h;rfl
 ·obtain⟨n,rfl,k⟩:=h
  have nd:=Bs.nd
  refine⟨_,(cE (cM (mZ gU gU cN (pv 0) (dB rfl T.C6)))),?_⟩
  exact⟨_,rfl,_,_,rfl,rfl,_,rfl,oK (P:=fun b=>Q (.bl b) H) k fun q=>⟨_,_,rfl,rfl,q⟩⟩
abbrev Am:Stmt:=top 38
theorem Dj:cT ["number"] ["number"] (cJ Am):=gJ
theorem K2(T:Txt K mg A)(D:Def K mg "is_bound" Am ["number"]):Good P w K mg base 3 "is_bound" ["number"] (pH Ft):=by
 refine D.good Dj (fun _ _ _ _ h=>?_) (fun _ _ _ _ _ H _ Q _ hr h=>?_)
 ·obtain⟨n,rfl,_⟩:=h;rfl
 ·obtain⟨n,rfl,k⟩:=h
  have nd:=Dj.nd
  refine⟨_,(cE (cM (mZ gU gU cN (pv 0) (dB rfl T.E3)))),?_⟩
  exact⟨_,rfl,_,_,rfl,rfl,_,rfl,oK (P:=fun b=>Q (.bl b) H) k fun q=>⟨_,_,rfl,rfl,q⟩⟩
def ym(A:gY):Sp:=fun vs H Q _=>∃(p dx:Addr)(x:Point),vs=[.ref p,.int x.dose,.int x.response,.int x.weight,.int x.bound]/\H p=some (.ins A.CR dx [])/\ ∀H':Hp,vn A H' p x->jn p H H'->Q .f6 H'
abbrev pI:Stmt:=inClass (top 31) 0
theorem uQ:cT ["self","dose","response","weight","bound"] ["self","dose","response","weight","bound"] (cJ pI):=gJ
theorem DH(T:Txt K mg A)(D:o7 K mg "Reading" "Reading.__init__" A.CR pI ["self","dose","response","weight","bound"]):GoodC P w K mg base 3 "Reading" A.CR ["self","dose","response","weight","bound"] (ym A):=by
 refine D.good uQ (fun _ _ _ _ h=>?_) (fun _ _ _ _ _ H _ Q _ hr h=>?_)
 ·obtain⟨p,dx,x,rfl,_⟩:=h;rfl
 ·obtain⟨p,dx,x,rfl,hp,k⟩:=h
  have nd:=uQ.nd
  refine⟨_,(cg (e8 (pv 0) (pv 1) rfl)
   (cg (e8 (pv 0) (pv 2) rfl)
   (cg (e8 (pv 0) (pv 3) rfl)
   (cE (e8 (pv 0) (pv 4) rfl))))),?_⟩
  refine⟨_,rfl,_,rfl,p,A.CR,dx,_,rfl,hp,T.cR,T.jR,(by show 0<1000;decide),?_⟩
  refine⟨_,rfl,_,rfl,p,A.CR,dx,_,rfl,cA,T.cR,T.iF,(by show 1<1000;decide),?_⟩
  refine⟨_,rfl,_,rfl,p,A.CR,dx,_,rfl,cA,T.cR,T.lC,(by show 2<1000;decide),?_⟩
  refine⟨_,rfl,_,rfl,p,A.CR,dx,_,rfl,cA,T.cR,T.pC,(by show 3<1000;decide),?_⟩
  exact k _ ⟨dx,cA⟩ fun x o e hx=>by rw[cV hx,cV hx,cV hx,cV hx];exact e
def yo(A:gY):Sp:=fun vs H Q _=>∃(p dx:Addr)(x:Vblaaf.Control),vs=[.ref p,.int x.dose,.int x.response,.int x.weight]/\H p=some (.ins A.CO dx [])/\ ∀H':Hp,Ce A H' p x->jn p H H'->Q .f6 H'
abbrev pJ:Stmt:=inClass (top 32) 0
theorem uR:cT ["self","dose","response","weight"] ["self","dose","response","weight"] (cJ pJ):=gJ
theorem DI(T:Txt K mg A)(D:o7 K mg "Control" "Control.__init__" A.CO pJ ["self","dose","response","weight"]):GoodC P w K mg base 3 "Control" A.CO ["self","dose","response","weight"] (yo A):=by
 refine D.good uR (fun _ _ _ _ h=>?_) (fun _ _ _ _ _ H _ Q _ hr h=>?_)
 ·obtain⟨p,dx,x,rfl,_⟩:=h;rfl
 ·obtain⟨p,dx,x,rfl,hp,k⟩:=h
  have nd:=uR.nd
  refine⟨_,(cg (e8 (pv 0) (pv 1) rfl)
   (cg (e8 (pv 0) (pv 2) rfl)
   (cE (e8 (pv 0) (pv 3) rfl)))),?_⟩
  refine⟨_,rfl,_,rfl,p,A.CO,dx,_,rfl,hp,T.cO,T.yi,(by show 0<1000;decide),?_⟩
  refine⟨_,rfl,_,rfl,p,A.CO,dx,_,rfl,cA,T.cO,T.nh,(by show 1<1000;decide),?_⟩
  refine⟨_,rfl,_,rfl,p,A.CO,dx,_,rfl,cA,T.cO,T.oH,(by show 2<1000;decide),?_⟩
  exact k _ ⟨dx,cA⟩ fun x o e hx=>by rw[cV hx,cV hx,cV hx];exact e
theorem Jc{H:Hp}{x:Point}{i1 i2 i3 i4:Int}{Q:VK}(e1:i1=x.dose)(e2:i2=x.response)(e3:i3=x.weight)(e4:i4=x.bound)(k:∀(H':Hp)(p:Addr),vn A H' p x->cK H H'->Q (.ref p) H'):
  ∀q dx,H q=none->H dx=none->dx≠q->ym A (.ref q::([V.int i1,V.int i2,V.int i3,V.int i4]++[])) (L2.upd (L2.upd H dx (.own q)) q (.ins A.CR dx [])) (fun v H2=>v= .f6/\Q (.ref q) H2) E0:=by
 subst e1 e2 e3 e4
 exact fun q dx nx kK ne=>⟨q,dx,x,rfl,cA,fun H' hF kp=>⟨rfl,k H' q hF (cK.made nx kK kp)⟩⟩
theorem Jd{H:Hp}{x:Vblaaf.Control}{i1 i2 i3:Int}{Q:VK}(e1:i1=x.dose)(e2:i2=x.response)(e3:i3=x.weight)(k:∀(H':Hp)(p:Addr),Ce A H' p x->cK H H'->Q (.ref p) H'):
  ∀q dx,H q=none->H dx=none->dx≠q->yo A (.ref q::([V.int i1,V.int i2,V.int i3]++[])) (L2.upd (L2.upd H dx (.own q)) q (.ins A.CO dx [])) (fun v H2=>v= .f6/\Q (.ref q) H2) E0:=by
 subst e1 e2 e3
 exact fun q dx nx kK ne=>⟨q,dx,x,rfl,cA,fun H' hF kp=>⟨rfl,k H' q hF (cK.made nx kK kp)⟩⟩
def qB(A:gY):Sp:=fun vs H Q _=>∃(a:Addr)(c:Vblaaf.Control),vs=[.ref a]/\(Ce A H a c∨ ∃p,vn A H a p/\c=⟨p.dose,p.response,p.weight⟩)/\Q (.bl (Vblaaf.okControl c)) H
abbrev um:Stmt:=top 39
theorem yZ:cT ["control"] ["control"] (cJ um):=gJ
theorem Gw(T:Txt K mg A)(D:Def K mg "is_control" um ["control"])(jS:Good P w K mg base 3 "is_dose" ["number"] (pH sQ))(gj:Good P w K mg base 3 "is_response" ["number"] (pH dZ))(wL:Good P w K mg base 3 "is_weight" ["number"] (pH Br)):Good P w K mg base 4 "is_control" ["control"] (qB A):=by
 refine D.good yZ (fun _ _ _ _ h=>?_) (fun _ _ _ _ _ H _ Q _ hr h=>?_)
 ·obtain⟨a,c,rfl,_⟩:=h;rfl
 ·obtain⟨a,c,rfl,hor,k⟩:=h
  have e:Vblaaf.okControl c=(sQ c.dose&&(dZ c.response&&Br c.weight)):=rfl
  rw[e]at k
  have nd:=yZ.nd
  refine⟨_,(cE (cM (Ej (dF jS hr (b9 (cH (pv 0) rfl) cz)) (Ej (dF gj hr (b9 (cH (pv 0) rfl) cz)) (HZ (dF wL hr (b9 (cH (pv 0) rfl) cz))))))),?_⟩
  rcases hor with ⟨da,ha⟩ | ⟨p,⟨da,ha⟩,rfl⟩
  ·refine⟨_,rfl,a,A.CO,da,_,_,rfl,ha,T.cO,T.yi,A7 c,c.dose,rfl,_,rfl,?_⟩
   cases h1:sQ c.dose with
   |false=>rw[h1]at k;exact dR k
   |true=>
    rw[h1,Bool.true_and]at k
    refine dI ⟨_,rfl,a,A.CO,da,_,_,rfl,ha,T.cO,T.nh,tY c,c.response,rfl,_,rfl,?_⟩
    cases h2:dZ c.response with
    |false=>rw[h2]at k;exact dR k
    |true=>
     rw[h2,Bool.true_and]at k
     exact dI ⟨_,rfl,a,A.CO,da,_,_,rfl,ha,T.cO,T.oH,tZ c,c.weight,rfl,k⟩
  ·refine⟨_,rfl,a,A.CR,da,_,_,rfl,ha,T.cR,T.jR,jJ p,p.dose,rfl,_,rfl,?_⟩
   cases h1:sQ p.dose with
   |false=>rw[h1]at k;exact dR k
   |true=>
    rw[h1,Bool.true_and]at k
    refine dI ⟨_,rfl,a,A.CR,da,_,_,rfl,ha,T.cR,T.iF,i7 p,p.response,rfl,_,rfl,?_⟩
    cases h2:dZ p.response with
    |false=>rw[h2]at k;exact dR k
    |true=>
     rw[h2,Bool.true_and]at k
     exact dI ⟨_,rfl,a,A.CR,da,_,_,rfl,ha,T.cR,T.lC,lY p,p.weight,rfl,k⟩
def wM(A:gY):Sp:=fun vs H Q _=>∃(a:Addr)(p:Point),vs=[.ref a]/\vn A H a p/\Q (.bl (Vblaaf.okPoint p)) H
theorem Mz(p:Point):Vblaaf.okPoint p=(Vblaaf.okControl ⟨p.dose,p.response,p.weight⟩&&Ft p.bound):=by
 show (sQ p.dose&&(dZ p.response&&(Br p.weight&&Ft p.bound)))=(sQ p.dose&&(dZ p.response&&Br p.weight)&&Ft p.bound)
 rw[Bool.and_assoc,Bool.and_assoc]
abbrev uo:Stmt:=top 40
theorem y9:cT ["reading"] ["reading"] (cJ uo):=gJ
theorem Gx(T:Txt K mg A)(D:Def K mg "is_reading" uo ["reading"])(gR:Good P w K mg base 4 "is_control" ["control"] (qB A))(An:Good P w K mg base 3 "is_bound" ["number"] (pH Ft)):Good P w K mg base 5 "is_reading" ["reading"] (wM A):=by
 refine D.good y9 (fun _ _ _ _ h=>?_) (fun _ _ _ _ _ H _ Q _ hr h=>?_)
 ·obtain⟨a,p,rfl,_⟩:=h;rfl
 ·obtain⟨a,p,rfl,⟨da,ha⟩,k⟩:=h
  rw[Mz]at k
  have nd:=y9.nd
  refine⟨_,(cE (cM (Ej (dF gR hr (b9 (pv 0) cz)) (HZ (dF An hr (b9 (cH (pv 0) rfl) cz)))))),?_⟩
  refine⟨_,rfl,a,_,rfl,.inr ⟨p,⟨da,ha⟩,rfl⟩,_,rfl,?_⟩
  cases h1:Vblaaf.okControl ⟨p.dose,p.response,p.weight⟩with
  |false=>rw[h1]at k;exact dR k
  |true=>
   rw[h1,Bool.true_and]at k
   exact dI ⟨_,rfl,a,A.CR,da,_,_,rfl,ha,T.cR,T.pC,sF p,p.bound,rfl,k⟩
def NH(A:gY):Sp:=fun vs H Q _=>∃(a:Addr)(p:Point)(f g:Int),vs=[.ref a,.int f,.int g]/\vn A H a p/\Rc.J6 p/\1≤f/\f≤1000/\ ∀(H':Hp)(q:Addr),vn A H' q (Vblaaf.turnPoint f g p)->cK H H'->Q (.ref q) H'
abbrev mh:Stmt:=top 41
theorem qC:cT ["reading","factor","added"] ["reading","factor","added"] (cJ mh):=gJ
theorem Bu(T:Txt K mg A)(D:Def K mg "turned_reading" mh ["reading","factor","added"])(oM:GoodC P w K mg base 3 "Reading" A.CR ["self","dose","response","weight","bound"] (ym A)):Good P w K mg base 5 "turned_reading" ["reading","factor","added"] (NH A):=by
 refine D.good qC (fun _ _ _ _ h=>?_) (fun _ _ _ _ _ H _ Q _ hr h=>?_)
 ·obtain⟨a,p,f,g,rfl,_⟩:=h;rfl
 ·obtain⟨a,p,f,g,rfl,⟨da,ha⟩,gp,f0,f1,k⟩:=h
  have lf:Lit f:=.of (n:=40) (by omega) (by decide)
  have lr:Lit p.response:=.of (n:=40) (by have:=gp.r0;have:=gp.r1;omega) (by decide)
  have lb:Lit p.bound:=.of (n:=40) (by have:=gp.b0;have:=gp.b1;omega) (by decide)
  have nd:=qC.nd
  refine⟨_,(cE (cM (jY oM hr (b9 (cH (pv 0) rfl) (b9 (dJ iN (dJ eY (pv 1) (cH (pv 0) rfl)) (pv 2)) (b9 (cH (pv 0) rfl) (b9 (dJ eY (pv 1) (cH (pv 0) rfl)) cz))))))),?_⟩
  refine⟨_,rfl,a,A.CR,da,_,_,rfl,ha,T.cR,T.jR,jJ p,_,rfl,_,rfl,a,A.CR,da,_,_,rfl,ha,T.cR,T.iF,i7 p,_,_,rfl,rfl,⟨lf,lr⟩,_,rfl,_,_,rfl,rfl,_,rfl,a,A.CR,da,_,_,rfl,ha,T.cR,T.lC,lY p,_,rfl,_,rfl,a,A.CR,da,_,_,rfl,ha,T.cR,T.pC,sF p,_,_,rfl,rfl,⟨lf,lb⟩,?_⟩
  exact Jc (x:=Vblaaf.turnPoint f g p) rfl rfl rfl rfl k
def NI(A:gY):Sp:=fun vs H Q _=>∃(a:Addr)(p:Vblaaf.Control)(f g:Int),vs=[.ref a,.int f,.int g]/\Ce A H a p/\Rc.GoodC p/\1≤f/\f≤1000/\ ∀(H':Hp)(q:Addr),Ce A H' q (Vblaaf.turnControl f g p)->cK H H'->Q (.ref q) H'
abbrev mj:Stmt:=top 42
theorem qD:cT ["control","factor","added"] ["control","factor","added"] (cJ mj):=gJ
theorem Bv(T:Txt K mg A)(D:Def K mg "turned_control" mj ["control","factor","added"])(oN:GoodC P w K mg base 3 "Control" A.CO ["self","dose","response","weight"] (yo A)):Good P w K mg base 5 "turned_control" ["control","factor","added"] (NI A):=by
 refine D.good qD (fun _ _ _ _ h=>?_) (fun _ _ _ _ _ H _ Q _ hr h=>?_)
 ·obtain⟨a,p,f,g,rfl,_⟩:=h;rfl
 ·obtain⟨a,p,f,g,rfl,⟨da,ha⟩,gp,f0,f1,k⟩:=h
  have lf:Lit f:=.of (n:=40) (by omega) (by decide)
  have lr:Lit p.response:=.of (n:=40) (by have:=gp.r0;have:=gp.r1;omega) (by decide)
  have nd:=qD.nd
  refine⟨_,(cE (cM (jY oN hr (b9 (cH (pv 0) rfl) (b9 (dJ iN (dJ eY (pv 1) (cH (pv 0) rfl)) (pv 2)) (b9 (cH (pv 0) rfl) cz)))))),?_⟩
  refine⟨_,rfl,a,A.CO,da,_,_,rfl,ha,T.cO,T.yi,A7 p,_,rfl,_,rfl,a,A.CO,da,_,_,rfl,ha,T.cO,T.nh,tY p,_,_,rfl,rfl,⟨lf,lr⟩,_,rfl,_,_,rfl,rfl,_,rfl,a,A.CO,da,_,_,rfl,ha,T.cO,T.oH,tZ p,?_⟩
  exact Jd (x:=Vblaaf.turnControl f g p) rfl rfl rfl k
def K3(A:gY)(g:Point->Int):Sp:=fun vs H Q _=>∃(a:Addr)(p:Point),vs=[.ref a]/\vn A H a p/\Q (.int (g p)) H
abbrev wN:Stmt:=top 130
theorem Bw:cT ["reading"] ["reading"] (cJ wN):=gJ
theorem Je(T:Txt K mg A)(D:Def K mg "lowest_of" wN ["reading"]):Good P w K mg base 3 "lowest_of" ["reading"] (K3 A fun p=>p.response-p.bound):=by
 refine D.good Bw (fun _ _ _ _ h=>?_) (fun _ _ _ _ _ H _ Q _ hr h=>?_)
 ·obtain⟨a,p,rfl,_⟩:=h;rfl
 ·obtain⟨a,p,rfl,⟨da,ha⟩,k⟩:=h
  have nd:=Bw.nd
  refine⟨_,(cE (cM (dJ oS (cH (pv 0) rfl) (cH (pv 0) rfl)))),?_⟩
  exact⟨_,rfl,a,A.CR,da,_,_,rfl,ha,T.cR,T.iF,i7 p,_,rfl,a,A.CR,da,_,_,rfl,ha,T.cR,T.pC,sF p,_,_,rfl,rfl,k⟩
abbrev uq:Stmt:=top 131
theorem zd:cT ["reading"] ["reading"] (cJ uq):=gJ
theorem Gy(T:Txt K mg A)(D:Def K mg "highest_of" uq ["reading"]):Good P w K mg base 3 "highest_of" ["reading"] (K3 A fun p=>p.response+p.bound):=by
 refine D.good zd (fun _ _ _ _ h=>?_) (fun _ _ _ _ _ H _ Q _ hr h=>?_)
 ·obtain⟨a,p,rfl,_⟩:=h;rfl
 ·obtain⟨a,p,rfl,⟨da,ha⟩,k⟩:=h
  have nd:=zd.nd
  refine⟨_,(cE (cM (dJ iN (cH (pv 0) rfl) (cH (pv 0) rfl)))),?_⟩
  exact⟨_,rfl,a,A.CR,da,_,_,rfl,ha,T.cR,T.iF,i7 p,_,rfl,a,A.CR,da,_,_,rfl,ha,T.cR,T.pC,sF p,_,_,rfl,rfl,k⟩
def WK(p q:Point):Bool:=decide (p.dose≤q.dose)&&decide (q.response+q.bound<p.response-p.bound)
theorem NJ{p q:Point}:WK p q=true↔Rc.Cl p q:=by unfold WK Rc.Cl;simp
def HL(A:gY):Sp:=fun vs H Q _=>∃(a b:Addr)(p q:Point),vs=[.ref a,.ref b]/\vn A H a p/\vn A H b q/\Q (.bl (WK p q)) H
abbrev Cv:Stmt:=top 132
theorem Fy:cT ["one","other"] ["one","other"] (cJ Cv):=gJ
theorem MA(T:Txt K mg A)(D:Def K mg "clashes" Cv ["one","other"])(gT:Good P w K mg base 3 "highest_of" ["reading"] (K3 A fun p=>p.response+p.bound))(iG:Good P w K mg base 3 "lowest_of" ["reading"] (K3 A fun p=>p.response-p.bound)):Good P w K mg base 4 "clashes" ["one","other"] (HL A):=by
 refine D.good Fy (fun _ _ _ _ h=>?_) (fun _ _ _ _ _ H _ Q _ hr h=>?_)
 ·obtain⟨a,b,p,q,rfl,_⟩:=h;rfl
 ·obtain⟨a,b,p,q,rfl,⟨da,ha⟩,⟨db,hb⟩,k⟩:=h
  unfold WK at k
  have nd:=Fy.nd
  refine⟨_,(cE (cM (Ej (DV gU (cH (pv 0) rfl) (cH (pv 1) rfl) (dQ _)) (HZ (DV vA (dF gT hr (b9 (pv 1) cz)) (dF iG hr (b9 (pv 0) cz)) (dQ _)))))),?_⟩
  refine⟨_,rfl,a,A.CR,da,_,_,rfl,ha,T.cR,T.jR,jJ p,_,rfl,b,A.CR,db,_,_,rfl,hb,T.cR,T.jR,jJ q,_,_,rfl,rfl,_,rfl,?_⟩
  by_cases h1:p.dose≤q.dose
  ·rw[aX h1,Bool.true_and]at k
   rw[aX h1]
   exact dI ⟨_,rfl,b,q,rfl,⟨db,hb⟩,_,rfl,a,p,rfl,⟨da,ha⟩,_,_,rfl,rfl,k⟩
  ·rw[aW h1,Bool.false_and]at k
   rw[aW h1]
   exact dR k
def QW(H:Hp)(v:V):Option (Nat×Nat)->Prop
 |none=>v= .f6
 |some (i,j)=>∃q,v= .ref q/\H q=some (.lst [.int (i:Nat),.int (j:Nat)])
def NK(A:gY):Sp:=fun vs H Q _=>∃(l:Addr)(ps:List Point),vs=[.ref l]/\fV (vn A) H l ps/\ ∀(H':Hp)(v:V),QW H' v (Vblaaf.clash ps)->cK H H'->Q v H'
abbrev qV:Stmt:=top 133
theorem wO:cT ["readings","number","one","other_number","other"] ["readings"] (cJ qV):=gJ
theorem Fz(T:Txt K mg A)(D:Def K mg "first_clash" qV ["readings"])(Cw:Good P w K mg base 4 "clashes" ["one","other"] (HL A)):Good P w K mg base 5 "first_clash" ["readings"] (NK A):=by
 refine D.good wO (fun _ _ _ _ h=>?_) (fun _ _ _ _ _ H _ Q _ hr h=>?_)
 ·obtain⟨l,ps,rfl,_⟩:=h;rfl
 ·obtain⟨l,ps,rfl,⟨as,hl,hps⟩,k⟩:=h
  have nd:=wO.nd
  refine⟨_,(cg (iJ PassesOwn.never rfl (AV rfl T.enumerate (b9 (pv 0) cz)) (zN rfl (iD (qu 1 nd) (iD (qu 2 nd) tM))) (cE (iJ PassesOwn.never rfl (AV rfl T.enumerate (b9 (pv 0) cz)) (zN rfl (iD (qu 3 nd) (iD (qu 4 nd) tM))) (cE (dU (gP (dF Cw hr (b9 (pv 2) (b9 (pv 4) cz)))) (cE (cM (dc (b9 (pv 1) (b9 (pv 3) cz))))) cY)))))
    (cE (cM fK))),?_⟩
  refine⟨_,rfl,l,_,rfl,dG.of hl,vW (K:=K) (a:=l) (xs:=as.map V.ref) (fun i σ H'=>∃v1 v2 v3 v4:Option V,σ=[some (.ref l),v1,v2,v3,v4]/\cK H H'/\ ∀(j m:Nat)(p q:Point),j<i->ps[j]?=some p->ps[m]?=some q-> ¬Rc.Cl p q)
   ⟨none,none,none,none,rfl,cK.refl _,by intro j m p q hj;omega⟩ (fun i σ H' _ ⟨_,_,_,_,_,s,_⟩=>dG.of (s _ _ hl)) ?_ ?_⟩
  ·rintro i y Tp σ H' hi QT ⟨v1,v2,v3,v4,rfl,s,hall⟩
   obtain⟨a,ia,rfl⟩:=f7 hi
   obtain⟨p,ip,hap⟩:=hps.get' ia
   have s1:cK H (L2.upd H' Tp (.tup [.int (i:Nat),V.ref a])):=s.trans (cK.upd QT)
   refine⟨Tp,_,rfl,Jr.of cA,rfl,_,_,rfl,_,_,rfl,rfl,?_⟩
   refine⟨_,rfl,l,_,rfl,dG.of (s1 _ _ hl),vW (K:=K) (a:=l) (xs:=as.map V.ref) (fun n σ H2=>∃v3 v4:Option V,σ=[some (.ref l),some (.int (i:Nat)),some (.ref a),v3,v4]/\cK H H2/\ ∀(m:Nat)(q:Point),m<n->ps[m]?=some q-> ¬Rc.Cl p q)
    ⟨_,_,rfl,s1,by intro m q hm;omega⟩ (fun i σ H2 _ ⟨_,_,_,s,_⟩=>dG.of (s _ _ hl)) ?_ ?_⟩
   ·rintro n y Tq σ H2 hn hTq ⟨v3,v4,rfl,s2,hin⟩
    obtain⟨b,ib,rfl⟩:=f7 hn
    obtain⟨q,iq,hbq⟩:=hps.get' ib
    have s3:cK H (L2.upd H2 Tq (.tup [.int (n:Nat),V.ref b])):=s2.trans (cK.upd hTq)
    refine⟨Tq,_,rfl,Jr.of cA,rfl,_,_,rfl,_,_,rfl,rfl,?_⟩
    refine⟨_,rfl,_,rfl,a,b,p,q,rfl,hap.same s3,hbq.same s3,_,rfl,?_⟩
    cases hc:WK p q with
    |true=>
     refine dI ?_
     have e:=Rc.LR ip iq (NJ.mp hc) hall hin
     rw[e]at k
     exact⟨_,rfl,_,rfl,(by show 2≤sizeLine;rw[sizeLine_eq];decide),fun r hr=>k _ _ ⟨r,rfl,cA⟩ (s3.trans (cK.upd hr))⟩
    |false=>
     refine dR ⟨_,_,rfl,s3,fun m x hm hx=>?_⟩
     by_cases e:m=n
     ·subst e
      rw[iq]at hx;cases hx
      intro z;rw[NJ.mpr z]at hc;cases hc
     ·exact hin m x (by omega) hx
   ·rintro σ H2 ⟨v3,v4,rfl,s2,hin⟩
    refine⟨_,_,_,_,rfl,s2,fun j m x y hj hx hy=>?_⟩
    by_cases e:j=i
    ·subst e
     rw[ip]at hx;cases hx
     exact hin m y (by rw[aa,hps.len];exact(af.mp hy).1) hy
    ·exact hall j m x y (by omega) hx hy
  ·rintro σ H' ⟨v1,v2,v3,v4,rfl,s,hall⟩
   have e:Vblaaf.clash ps=none:=Rc.LQ fun p hp q hq=>by
    obtain⟨i,hi,ei⟩:=List.mem_iff_getElem.mp hp
    obtain⟨j,hj,ej⟩:=List.mem_iff_getElem.mp hq
    exact hall i j p q (by rw[aa,hps.len];exact hi) (by rw[ah hi,ei]) (by rw[ah hj,ej])
   rw[e]at k
   exact k H' .f6 rfl s
def oV:Option Int->V
 |none=>.f6
 |some n=>.int n
def yp(A:gY)(g:List Point->Int->Option Int):Sp:=fun vs H Q _=>∃(l:Addr)(ps:List Point)(x:Int),vs=[.ref l,.int x]/\fV (vn A) H l ps/\ps.length≤40/\ ∀H':Hp,cK H H'->Q (oV (g ps x)) H'
abbrev qW:Stmt:=top 134
theorem wQ:cT ["readings","dose","reading"] ["readings","dose"] (cJ qW):=gJ
theorem FA(T:Txt K mg A)(D:Def K mg "lower_bound" qW ["readings","dose"])(iG:Good P w K mg base 3 "lowest_of" ["reading"] (K3 A fun p=>p.response-p.bound)):Good P w K mg base 4 "lower_bound" ["readings","dose"] (yp A Vblaaf.lowAt):=by
 refine D.good wQ (fun _ _ _ _ h=>?_) (fun _ _ _ _ _ H _ Q _ hr h=>?_)
 ·obtain⟨l,ps,x,rfl,_⟩:=h;rfl
 ·obtain⟨l,ps,x,rfl,⟨as,hl,hps⟩,Zj,k⟩:=h
  have nd:=wQ.nd
  refine⟨_,(cE (cM (Nj rfl rfl T.max (b9 (qm rfl nd (fL (pv 0)) (own:=[("reading",2)]) (gK (by kernel_rfl)) (fun _ _ _ _ _=>qu 2 nd) (fun _ _ _ _ _=>(AO (dw gU (tV (K:=K) rfl (cH (pv 2) rfl)) (pv 1) (dQ _)))) (fun _ _ _ _ _=>(dF iG hr (b9 (pv 2) cz)))) cz) fK))),?_⟩
  refine⟨_,rfl,l,rfl,⟨_,dG.of hl⟩,fun D hD=>iM (K:=K) (a:=l) (xs:=as.map V.ref) (fun i H'=>cK H H'/\H' D=some (.lst ((((ps.take i).filter fun p=>decide (p.dose≤x)).map fun p=>p.response-p.bound).map V.int)))
   ⟨cK.upd hD,cA⟩ (fun i H' _ ⟨s,_⟩=>dG.of (s _ _ hl)) ?_ ?_⟩
  ·rintro i y H' hy ⟨s,wR⟩
   obtain⟨a,ia,rfl⟩:=f7 hy
   obtain⟨p,ip,hap⟩:=hps.get' ia
   obtain⟨da,ha⟩:=hap.same s
   refine⟨rfl,?_⟩
   refine⟨_,rfl,a,A.CR,da,_,_,rfl,ha,T.cR,T.jR,jJ p,_,rfl,_,_,rfl,rfl,_,rfl,?_⟩
   rw[Rc.di ip,List.filter_append,ay,ay]
   by_cases hd:p.dose≤x
   ·rw[bN,aX hd,bA rfl,List.filter_nil]
    refine dI ⟨_,rfl,a,p,rfl,⟨da,ha⟩,_,wR,dO ?_,cK.fU s hD,?_⟩
    ·rw[aa,aa]
     have h1:=List.length_filter_le (fun p:Point=>decide (p.dose≤x)) (ps.take i)
     rw[aJ]at h1
     omega
    ·rw[cA];rfl
   ·rw[bN,aW hd,bz (by decide),List.filter_nil]
    refine dR ⟨s,?_⟩
    rw[wR];simp
  ·rintro H' ⟨s,wR⟩
   rw[aa,hps.len,aK]at wR
   refine⟨D,_,rfl,dG.of wR,?_,?_⟩
   ·intro e
    have:Vblaaf.lowAt ps x=none:=by unfold Vblaaf.lowAt;rw[e];rfl
    rw[this]at k
    exact k H' s
   ·intro m hm hle
    have:Vblaaf.lowAt ps x=some m:=Rc.C3 hm hle
    rw[this]at k
    exact k H' s
abbrev qX:Stmt:=top 135
theorem wU:cT ["readings","dose","reading"] ["readings","dose"] (cJ qX):=gJ
theorem FD(T:Txt K mg A)(D:Def K mg "upper_bound" qX ["readings","dose"])(gT:Good P w K mg base 3 "highest_of" ["reading"] (K3 A fun p=>p.response+p.bound)):Good P w K mg base 4 "upper_bound" ["readings","dose"] (yp A Vblaaf.highAt):=by
 refine D.good wU (fun _ _ _ _ h=>?_) (fun _ _ _ _ _ H _ Q _ hr h=>?_)
 ·obtain⟨l,ps,x,rfl,_⟩:=h;rfl
 ·obtain⟨l,ps,x,rfl,⟨as,hl,hps⟩,Zj,k⟩:=h
  have nd:=wU.nd
  refine⟨_,(cE (cM (Nk rfl rfl T.min (b9 (qm rfl nd (fL (pv 0)) (own:=[("reading",2)]) (gK (by kernel_rfl)) (fun _ _ _ _ _=>qu 2 nd) (fun _ _ _ _ _=>(AO (dw MV (tV (K:=K) rfl (cH (pv 2) rfl)) (pv 1) (dQ _)))) (fun _ _ _ _ _=>(dF gT hr (b9 (pv 2) cz)))) cz) fK))),?_⟩
  refine⟨_,rfl,l,rfl,⟨_,dG.of hl⟩,fun D hD=>iM (K:=K) (a:=l) (xs:=as.map V.ref) (fun i H'=>cK H H'/\H' D=some (.lst ((((ps.take i).filter fun p=>decide (x≤p.dose)).map fun p=>p.response+p.bound).map V.int)))
   ⟨cK.upd hD,cA⟩ (fun i H' _ ⟨s,_⟩=>dG.of (s _ _ hl)) ?_ ?_⟩
  ·rintro i y H' hy ⟨s,wR⟩
   obtain⟨a,ia,rfl⟩:=f7 hy
   obtain⟨p,ip,hap⟩:=hps.get' ia
   obtain⟨da,ha⟩:=hap.same s
   refine⟨rfl,?_⟩
   refine⟨_,rfl,a,A.CR,da,_,_,rfl,ha,T.cR,T.jR,jJ p,_,rfl,_,_,rfl,rfl,_,rfl,?_⟩
   rw[Rc.di ip,List.filter_append,ay,ay]
   by_cases hd:x≤p.dose
   ·rw[bN,aX hd,bA rfl,List.filter_nil]
    refine dI ⟨_,rfl,a,p,rfl,⟨da,ha⟩,_,wR,dO ?_,cK.fU s hD,?_⟩
    ·rw[aa,aa]
     have h1:=List.length_filter_le (fun p:Point=>decide (x≤p.dose)) (ps.take i)
     rw[aJ]at h1
     omega
    ·rw[cA];rfl
   ·rw[bN,aW hd,bz (by decide),List.filter_nil]
    refine dR ⟨s,?_⟩
    rw[wR];simp
  ·rintro H' ⟨s,wR⟩
   rw[aa,hps.len,aK]at wR
   refine⟨D,_,rfl,dG.of wR,?_,?_⟩
   ·intro e
    have:Vblaaf.highAt ps x=none:=by unfold Vblaaf.highAt;rw[e];rfl
    rw[this]at k
    exact k H' s
   ·intro m hm hle
    have:Vblaaf.highAt ps x=some m:=Rc.J8 hm hle
    rw[this]at k
    exact k H' s
def NL(A:gY)(g:List Point->Int->Int):Sp:=fun vs H Q _=>∃(l:Addr)(ps:List Point)(x:Int),vs=[.ref l,.int x]/\fV (vn A) H l ps/\ps.length≤40/\ ∀H':Hp,cK H H'->Q (.int (g ps x)) H'
abbrev mq:Stmt:=top 136
theorem qE:cT ["readings","low","reading"] ["readings","low"] (cJ mq):=gJ
theorem Bx(T:Txt K mg A)(D:Def K mg "first_reaching" mq ["readings","low"])(gT:Good P w K mg base 3 "highest_of" ["reading"] (K3 A fun p=>p.response+p.bound)):Good P w K mg base 4 "first_reaching" ["readings","low"] (NL A Rc.zZ):=by
 refine D.good qE (fun _ _ _ _ h=>?_) (fun _ _ _ _ _ H _ Q _ hr h=>?_)
 ·obtain⟨l,ps,x,rfl,_⟩:=h;rfl
 ·obtain⟨l,ps,x,rfl,⟨as,hl,hps⟩,Zj,k⟩:=h
  have nd:=qE.nd
  refine⟨_,(cE (cM (Nj rfl rfl T.max (b9 (qm rfl nd (fL (pv 0)) (own:=[("reading",2)]) (gK (by kernel_rfl)) (fun _ _ _ _ _=>qu 2 nd) (fun _ _ _ _ _=>(AO (dw vA (dF gT hr (b9 (pv 2) cz)) (pv 1) (dQ _)))) (fun _ _ _ _ _=>(dJ iN (tV (K:=K) rfl (cH (pv 2) rfl)) cN))) cz) cN))),?_⟩
  refine⟨_,rfl,l,rfl,⟨_,dG.of hl⟩,fun D hD=>iM (K:=K) (a:=l) (xs:=as.map V.ref) (fun i H'=>cK H H'/\H' D=some (.lst ((((ps.take i).filter fun p=>decide (p.response+p.bound<x)).map fun p=>p.dose+1).map V.int)))
   ⟨cK.upd hD,cA⟩ (fun i H' _ ⟨s,_⟩=>dG.of (s _ _ hl)) ?_ ?_⟩
  ·rintro i y H' hy ⟨s,wR⟩
   obtain⟨a,ia,rfl⟩:=f7 hy
   obtain⟨p,ip,hap⟩:=hps.get' ia
   obtain⟨da,ha⟩:=hap.same s
   refine⟨rfl,?_⟩
   refine⟨_,rfl,a,p,rfl,⟨da,ha⟩,_,rfl,_,_,rfl,rfl,_,rfl,?_⟩
   rw[Rc.di ip,List.filter_append,ay,ay]
   by_cases hd:p.response+p.bound<x
   ·rw[bN,aX hd,bA rfl,List.filter_nil]
    refine dI ⟨_,rfl,a,A.CR,da,_,_,rfl,ha,T.cR,T.jR,jJ p,_,_,rfl,rfl,_,wR,dO ?_,cK.fU s hD,?_⟩
    ·rw[aa,aa]
     have h1:=List.length_filter_le (fun p:Point=>decide (p.response+p.bound<x)) (ps.take i)
     rw[aJ]at h1
     omega
    ·rw[cA];rfl
   ·rw[bN,aW hd,bz (by decide),List.filter_nil]
    refine dR ⟨s,?_⟩
    rw[wR];simp
  ·rintro H' ⟨s,wR⟩
   rw[aa,hps.len,aK]at wR
   refine⟨D,_,rfl,dG.of wR,?_,?_⟩
   ·intro e
    have:Rc.zZ ps x=0:=by unfold Rc.zZ;rw[e];rfl
    rw[this]at k
    exact k H' s
   ·intro m hm hle
    have:Rc.zZ ps x=m:=by unfold Rc.zZ;rw[Rc.C3 hm hle];rfl
    rw[this]at k
    exact k H' s
abbrev pK:Stmt:=top 137
theorem uS:cT ["readings","high","reading"] ["readings","high"] (cJ pK):=gJ
theorem DJ(T:Txt K mg A)(D:Def K mg "last_keeping" pK ["readings","high"])(iG:Good P w K mg base 3 "lowest_of" ["reading"] (K3 A fun p=>p.response-p.bound)):Good P w K mg base 4 "last_keeping" ["readings","high"] (NL A Rc.z4):=by
 refine D.good uS (fun _ _ _ _ h=>?_) (fun _ _ _ _ _ H _ Q _ hr h=>?_)
 ·obtain⟨l,ps,x,rfl,_⟩:=h;rfl
 ·obtain⟨l,ps,x,rfl,⟨as,hl,hps⟩,Zj,k⟩:=h
  have nd:=uS.nd
  refine⟨_,(cE (cM (Nk rfl rfl T.min (b9 (qm rfl nd (fL (pv 0)) (own:=[("reading",2)]) (gK (by kernel_rfl)) (fun _ _ _ _ _=>qu 2 nd) (fun _ _ _ _ _=>(AO (dw MU (dF iG hr (b9 (pv 2) cz)) (pv 1) (dQ _)))) (fun _ _ _ _ _=>(dJ oS (tV (K:=K) rfl (cH (pv 2) rfl)) cN))) cz) (dB rfl T.Ck)))),?_⟩
  refine⟨_,rfl,l,rfl,⟨_,dG.of hl⟩,fun D hD=>iM (K:=K) (a:=l) (xs:=as.map V.ref) (fun i H'=>cK H H'/\H' D=some (.lst ((((ps.take i).filter fun p=>decide (x<p.response-p.bound)).map fun p=>p.dose-1).map V.int)))
   ⟨cK.upd hD,cA⟩ (fun i H' _ ⟨s,_⟩=>dG.of (s _ _ hl)) ?_ ?_⟩
  ·rintro i y H' hy ⟨s,wR⟩
   obtain⟨a,ia,rfl⟩:=f7 hy
   obtain⟨p,ip,hap⟩:=hps.get' ia
   obtain⟨da,ha⟩:=hap.same s
   refine⟨rfl,?_⟩
   refine⟨_,rfl,a,p,rfl,⟨da,ha⟩,_,rfl,_,_,rfl,rfl,_,rfl,?_⟩
   rw[Rc.di ip,List.filter_append,ay,ay]
   by_cases hd:x<p.response-p.bound
   ·rw[bN,aX hd,bA rfl,List.filter_nil]
    refine dI ⟨_,rfl,a,A.CR,da,_,_,rfl,ha,T.cR,T.jR,jJ p,_,_,rfl,rfl,_,wR,dO ?_,cK.fU s hD,?_⟩
    ·rw[aa,aa]
     have h1:=List.length_filter_le (fun p:Point=>decide (x<p.response-p.bound)) (ps.take i)
     rw[aJ]at h1
     omega
    ·rw[cA];rfl
   ·rw[bN,aW hd,bz (by decide),List.filter_nil]
    refine dR ⟨s,?_⟩
    rw[wR];simp
  ·rintro H' ⟨s,wR⟩
   rw[aa,hps.len,aK]at wR
   refine⟨D,_,rfl,dG.of wR,?_,?_⟩
   ·intro e
    have:Rc.z4 ps x=1000000:=by unfold Rc.z4;rw[e];rfl
    rw[this]at k
    exact k H' s
   ·intro m hm hle
    have:Rc.z4 ps x=m:=by unfold Rc.z4;rw[Rc.J8 hm hle];rfl
    rw[this]at k
    exact k H' s
end
end Rv
namespace Rv
open PySem PySem.Spec PyProof.Rows L2
open Vblaaf (Frac Point Block Knot lowest whole plus minus times over less mean)
open Rc (Ok Sz)
section
variable {P:Program} {w:World} {K:PySem.W.Frag} {mg:Str->Option Value} {base:Heap} {A:gY}
def iw(H:Hp)(p:Addr)(ns:List Int):Prop:=H p=some (.lst (ns.map V.int))
theorem iw.same{H H':Hp}{p:Addr}{ns:List Int}(h:iw H p ns)(s:cK H H'):iw H' p ns:=s _ _ h
theorem eL{n:Nat}(h:n≤100000):n≤sizeLine:=by rw[sizeLine_eq];omega
theorem gz{H:Hp}{a b:Addr}{ns ms:List Int}{Q:VK}(ha:iw H a ns)(hb:iw H b ms)(hl:ns.length+ms.length≤100000)(k:∀p,H p=none->Q (.ref p) (L2.upd H p (.lst ((ns++ms).map V.int)))):VZ (.ref a) (.ref b) H Q:=by
 refine⟨a,b,_,_,rfl,rfl,ha,hb,eL (by rw[aa,aa];exact hl),fun p hp=>?_⟩
 have:=k p hp
 rw[ay]at this
 exact this
def gE(A:gY){α:Type}(at_:Hp->V->α->Prop)(g:α->List Int):Sp:=fun vs H Q _=>∃(v:V)(x:α),vs=[v]/\at_ H v x/\ ∀(H':Hp)(p:Addr),iw H' p (g x)->cK H H'->Q (.ref p) H'
def ze(A:gY)(H:Hp)(v:V)(x:Frac):Prop:=∃a,v= .ref a/\mU A H a x
abbrev MB:Stmt:=top 75
theorem NN:cT ["fraction"] ["fraction"] (cJ MB):=gJ
theorem SQ(T:Txt K mg A)(D:Def K mg "told" MB ["fraction"]):Good P w K mg base 3 "told" ["fraction"] (gE A (ze A) Vblaaf.pair):=by
 refine D.good NN (fun _ _ _ _ h=>?_) (fun _ _ _ _ _ H _ Q _ hr h=>?_)
 ·obtain⟨v,x,rfl,_⟩:=h;rfl
 ·obtain⟨_,x,rfl,⟨a,rfl,da,ha⟩,k⟩:=h
  have nd:=NN.nd
  refine⟨_,(cE (cM (dc (b9 (cH (pv 0) rfl) (b9 (cH (pv 0) rfl) cz))))),?_⟩
  exact⟨_,rfl,a,A.CF,da,_,_,rfl,ha,T.cF,T.iA,gC x,_,rfl,a,A.CF,da,_,_,rfl,ha,T.cF,T.eG,eB x,eL (by show 2≤100000;decide),fun p hp=>k _ p cA (cK.upd hp)⟩
abbrev wV:Stmt:=top 76
theorem By:cT ["height"] ["height"] (cJ wV):=gJ
theorem Jf(T:Txt K mg A)(D:Def K mg "told_step" wV ["height"])(fZ:Good P w K mg base 3 "told" ["fraction"] (gE A (ze A) Vblaaf.pair)):Good P w K mg base 4 "told_step" ["height"] (gE A (Bo A) Vblaaf.flagged):=by
 refine D.good By (fun _ _ _ _ h=>?_) (fun _ _ _ _ _ H _ Q _ hr h=>?_)
 ·obtain⟨v,x,rfl,_⟩:=h;rfl
 ·obtain⟨v,x,rfl,hv,k⟩:=h
  have nd:=By.nd
  refine⟨_,(cg (dU (dw nD (pv 0) fK (dQ _)) (cE (cM (dc (b9 cN (b9 cN (b9 cN cz)))))) cY)
    (cE (cM (dJ jo (dc (b9 cN cz)) (dF fZ hr (b9 (pv 0) cz)))))),?_⟩
  cases x with
  |none=>
   cases hv
   exact⟨_,rfl,rfl,_,rfl,dI ⟨eL (by show 3≤100000;decide),fun p hp=>k _ p cA (cK.upd hp)⟩⟩
  |some f=>
   obtain⟨a,rfl,ha⟩:=hv
   refine⟨_,rfl,rfl,_,rfl,dR ⟨eL (by show 1≤100000;decide),fun p hp=>?_⟩⟩
   refine⟨_,rfl,_,f,rfl,⟨a,rfl,ha.same (cK.upd hp)⟩,fun H1 q hq s1=>?_⟩
   refine gz (ns:=[1]) (s1 _ _ cA) hq (by show 1+2≤100000;decide) fun r hr=>k _ r cA (((cK.upd hp).trans s1).trans (cK.upd hr))
abbrev ur:Stmt:=top 77
theorem zf:cT ["bound"] ["bound"] (cJ ur):=gJ
theorem Gz(T:Txt K mg A)(D:Def K mg "told_bound" ur ["bound"]):Good P w K mg base 3 "told_bound" ["bound"] (gE A (fun _ v o=>v=oV o) Vblaaf.flagInt):=by
 refine D.good zf (fun _ _ _ _ h=>?_) (fun _ _ _ _ _ H _ Q _ hr h=>?_)
 ·obtain⟨v,x,rfl,_⟩:=h;rfl
 ·obtain⟨_,x,rfl,rfl,k⟩:=h
  have nd:=zf.nd
  refine⟨_,(cg (dU (dw nD (pv 0) fK (dQ _)) (cE (cM (dc (b9 cN (b9 cN cz))))) cY)
   (cE (cM (dc (b9 cN (b9 (pv 0) cz)))))),?_⟩
  cases x with
  |none=>exact⟨_,rfl,rfl,_,rfl,dI ⟨eL (by show 2≤100000;decide),fun p hp=>k _ p cA (cK.upd hp)⟩⟩
  |some n=>exact⟨_,rfl,rfl,_,rfl,dR ⟨_,rfl,eL (by show 2≤100000;decide),fun p hp=>k _ p cA (cK.upd hp)⟩⟩
def wW(A:gY):Sp:=fun vs H Q _=>∃(a b:Addr)(ps:List Point)(r:Frac),vs=[.ref a,.ref b]/\fQ A H a ps/\Rc.eF ps/\ps≠[]/\mU A H b r/\Ask r/\
 ∀(H':Hp)(p:Addr),H p=none->iw H' p (Vblaaf.foundRow (Vblaaf.doseOf r (Vblaaf.curve ps)))->cK H H'->Q (.ref p) H'
abbrev uu:Stmt:=top 78
theorem zg:cT ["curve","response","doses"] ["curve","response"] (cJ uu):=gJ
theorem GA(T:Txt K mg A)(D:Def K mg "told_doses" uu ["curve","response"])(Ao:Good P w K mg base 4 "is_below" ["curve","response"] (IY A ug))(Aq:Good P w K mg base 4 "is_above" ["curve","response"] (IY A uh))(Ar:Good P w K mg base 7 "doses_of" ["curve","response"] (HK A))(fZ:Good P w K mg base 3 "told" ["fraction"] (gE A (ze A) Vblaaf.pair)):Good P w K mg base 8 "told_doses" ["curve","response"] (wW A):=by
 refine D.good zg (fun _ _ _ _ h=>?_) (fun _ _ _ _ _ H _ Q _ hr h=>?_)
 ·obtain⟨a,b,ps,r,rfl,_⟩:=h;rfl
 ·obtain⟨a,b,ps,r,rfl,hC,gp,ne,hb,ax,k⟩:=h
  have kn:=Rc.kh gp.pos
  obtain⟨z,hz⟩:=Cr ne
  obtain⟨z0,hz0⟩:=Ag ne
  have nd:=zg.nd
  refine⟨_,(cg (dU (gP (dF Ao hr (b9 (pv 0) (b9 (pv 1) cz)))) (cE (cM (dc (b9 cN cz)))) cY)
    (cg (dU (gP (dF Aq hr (b9 (pv 0) (b9 (pv 1) cz)))) (cE (cM (dc (b9 cN cz)))) cY)
    (cg (gi 2 nd (dF Ar hr (b9 (pv 0) (b9 (pv 1) cz))))
    (cE (cM (dJ jo (dJ jo (dc (b9 cN cz)) (dF fZ hr (b9 (dN cW (pv 2) cN (fun _ _=>rfl)) cz))) (dF fZ hr (b9 (dN cW (pv 2) cN (fun _ _=>rfl)) cz)))))))),?_⟩
  refine⟨_,rfl,_,rfl,a,b,ps,r,rfl,hC,gp,ne,hb,ax,_,rfl,?_⟩
  cases h1:ug (Rc.dh (Vblaaf.blocks ps)) r with
  |true=>
   rw[Fp hz0]at h1
   rw[Rc.Qc kn ax.ok hz0 h1]at k
   exact dI ⟨eL (by show 1≤100000;decide),fun p hp=>k _ p hp cA (cK.upd hp)⟩
  |false=>
   refine dR ⟨_,rfl,_,rfl,a,b,ps,r,rfl,hC,gp,ne,hb,ax,_,rfl,?_⟩
   cases h2:uh (Rc.dh (Vblaaf.blocks ps)) r with
   |true=>
    rw[Fo hz]at h2
    rw[Rc.Qe kn ax.ok hz h2]at k
    exact dI ⟨eL (by show 1≤100000;decide),fun p hp=>k _ p hp cA (cK.upd hp)⟩
   |false=>
    refine dR ⟨_,rfl,_,rfl,a,b,ps,r,rfl,hC,gp,ne,hb,ax,h1,h2,fun H1 q c d v w hd hq hc Oe s1=>?_⟩
    rw[hd]at k
    refine⟨eL (by show 1≤100000;decide),fun p hp=>?_⟩
    have sp:=cK.upd (o:=.lst [V.int 0]) hp
    refine⟨_,rfl,q,_,0,V.ref c,rfl,rfl,dG.of (sp _ _ hq),rfl,_,v,rfl,⟨c,rfl,hc.same sp⟩,fun H2 q2 h2' s2=>?_⟩
    refine gz (ns:=[0]) (s2 _ _ cA) h2' (by show 1+2≤100000;decide) fun r3 U7=>?_
    have s3:=cK.upd (o:=.lst (([0]++Vblaaf.pair v).map V.int)) U7
    have Jg:=(sp.trans s2).trans s3
    refine⟨_,rfl,q,_,1,V.ref d,rfl,rfl,dG.of (Jg _ _ hq),rfl,_,w,rfl,⟨d,rfl,Oe.same Jg⟩,fun H4 q4 h4 s4=>?_⟩
    refine gz (s4 _ _ cA) h4 (by show 3+2≤100000;decide) fun r5 Vy=>k _ r5 (((s1.trans Jg).trans s4).free Vy) ?_ (((s1.trans Jg).trans s4).trans (cK.upd Vy))
    show (L2.upd H4 r5 _) r5=_
    rw[cA]
    rfl
def fM(ps:List Point):List Int:=(Vblaaf.heaps ps).map (·.dose)
theorem uv{ps:List Point}(gp:Rc.eF ps){x:Int}(h:x∈fM ps):0≤x/\x≤1000000:=by
 unfold fM at h
 rw[Rc.xY]at h
 obtain⟨p,hp,e⟩:=aQ.mp h
 have g:=gp.all p hp
 subst e
 exact⟨g.d0,g.d1⟩
theorem jw(ps:List Point):(Vblaaf.curve ps).map (·.1)=fM ps:=by
 refine List.ext_getElem? fun i=>?_
 rw[aE]
 cases h:(Vblaaf.curve ps)[i]? with
 |none=>
  have:=List.getElem?_eq_none_iff.mp h
  rw[Rc.fF]at this
  unfold fM
  rw[bf (by rw[aa];exact this)];rfl
 |some k=>exact(Rc.fG h).symm
structure SR(ps qs:List Point)(ds:List Int):Prop where
 rise:ds.Pairwise (· < ·)
 mem:∀x,x∈ds↔(x∈fM ps∨x∈fM qs)/\(Vblaaf.valueAt (whole x) (Vblaaf.curve ps)).isSome=true/\(Vblaaf.valueAt (whole x) (Vblaaf.curve qs)).isSome=true
def K4(A:gY):Sp:=fun vs H Q _=>∃(a b:Addr)(ps qs:List Point),vs=[.ref a,.ref b]/\fQ A H a ps/\fQ A H b qs/\Rc.eF ps/\Rc.eF qs/\ps≠[]/\qs≠[]/\
 ∀(H':Hp)(p:Addr)(ds:List Int),SR ps qs ds->iw H' p ds->cK H H'->Q (.ref p) H'
theorem K5{ns ms:List Int}(h:ns.Pairwise (· < ·))(hm:∀x∈ns,x∈ms):ns.length≤ms.length:=by
 have hn:ns.Nodup:=h.imp fun hlt=>by omega
 exact List.Nodup.length_le_of_subset hn fun x hx=>hm x hx
def SS(ps qs:List Point)(x:Int):Bool:=(Vblaaf.valueAt (whole x) (Vblaaf.curve ps)).isSome&&(Vblaaf.valueAt (whole x) (Vblaaf.curve qs)).isSome
abbrev pL:Stmt:=top 71
theorem uT:cT ["one","other","dose"] ["one","other"] (cJ pL):=gJ
theorem DK(T:Txt K mg A)(D:Def K mg "shared_doses" pL ["one","other"])(kT:Good P w K mg base 3 "has_line" ["curve","dose"] (QU A)):Good P w K mg base 4 "shared_doses" ["one","other"] (K4 A):=by
 refine D.good uT (fun _ _ _ _ h=>?_) (fun _ _ _ _ _ H _ Q _ hr h=>?_)
 ·obtain⟨a,b,ps,qs,rfl,_⟩:=h;rfl
 ·obtain⟨a,b,ps,qs,rfl,hC,WL,gp,gq,ne,ne',k⟩:=h
  obtain⟨c,⟨da,ha⟩,hsg,hds,hws,EX,Eg⟩:=hC.ex
  obtain⟨c',⟨db,hb⟩,aaj,Zk,aak,aal,aam⟩:=WL.ex
  have l1:(fM ps).length≤40:=by unfold fM;rw[aa];exact aS (Rc.fh ps) gp.len
  have l2:(fM qs).length≤40:=by unfold fM;rw[aa];exact aS (Rc.fh qs) gq.len
  have nd:=uT.nd
  refine⟨_,(cE (cM (qm rfl nd (fL (dD (Mh rfl) (by rfl) T.sorted boot_sorted (b9 (N9 (UO rfl) (by rfl) T.set boot_set (b9 (dJ jo (cH (pv 0) rfl) (cH (pv 1) rfl)) cz)) cz))) (own:=[("dose",2)]) (gK (by kernel_rfl)) (fun _ _ _ _ _=>qu 2 nd) (fun _ _ _ _ _=>(AO (PW.pt (Lr (gP (dF kT hr (b9 (pv 0) (b9 (pv 2) cz)))) (HY (gP (dF kT hr (b9 (pv 1) (b9 (pv 2) cz))))))))) (fun _ _ _ _ _=>(pv 2))))),?_⟩
  refine⟨_,rfl,a,A.CC,da,_,_,rfl,ha,T.cC,T.jL,lB c,_,rfl,b,A.CC,db,_,_,rfl,hb,T.cC,T.jL,lB c',gz (ns:=fM ps) (ms:=fM qs) hds Zk (by omega) fun r hr1=>?_⟩
  refine⟨r,_,rfl,dG.of cA,(by rw[ao];omega),fun z hz=>?_⟩
  refine⟨z,_,rfl,cA,(by rw[ao];omega),fun ns S Nq hmem hS=>?_⟩
  have sz:=(cK.upd (o:=.lst ((fM ps++fM qs).map V.int)) hr1).trans (cK.upd (o:=OS P w z (fM ps++fM qs)) hz)
  have sS:=sz.trans (cK.upd (o:=.lst (ns.map V.int)) hS)
  have hSl:(L2.upd (L2.upd (L2.upd H r (.lst ((fM ps++fM qs).map V.int))) z (OS P w z (fM ps++fM qs))) S (.lst (ns.map V.int))) S=some (.lst (ns.map V.int)):=cA
  have nl:ns.length≤80:=by
   have:=K5 Nq (ms:=fM ps++fM qs) fun x hx=>(hmem x).mp hx
   rw[ao]at this
   omega
  refine⟨S,rfl,⟨_,dG.of hSl⟩,fun D hD=>iM (K:=K) (a:=S) (xs:=ns.map V.int) (fun i H2=>cK (L2.upd (L2.upd (L2.upd H r (.lst ((fM ps++fM qs).map V.int))) z (OS P w z (fM ps++fM qs))) S (.lst (ns.map V.int))) H2/\iw H2 D ((ns.take i).filter (SS ps qs))) ⟨cK.upd hD,cA⟩ (fun i H2 _ ⟨s2,_⟩=>dG.of (s2 _ _ hSl)) ?_ ?_⟩
  ·rintro i y H2 hy ⟨s2,yY⟩
   obtain⟨d,UY,rfl⟩:=int_at hy
   have wF:=sS.trans s2
   refine⟨rfl,?_⟩
   refine⟨_,rfl,_,rfl,a,ps,d,rfl,hC.same wF,gp,ne,_,rfl,?_⟩
   have ef:∀v,SS ps qs d=v->(ns.take (i+1)).filter (SS ps qs)=(ns.take i).filter (SS ps qs)++(if v=true then [d] else []):=by
    intro v hv
    rw[Rc.di UY,List.filter_append,bN,List.filter_nil,hv]
   cases h1:(Vblaaf.valueAt (whole d) (Vblaaf.curve ps)).isSome with
   |false=>
    refine dR (dR ⟨s2,?_⟩)
    rw[ef false (by unfold SS;rw[h1];rfl),bz (by decide),List.append_nil]
    exact yY
   |true=>
    refine dI ⟨_,rfl,_,rfl,b,qs,d,rfl,WL.same wF,gq,ne',_,rfl,?_⟩
    cases h2:(Vblaaf.valueAt (whole d) (Vblaaf.curve qs)).isSome with
    |false=>
     refine dR ⟨s2,?_⟩
     rw[ef false (by unfold SS;rw[h1,h2];rfl),bz (by decide),List.append_nil]
     exact yY
    |true=>
     refine dI ⟨_,rfl,_,yY,dO ?_,cK.fU s2 hD,?_⟩
     ·rw[aa]
      have h1:=List.length_filter_le (SS ps qs) (ns.take i)
      rw[aJ]at h1
      omega
     ·rw[ef true (by unfold SS;rw[h1,h2];rfl),bA rfl]
      show (L2.upd H2 D _) D=_
      rw[cA,ay];rfl
  ·rintro H2 ⟨s2,yY⟩
   rw[aa,aK]at yY
   refine k H2 D _ ⟨Nq.filter _,fun x=>?_⟩ yY (sS.trans s2)
   rw[bS,hmem,bh]
   unfold SS
   rw[aZ]
def MC(A:gY):Sp:=fun vs H Q _=>∃(p dx:Addr)(g:QE),vs=[.ref p,.ref g.size,.int g.dose]/\H p=some (.ins A.CG dx [])/\ ∀H':Hp,ZZ A H' p g->jn p H H'->Q .f6 H'
abbrev As:Stmt:=inClass (top 72) 0
theorem Dk:cT ["self","size","dose"] ["self","size","dose"] (cJ As):=gJ
theorem K6(T:Txt K mg A)(D:o7 K mg "Gap" "Gap.__init__" A.CG As ["self","size","dose"]):GoodC P w K mg base 3 "Gap" A.CG ["self","size","dose"] (MC A):=by
 refine D.good Dk (fun _ _ _ _ h=>?_) (fun _ _ _ _ _ H _ Q _ hr h=>?_)
 ·obtain⟨p,dx,g,rfl,_⟩:=h;rfl
 ·obtain⟨p,dx,g,rfl,hp,k⟩:=h
  have nd:=Dk.nd
  refine⟨_,(cg (e8 (pv 0) (pv 1) rfl)
   (cE (e8 (pv 0) (pv 2) rfl))),?_⟩
  refine⟨_,rfl,_,rfl,p,A.CG,dx,_,rfl,hp,T.cG,T.Ed,(by show 0<1000;decide),?_⟩
  refine⟨_,rfl,_,rfl,p,A.CG,dx,_,rfl,cA,T.cG,T.IK,(by show 1<1000;decide),?_⟩
  exact k _ ⟨dx,cA⟩ fun x o e hx=>by rw[cV hx,cV hx];exact e
def U8(A:gY)(H:Hp)(v:V):Option (Frac×Int)->Prop
 |none=>v= .f6
 |some (d,x)=>∃g f,v= .ref g/\ZZ A H g ⟨f,x⟩/\mU A H f d
def TR(A:gY):Sp:=fun vs H Q _=>∃(a b:Addr)(ps qs:List Point),vs=[.ref a,.ref b]/\fQ A H a ps/\fQ A H b qs/\Rc.eF ps/\Rc.eF qs/\ps≠[]/\qs≠[]/\
 ∀(H':Hp)(v:V),U8 A H' v (Vblaaf.greatestGap (Vblaaf.curve ps) (Vblaaf.curve qs))->cK H H'->Q v H'
def QX(ps qs:List Point)(ds:List Int)(i:Nat):Option (Frac×Int)->Prop
 |none=>i=0
 |some (d,x)=>Rc.o6 (Vblaaf.curve ps) (Vblaaf.curve qs) (ds.take i) d x
abbrev qY:Stmt:=top 73
theorem wX:cT ["one","other","gap","dose","at","size"] ["one","other"] (cJ qY):=gJ
theorem FE(T:Txt K mg A)(D:Def K mg "gap_between" qY ["one","other"])(pM:Good P w K mg base 4 "shared_doses" ["one","other"] (K4 A))(eN:Good P w K mg base 6 "whole" ["number"] (mW A))(Cy:Good P w K mg base 6 "size_of" ["one"] (QM A))(i9:Good P w K mg base 6 "minus" ["one","other"] (wD A (fun _ _=>True) minus))(jk:Good P w K mg base 3 "less" ["one","other"] (Ab A))(QY:GoodC P w K mg base 3 "Gap" A.CG ["self","size","dose"] (MC A))(ji:Good P w K mg base 7 "line_at" ["curve","dose"] (IX A)):Good P w K mg base 8 "gap_between" ["one","other"] (TR A):=by
 refine D.good wX (fun _ _ _ _ h=>?_) (fun _ _ _ _ _ H _ Q _ hr h=>?_)
 ·obtain⟨a,b,ps,qs,rfl,_⟩:=h;rfl
 ·obtain⟨a,b,ps,qs,rfl,hC,WL,gp,gq,ne,ne',k⟩:=h
  have kn:=Rc.kh gp.pos
  have kn':=Rc.kh gq.pos
  have nd:=wX.nd
  refine⟨_,(cg (tN (i:=2) nd rfl (Or.inl rfl) fK)
    (cg (iJ PassesOwn.never rfl (fL (dF pM hr (b9 (pv 0) (b9 (pv 1) cz)))) (qu 3 nd) (cg (gi 4 nd (dF eN hr (b9 (pv 3) cz)))
     (cg (gi 5 nd (dF Cy hr (b9 (dF i9 hr (b9 (dF ji hr (b9 (pv 0) (b9 (pv 4) cz))) (b9 (dF ji hr (b9 (pv 1) (b9 (pv 4) cz))) cz))) cz)))
     (cE (dU (PW.pt (GK (dw nD (pv 2) fK (dQ _)) (BX (gP (dF jk hr (b9 (cH (pv 2) rfl) (b9 (pv 5) cz))))))) (cE (gi 2 nd (jY QY hr (b9 (pv 5) (b9 (pv 3) cz))))) cY)))))
    (cE (cM (pv 2))))),?_⟩
  refine⟨_,rfl,_,rfl,a,b,ps,qs,rfl,hC,WL,gp,gq,ne,ne',fun H1 S ds sh hS s1=>?_⟩
  refine⟨S,rfl,⟨_,dG.of hS⟩,j8 (K:=K) (a:=S) (xs:=ds.map V.int) (fun i σ H2=>∃(v:V)(v3 v4 v5:Option V)(o:Option (Frac×Int)),σ=[some (.ref a),some (.ref b),some v,v3,v4,v5]/\cK H1 H2/\U8 A H2 v o/\QX ps qs ds i o)
   ⟨.f6,none,none,none,none,rfl,cK.refl _,rfl,rfl⟩ (fun i σ H2 _ ⟨_,_,_,_,_,_,s,_⟩=>dG.of (s _ _ hS)) ?_ ?_⟩
  ·rintro i y σ H2 hy ⟨v,v3,v4,v5,o,rfl,s2,hv,qF⟩
   obtain⟨d,UY,rfl⟩:=int_at hy
   have wF:=s1.trans s2
   obtain⟨hmd,hs1,hs2⟩:=(sh.mem d).mp (ak UY)
   have TU:d.natAbs≤2000000:=by
    rcases hmd with q | q
    ·have:=uv gp q;omega
    ·have:=uv gq q;omega
   obtain⟨u,hu⟩:=Option.isSome_iff_exists.mp hs1
   obtain⟨w,hw⟩:=Option.isSome_iff_exists.mp hs2
   have SV:Rc.ki (Vblaaf.curve ps) (Vblaaf.curve qs) d=some (Vblaaf.size (minus u w)):=by unfold Rc.ki;rw[hu,hw]
   obtain⟨ou,su⟩:=Rc.sD gp TU hu
   obtain⟨ow,sw⟩:=Rc.sD gq TU hw
   have om:=Rc.dS ou ow
   have sm:=Rc.iP ou ow su sw
   obtain⟨og,sg⟩:=Rc.Ni gp gq TU SV
   refine⟨_,rfl,d,rfl,fun H3 q3 h3 s3=>?_⟩
   have yl:=wF.trans s3
   refine⟨_,rfl,_,rfl,a,q3,ps,_,rfl,hC.same yl,gp,ne,h3,oJ TU,fun H4 v4' h4 s4=>?_⟩
   rw[hu]at h4
   obtain⟨ua,rfl,h4⟩:=h4
   have RE:=yl.trans s4
   refine⟨_,rfl,_,rfl,b,q3,qs,_,rfl,WL.same RE,gq,ne',h3.same s4,oJ TU,fun H5 v5' h5 s5=>?_⟩
   rw[hw]at h5
   obtain⟨wa,rfl,h5⟩:=h5
   refine⟨ua,wa,u,w,rfl,h4.same s5,h5,.of ou su (by decide) (by decide),.of ow sw (by decide) (by decide),trivial,fun H6 q6 h6 s6=>?_⟩
   refine⟨q6,_,rfl,h6,.of om sm (by decide) (by decide),fun H7 q7 h7 s7=>?_⟩
   have WM:cK H2 H7:=(((s3.trans s4).trans s5).trans s6).trans s7
   have tk:=Rc.di UY
   have anew:∀B:Rc.o6 (Vblaaf.curve ps) (Vblaaf.curve qs) (ds.take (i+1)) (Vblaaf.size (minus u w)) d,∀x dx,H7 x=none->H7 dx=none->dx≠x->
     MC A (.ref x::([V.ref q7,V.int d]++[])) (L2.upd (L2.upd H7 dx (.own x)) x (.ins A.CG dx [])) (fun z H'=>z= .f6/\ ∃(v:V)(v3 v4 v5:Option V)(o:Option (Frac×Int)),[some (.ref a),some (.ref b),some (.ref x),some (.int d),some (.ref q3),some (.ref q7)]=[some (.ref a),some (.ref b),some v,v3,v4,v5]/\cK H1 H'/\U8 A H' v o/\QX ps qs ds (i+1) o) E0:=by
    intro B x dx nx kK nex
    refine⟨x,dx,⟨q7,d⟩,rfl,cA,fun H8 hG hk=>⟨rfl,.ref x,_,_,_,some (_,d),rfl,?_,⟨x,q7,rfl,hG,?_⟩,B⟩⟩
    ·exact(s2.trans WM).trans (cK.made nx kK hk)
    ·exact h7.same (cK.made nx kK hk)
   cases o with
   |none=>
    have hv:v= .f6:=hv
    subst hv
    have hb0:i=0:=qF
    refine⟨_,rfl,rfl,_,rfl,dI (dI ?_)⟩
    refine⟨_,rfl,_,rfl,anew ?_⟩
    rw[tk,hb0]
    exact Rc.o6.one SV
   |some p=>
    obtain⟨e,x⟩:=p
    obtain⟨g,f,rfl,⟨dg,hg⟩,hf⟩:=hv
    have qF:Rc.o6 (Vblaaf.curve ps) (Vblaaf.curve qs) (ds.take i) e x:=qF
    have hg:=WM _ _ hg
    have hxm:=qF.mem
    obtain⟨j,hj,ej⟩:=List.mem_iff_getElem.mp hxm
    have hji:j<i/\j<ds.length:=by rw[aJ]at hj;omega
    have xd:x<d:=by
     have e1:ds[j]?=some x:=by rw[<-ej,List.getElem_take,ah]
     obtain⟨p1,p2⟩:=af.mp e1
     obtain⟨p3,p4⟩:=af.mp UY
     rw[<-p2,<-p4]
     exact List.pairwise_iff_getElem.mp sh.rise j i p1 p3 hji.1
    have XC:x.natAbs≤2000000:=by
     have:=List.mem_of_mem_take hxm
     rcases((sh.mem x).mp this).1 with q | q
     ·have:=uv gp q;omega
     ·have:=uv gq q;omega
    obtain⟨oe,se⟩:=Rc.Ni gp gq XC qF.at_
    refine⟨_,rfl,rfl,_,rfl,dR ⟨_,rfl,g,A.CG,dg,_,_,rfl,hg,T.cG,T.Ed,Ky ⟨f,x⟩,_,rfl,f,q7,e,_,rfl,hf.same WM,h7,.of oe se (by decide) (by decide),.of og sg (by decide) (by decide),_,rfl,?_⟩⟩
    cases hl:less e (Vblaaf.size (minus u w))with
    |true=>
     refine dI ⟨_,rfl,_,rfl,anew ?_⟩
     rw[tk]
     exact qF.anew kn kn' SV hl
    |false=>
     refine dR ⟨_,_,_,_,some (e,x),rfl,s2.trans WM,⟨g,f,rfl,⟨dg,hg⟩,hf.same WM⟩,?_⟩
     show Rc.o6 _ _ (ds.take (i+1)) e x
     rw[tk]
     exact qF.keep SV hl (by omega)
  ·rintro σ H2 ⟨v,v3,v4,v5,o,rfl,s2,hv,qF⟩
   rw[aa]at qF
   have ec:∀x,x∈ds↔x∈Vblaaf.common (Vblaaf.curve ps) (Vblaaf.curve qs):=by
    intro x
    rw[sh.mem,Rc.tT,jw,jw]
    unfold Rc.ki
    cases Vblaaf.valueAt (whole x) (Vblaaf.curve ps)with
    |none=>simp
    |some u=>cases Vblaaf.valueAt (whole x) (Vblaaf.curve qs)with
     |none=>simp
     |some w=>simp
   refine⟨_,rfl,k H2 v ?_ (s1.trans s2)⟩
   cases o with
   |none=>
    have hb0:ds.length=0:=qF
    have e0:ds=[]:=List.length_eq_zero_iff.mp hb0
    rw[Rc.P6]
    ·exact hv
    ·intro x hx
     cases hq:Rc.ki (Vblaaf.curve ps) (Vblaaf.curve qs) x with
     |none=>rfl
     |some d=>
      have:=(ec x).mpr (Rc.tT.mpr ⟨hx,by rw[hq];rfl⟩)
      rw[e0]at this;cases this
   |some p=>
    obtain⟨e,x⟩:=p
    have qF:Rc.o6 _ _ (ds.take ds.length) e x:=qF
    rw[aK]at qF
    rw[Rc.P5 kn kn' (qF.same ec)]
    exact hv
def yq(A:gY):Sp:=fun vs H Q _=>∃(a l:Addr)(ps:List Point)(cs:List Vblaaf.Control),vs=[.ref a,.ref l]/\fQ A H a ps/\Rc.eF ps/\ps≠[]/\fV (Ce A) H l cs/\cs.length≤20/\ ∀H':Hp,cK H H'->Q (oV (Rc.refusal ps cs)) H'
theorem K7{l:List Knot}{cs:List Vblaaf.Control}:(Vblaaf.offs l cs).isSome=(cs.map fun c=>(Vblaaf.valueAt (whole c.dose) l).isSome).all id:=by
 cases h:(cs.map fun c=>(Vblaaf.valueAt (whole c.dose) l).isSome).all id with
 |true=>
  obtain⟨m,hm⟩:=Rc.Ca (l:=l) (cs:=cs) fun c hc=>List.all_eq_true.mp h _ (List.mem_map_of_mem (f:=fun c:Vblaaf.Control=>(Vblaaf.valueAt (whole c.dose) l).isSome) hc)
  rw[hm];rfl
 |false=>
  obtain⟨b,hb,e⟩:=List.all_eq_false.mp h
  obtain⟨c,hc,e2⟩:=aQ.mp hb
  have:Vblaaf.valueAt (whole c.dose) l=none:=by
   cases q:Vblaaf.valueAt (whole c.dose) l with
   |none=>rfl
   |some v=>rw[q]at e2;rw[<-e2]at e;exact absurd rfl e
  rw[Rc.yc hc this];rfl
abbrev nN:Stmt:=top 88
theorem sR:cT ["curve","controls","control"] ["curve","controls"] (cJ nN):=gJ
theorem Cz(T:Txt K mg A)(D:Def K mg "shift_refusal" nN ["curve","controls"])(kT:Good P w K mg base 3 "has_line" ["curve","dose"] (QU A)):Good P w K mg base 4 "shift_refusal" ["curve","controls"] (yq A):=by
 refine D.good sR (fun _ _ _ _ h=>?_) (fun _ _ _ _ _ H _ Q _ hr h=>?_)
 ·obtain⟨a,l,ps,cs,rfl,_⟩:=h;rfl
 ·obtain⟨a,l,ps,cs,rfl,hC,gp,ne,⟨as,hl,hcs⟩,h20,k⟩:=h
  unfold Rc.refusal at k
  have nd:=sR.nd
  refine⟨_,(cg (dU (dw kZ (dD cX (by rfl) T.len aG (b9 (pv 1) cz)) cN (dQ _)) (cE (cM (dB rfl T.E4))) cY)
    (cg (dU (gQ (gP (dD (Ig rfl) (by rfl) T.all boot_all (b9 (qm rfl nd (fL (pv 1)) (own:=[("control",2)]) (gK (by kernel_rfl)) (fun _ _ _ _ _=>qu 2 nd) (fun _ _ _ _ _=>lG) (fun _ _ _ _ _=>(dF kT hr (b9 (pv 0) (b9 (tV (K:=K) rfl (cH (pv 2) rfl)) cz))))) cz)))) (cE (cM (dB rfl T.sG))) cY)
    (cE (cM fK)))),?_⟩
  refine⟨_,rfl,l,_,rfl,.inl (dG.of hl),rfl,_,rfl,?_⟩
  cases cs with
  |nil=>
   have e0:as=[]:=List.length_eq_zero_iff.mp hcs.len
   subst e0
   exact dI (k H (cK.refl _))
  |cons c0 YY=>
   have hpos:0<as.length:=by rw[hcs.len];simp
   have e1:decide (V.int (((as.map V.ref).length:Nat):Int)=V.int 0)=false:=aW (by
    rw[aa]
    intro q;injection q with q;omega)
   rw[e1]
   refine dR ?_
   rw[bz (by intro q;cases q),K7]at k
   generalize hcd:c0::YY=cs at*
   refine⟨_,rfl,l,rfl,⟨_,dG.of hl⟩,fun D hD=>iM (K:=K) (a:=l) (xs:=as.map V.ref) (fun i H'=>cK H H'/\H' D=some (.lst (((cs.take i).map fun c=>(Vblaaf.valueAt (whole c.dose) (Vblaaf.curve ps)).isSome).map V.bl)))
    ⟨cK.upd hD,cA⟩ (fun i H' _ ⟨s,_⟩=>dG.of (s _ _ hl)) ?_ ?_⟩
   ·rintro i y H' hy ⟨s,wR⟩
    obtain⟨b,ib,rfl⟩:=f7 hy
    obtain⟨c,ic,hbc⟩:=hcs.get' ib
    obtain⟨db,hb⟩:=hbc.same s
    refine⟨rfl,o8 ?_⟩
    refine⟨_,rfl,_,rfl,b,A.CO,db,_,_,rfl,hb,T.cO,T.yi,A7 c,a,ps,c.dose,rfl,hC.same s,gp,ne,?_⟩
    refine⟨_,wR,dO (by rw[aa,aa,aJ];omega),cK.fU s hD,?_⟩
    rw[cA,Rc.di ic,ay,ay];rfl
   ·rintro H' ⟨s,wR⟩
    rw[aa,hcs.len,aK]at wR
    refine⟨D,_,rfl,dG.of wR,_,rfl,?_⟩
    cases hall:(cs.map fun c=>(Vblaaf.valueAt (whole c.dose) (Vblaaf.curve ps)).isSome).all id with
    |true=>
     rw[hall,bA rfl]at k
     exact dR (k H' s)
    |false=>
     rw[hall,bz (by decide)]at k
     exact dI (k H' s)
def Jh(A:gY):Sp:=fun vs H Q _=>∃(a l:Addr)(ps:List Point)(cs:List Vblaaf.Control),vs=[.ref a,.ref l]/\fQ A H a ps/\Rc.eF ps/\ps≠[]/\fV (Ce A) H l cs/\cs.length≤20/\(∀c∈cs,Rc.GoodC c)/\Rc.refusal ps cs=none/\
 ∀(H':Hp)(p:Addr)(f:Frac),Vblaaf.shiftOf (Vblaaf.curve ps) cs=some f->mU A H' p f->cK H H'->Q (.ref p) H'
theorem OW{l:List Knot}{cs:List Vblaaf.Control}{m:List (Int×Frac)}(h:Vblaaf.offs l cs=some m)(i:Nat):∃m',Vblaaf.offs l (cs.take i)=some m':=by
 refine Rc.Ca fun c hc=>?_
 cases e:Vblaaf.valueAt (whole c.dose) l with
 |some v=>rfl
 |none=>rw[Rc.yc (List.mem_of_mem_take hc) e]at h;cases h
abbrev Au:Stmt:=top 89
theorem Dl:cT ["curve","controls","total","control","off"] ["curve","controls"] (cJ Au):=gJ
theorem K8(T:Txt K mg A)(D:Def K mg "shift_of" Au ["curve","controls"])(eN:Good P w K mg base 6 "whole" ["number"] (mW A))(MD:Good P w K mg base 6 "over" ["one","other"] (wD A (fun _ y=>0<y.num) over))(i9:Good P w K mg base 6 "minus" ["one","other"] (wD A (fun _ _=>True) minus))(ue:Good P w K mg base 6 "plus" ["one","other"] (wD A (fun _ _=>True) plus))(ji:Good P w K mg base 7 "line_at" ["curve","dose"] (IX A))(mX:Good P w K mg base 6 "times" ["one","other"] (wD A (fun _ _=>True) times)):Good P w K mg base 8 "shift_of" ["curve","controls"] (Jh A):=by
 refine D.good Dl (fun _ _ _ _ h=>?_) (fun _ _ _ _ _ H _ Q _ hr h=>?_)
 ·obtain⟨a,l,ps,cs,rfl,_⟩:=h;rfl
 ·obtain⟨a,l,ps,cs,rfl,hC,gp,ne,⟨as,hl,hcs⟩,h20,gc,href,k⟩:=h
  obtain⟨NZ,M,hM⟩:=Rc.n8 href
  have nd:=Dl.nd
  refine⟨_,(cg (gi 2 nd (dF eN hr (b9 cN cz)))
    (cg (iJ PassesOwn.never rfl (fL (pv 1)) (qu 3 nd) (cg (gi 4 nd (dF i9 hr (b9 (dF eN hr (b9 (cH (pv 3) rfl) cz)) (b9 (dF ji hr (b9 (pv 0) (b9 (dF eN hr (b9 (cH (pv 3) rfl) cz)) cz))) cz))))
     (cE (gi 2 nd (dF ue hr (b9 (pv 2) (b9 (dF mX hr (b9 (dF eN hr (b9 (cH (pv 3) rfl) cz)) (b9 (pv 4) cz))) cz)))))))
    (cE (cM (dF MD hr (b9 (pv 2) (b9 (dF eN hr (b9 (dD (Us rfl) (by rfl) T.sum boot_sum (b9 (qm rfl nd (fL (pv 1)) (own:=[("control",3)]) (gK (by kernel_rfl)) (fun _ _ _ _ _=>qu 3 nd) (fun _ _ _ _ _=>lG) (fun _ _ _ _ _=>(tV (K:=K) rfl (cH (pv 3) rfl)))) cz)) cz)) cz))))))),?_⟩
  refine⟨0,rfl,fun H1 r0 hr0 s1=>?_⟩
  refine⟨_,rfl,l,rfl,⟨_,dG.of (s1 _ _ hl)⟩,j8 (K:=K) (a:=l) (xs:=as.map V.ref) (fun i σ H'=>∃(v3 v4:Option V)(r:Addr)(m:List (Int×Frac)),σ=[some (.ref a),some (.ref l),some (.ref r),v3,v4]/\cK H H'/\Vblaaf.offs (Vblaaf.curve ps) (cs.take i)=some m/\mU A H' r (Vblaaf.total (Rc.iQ m)))
   ⟨none,none,r0,[],rfl,s1,(by rw[List.take_zero];unfold Vblaaf.offs;rfl),hr0⟩ (fun i σ H' _ ⟨_,_,_,_,_,s,_⟩=>dG.of (s _ _ hl)) ?_ ?_⟩
  ·rintro i y σ H' hi ⟨v3,v4,r,m,rfl,s,hm,hr'⟩
   obtain⟨b,ib,rfl⟩:=f7 hi
   obtain⟨c,ic,hbc⟩:=hcs.get' ib
   obtain⟨db,hb⟩:=hbc.same s
   have Vz:=gc c (ak ic)
   have tk:=Rc.di ic
   obtain⟨m',hm'⟩:=OW hM (i+1)
   obtain⟨u,hu⟩:∃u,Vblaaf.valueAt (whole c.dose) (Vblaaf.curve ps)=some u:=by
    cases e:Vblaaf.valueAt (whole c.dose) (Vblaaf.curve ps)with
    |some v=>exact⟨v,rfl⟩
    |none=>rw[Rc.yc (ak ic) e]at hM;cases hM
   have e2:=Rc.G8 hu hm
   rw[<-tk,hm']at e2
   have e2:m'=m++[(c.weight,minus (whole c.response) u)]:=az e2
   have TU:c.dose.natAbs≤2000000:=by have:=Vz.d0;have:=Vz.d1;omega
   have WN:c.response.natAbs≤2000000:=by have:=Vz.r0;have:=Vz.r1;omega
   have wsm:c.weight.natAbs≤2000000:=by have:=Vz.w0;have:=Vz.w1;omega
   obtain⟨ou,su⟩:=Rc.sD gp TU hu
   have zr:=Rc.eS WN
   have zw:=Rc.eS wsm
   have om:=Rc.dS (Rc.cQ c.response) ou
   have zm:=Rc.iP (Rc.cQ c.response) ou zr su
   have ot:=Rc.gM (Rc.cQ c.weight) om
   have zt:=Rc.lJ (Rc.cQ c.weight) om zw zm
   have off:=Rc.LW gp (fun d hd=>gc d (List.mem_of_mem_take hd)) hm
   have ml:m.length≤20:=by rw[Rc.m9 hm,aJ];omega
   obtain⟨oo,so⟩:=off.total ml
   refine⟨_,rfl,b,A.CO,db,_,_,rfl,hb,T.cO,T.nh,tY c,c.response,rfl,fun H3 q3 h3 s3=>?_⟩
   have hb:=s3 _ _ hb
   refine⟨_,rfl,_,rfl,b,A.CO,db,_,_,rfl,hb,T.cO,T.yi,A7 c,c.dose,rfl,fun H4 q4 h4 s4=>?_⟩
   have hb:=s4 _ _ hb
   have RE:=(s.trans s3).trans s4
   refine⟨a,q4,ps,_,rfl,hC.same RE,gp,ne,h4,oJ TU,fun H5 v5 h5 s5=>?_⟩
   rw[hu]at h5
   obtain⟨ua,rfl,h5⟩:=h5
   have hb:=s5 _ _ hb
   refine⟨q3,ua,_,u,rfl,(h3.same s4).same s5,h5,.of (Rc.cQ _) zr (by decide) (by decide),.of ou su (by decide) (by decide),trivial,fun H6 q6 h6 s6=>?_⟩
   have hb:=s6 _ _ hb
   refine⟨_,rfl,_,rfl,b,A.CO,db,_,_,rfl,hb,T.cO,T.oH,tZ c,c.weight,rfl,fun H7 q7 h7 s7=>?_⟩
   refine⟨_,rfl,q7,q6,_,_,rfl,h7,h6.same s7,.of (Rc.cQ _) zw (by decide) (by decide),.of om zm (by decide) (by decide),trivial,fun H8 q8 h8 s8=>?_⟩
   have s38:cK H' H8:=((((s3.trans s4).trans s5).trans s6).trans s7).trans s8
   refine⟨r,q8,_,_,rfl,hr'.same s38,h8,.of oo so (by decide) (by decide),.of ot zt (by decide) (by decide),trivial,fun H9 q9 h9 s9=>?_⟩
   refine⟨_,_,q9,m',rfl,(s.trans s38).trans s9,hm',?_⟩
   rw[e2,Rc.Gn,Rc.oY]
   exact h9
  ·rintro σ H' ⟨v3,v4,r,m,rfl,s,hm,hr'⟩
   rw[aa,hcs.len,aK]at hm
   have eM:M=m:=by rw[hM]at hm;exact az hm
   subst eM
   have off:=Rc.LW gp gc hM
   have ml:M.length≤20:=by rw[Rc.m9 hM];omega
   obtain⟨oo,so⟩:=off.total ml
   have wb:=Rc.EN M off.ws
   have mpos:0<M.length:=by rw[Rc.m9 hM];exact List.length_pos_iff.mpr NZ
   refine⟨_,rfl,_,rfl,l,rfl,⟨_,dG.of (s _ _ hl)⟩,fun D hD=>iM (K:=K) (a:=l) (xs:=as.map V.ref) (fun i H2=>cK H' H2/\iw H2 D ((cs.take i).map (·.weight)))
    ⟨cK.upd hD,cA⟩ (fun i H2 _ ⟨s2,_⟩=>dG.of (s2 _ _ (s _ _ hl))) ?_ ?_⟩
   ·rintro i y H2 hy ⟨s2,yY⟩
    obtain⟨b,ib,rfl⟩:=f7 hy
    obtain⟨c,ic,hbc⟩:=hcs.get' ib
    obtain⟨db,hb⟩:=(hbc.same s).same s2
    refine⟨rfl,o8 ?_⟩
    refine⟨_,rfl,b,A.CO,db,_,_,rfl,hb,T.cO,T.oH,tZ c,_,yY,dO (by rw[aa,aa,aJ];omega),cK.fU s2 hD,?_⟩
    show (L2.upd H2 D _) D=_
    rw[cA,Rc.di ic,ay,ay];rfl
   ·rintro H2 ⟨s2,yY⟩
    rw[aa,hcs.len,aK]at yY
    refine⟨D,_,rfl,dG.of yY,_,rfl,fun H3 q3 h3 s3=>?_⟩
    have ew:(cs.map (·.weight)).sum=Rc.wsum M:=by rw[Rc.Qh,Rc.Hg hM]
    rw[ew]at h3
    have zw:Sz 15 1 (whole (Rc.wsum M)):=Rc.jc (by omega)
    refine⟨r,q3,_,_,rfl,(hr'.same s2).same s3,h3,.of oo so (by decide) (by decide),.of (Rc.cQ _) zw (by decide) (by decide),(by show 0<Rc.wsum M;omega),fun H4 q4 h4 s4=>?_⟩
    exact k H4 q4 _ (Rc.z5 hM) h4 (((s.trans s2).trans s3).trans s4)
theorem vn.but{H H':Hp}{a p C d:Addr}{fs:List (Str×V)}{b:Point}(h:vn A H a b)(hp:H p=some (.ins C d fs))(ne:A.CR≠C)(s:jn p H H'):vn A H' a b:=
 let ⟨dx,e⟩:=h;⟨dx,s _ _ e (t9 e hp ne)⟩
theorem Ce.but{H H':Hp}{a p C d:Addr}{fs:List (Str×V)}{b:Vblaaf.Control}(h:Ce A H a b)(hp:H p=some (.ins C d fs))(ne:A.CO≠C)(s:jn p H H'):Ce A H' a b:=
 let ⟨dx,e⟩:=h;⟨dx,s _ _ e (t9 e hp ne)⟩
theorem UQ.but{H H':Hp}{a p C d:Addr}{fs:List (Str×V)}{b:Mj}(h:UQ A H a b)(hp:H p=some (.ins C d fs))(ne:A.CL≠C)(s:jn p H H'):UQ A H' a b:=
 let ⟨dx,e⟩:=h;⟨dx,s _ _ e (t9 e hp ne)⟩
theorem fQ.but{H H':Hp}{a p C d:Addr}{fs:List (Str×V)}{ps:List Point}(h:fQ A H a ps)(hp:H p=some (.ins C d fs))(nC:A.CC≠C)(nB:A.CB≠C)(nF:A.CF≠C)(s:jn p H H'):fQ A H' a ps:=by
 obtain⟨c,⟨da,h1⟩,h2,h3,h4,h5,h6⟩:=h.ex
 refine⟨c,⟨da,s _ _ h1 (t9 h1 hp nC)⟩,h2.but hp s fun _ _ h=>h.but hp nB s,s _ _ h3 (e9 h3 hp (by intro z;cases z)),h4.but hp s fun _ _ h=>h.but hp nF s,h5.but hp s fun _ _ h=>h.but hp nB s,h6.but hp s fun _ _ h=>h.but hp nF s⟩
theorem iH{H:Hp}{x dx C:Addr}(nx:H x=Option.none)(nd:H dx=Option.none):cK H (L2.upd (L2.upd H dx (.own x)) x (.ins C dx [])):=fun b o e=>by rw[cV (dj e nx),cV (dj e nd)];exact e
structure jl where
 lot:Addr
 cP:Addr
 controls:Addr
structure kH(A:gY)(H:Hp)(r:jl)(l:Vblaaf.Lot):Prop where
 lot:UQ A H r.lot ⟨l.expires,r.cP,r.controls⟩
 cP:fV (vn A) H r.cP l.points
 controls:fV (Ce A) H r.controls l.controls
theorem kH.same{H H':Hp}{r:jl}{l:Vblaaf.Lot}(h:kH A H r l)(s:cK H H'):kH A H' r l:=⟨h.lot.same s,h.cP.same s fun _ _ h=>h.same s,h.controls.same s fun _ _ h=>h.same s⟩
theorem kH.but{H H':Hp}{p C d:Addr}{fs:List (Str×V)}{r:jl}{l:Vblaaf.Lot}(h:kH A H r l)(hp:H p=some (.ins C d fs))(nL:A.CL≠C)(nR:A.CR≠C)(nO:A.CO≠C)(s:jn p H H'):kH A H' r l:=
 ⟨h.lot.but hp nL s,h.cP.but hp s fun _ _ h=>h.but hp nR s,h.controls.but hp s fun _ _ h=>h.but hp nO s⟩
def QZ(A:gY):Sp:=fun vs H Q _=>∃(p dx:Addr)(e:Int),vs=[.ref p,.int e]/\H p=some (.ins A.CL dx [])/\ ∀(H':Hp)(r c:Addr),H r=none->H c=none->r≠c->kH A H' ⟨p,r,c⟩ { expires:=e }->jn p H H'->Q .f6 H'
abbrev Av:Stmt:=inClass (top 33) 0
theorem Dm:cT ["self","good_until"] ["self","good_until"] (cJ Av):=gJ
theorem K9(T:Txt K mg A)(D:o7 K mg "Lot" "Lot.__init__" A.CL Av ["self","good_until"]):GoodC P w K mg base 3 "Lot" A.CL ["self","good_until"] (QZ A):=by
 refine D.good Dm (fun _ _ _ _ h=>?_) (fun _ _ _ _ _ H _ Q _ hr h=>?_)
 ·obtain⟨p,dx,e,rfl,_⟩:=h;rfl
 ·obtain⟨p,dx,e,rfl,hp,k⟩:=h
  have nd:=Dm.nd
  refine⟨_,(cg (e8 (pv 0) (pv 1) rfl)
    (cg (e8 (pv 0) (dc cz) rfl)
    (cE (e8 (pv 0) (dc cz) rfl)))),?_⟩
  refine⟨_,rfl,_,rfl,p,A.CL,dx,_,rfl,hp,T.cL,T.kF,(by show 0<1000;decide),?_⟩
  refine⟨Nat.zero_le _,fun r hr1=>?_⟩
  have pr:p≠r:=dj (H:=L2.upd H p (.ins A.CL dx (dX "good_until" (.int e) []))) cA hr1
  have hr0:H r=none:=by rw[<-hr1,cV pr.symm]
  refine⟨_,rfl,p,A.CL,dx,_,rfl,(by rw[cV pr];exact cA),T.cL,T.dY,(by show 1<1000;decide),?_⟩
  refine⟨Nat.zero_le _,fun c hc1=>?_⟩
  generalize Rw:L2.upd (L2.upd (L2.upd H p (.ins A.CL dx (dX "good_until" (.int e) []))) r (.lst [])) p (.ins A.CL dx (dX "readings" (.ref r) (dX "good_until" (.int e) [])))=H3 at*
  have p3:H3 p=some (.ins A.CL dx (dX "readings" (.ref r) (dX "good_until" (.int e) []))):=by rw[<-Rw];exact cA
  have r3:H3 r=some (.lst []):=by rw[<-Rw,cV pr.symm];exact cA
  have pc:p≠c:=dj p3 hc1
  have rc:r≠c:=dj r3 hc1
  have hc0:H c=none:=by rw[<-hc1,<-Rw,cV pc.symm,cV rc.symm,cV pc.symm]
  refine⟨_,rfl,p,A.CL,dx,_,rfl,(by rw[cV pc];exact p3),T.cL,T.fY,(by show 2<1000;decide),?_⟩
  refine k _ r c hr0 hc0 rc ⟨⟨dx,cA⟩,⟨[],?_,fq.nil⟩,⟨[],?_,fq.nil⟩⟩ fun x o ex hx=>?_
  ·show (L2.upd (L2.upd H3 c (.lst [])) p _) r=_
   rw[cV pr.symm,cV rc];exact r3
  ·show (L2.upd (L2.upd H3 c (.lst [])) p _) c=_
   rw[cV pc.symm];exact cA
  ·rw[cV hx,cV (dj ex hc0),<-Rw,cV hx,cV (dj ex hr0),cV hx];exact ex
def La(A:gY):Sp:=fun vs H Q _=>∃(p dx:Addr)(r:IJ),vs=[.ref p,.int r.time,.int r.lot,.int r.response,.int r.off,.ref r.doses]/\H p=some (.ins A.CU dx [])/\ ∀H':Hp,Vt A H' p r->jn p H H'->Q .f6 H'
abbrev qZ:Stmt:=inClass (top 116) 0
theorem wY:cT ["self","time","lot_number","response","off","doses"] ["self","time","lot_number","response","off","doses"] (cJ qZ):=gJ
theorem FF(T:Txt K mg A)(D:o7 K mg "Result" "Result.__init__" A.CU qZ ["self","time","lot_number","response","off","doses"]):GoodC P w K mg base 3 "Result" A.CU ["self","time","lot_number","response","off","doses"] (La A):=by
 refine D.good wY (fun _ _ _ _ h=>?_) (fun _ _ _ _ _ H _ Q _ hr h=>?_)
 ·obtain⟨p,dx,r,rfl,_⟩:=h;rfl
 ·obtain⟨p,dx,r,rfl,hp,k⟩:=h
  have nd:=wY.nd
  refine⟨_,(cg (e8 (pv 0) (pv 1) rfl)
   (cg (e8 (pv 0) (pv 2) rfl)
   (cg (e8 (pv 0) (pv 3) rfl)
   (cg (e8 (pv 0) (pv 4) rfl)
   (cE (e8 (pv 0) (pv 5) rfl)))))),?_⟩
  refine⟨_,rfl,_,rfl,p,A.CU,dx,_,rfl,hp,T.cU,T.IL,(by show 0<1000;decide),?_⟩
  refine⟨_,rfl,_,rfl,p,A.CU,dx,_,rfl,cA,T.cU,T.mV,(by show 1<1000;decide),?_⟩
  refine⟨_,rfl,_,rfl,p,A.CU,dx,_,rfl,cA,T.cU,T.qw,(by show 2<1000;decide),?_⟩
  refine⟨_,rfl,_,rfl,p,A.CU,dx,_,rfl,cA,T.cU,T.IM,(by show 3<1000;decide),?_⟩
  refine⟨_,rfl,_,rfl,p,A.CU,dx,_,rfl,cA,T.cU,T.Ba,(by show 4<1000;decide),?_⟩
  exact k _ ⟨dx,cA⟩ fun x o e hx=>by rw[cV hx,cV hx,cV hx,cV hx,cV hx];exact e
structure lP(A:gY)(H:Hp)(p:Addr)(l:Vblaaf.Lot):Prop where
 ex:∃f:Cf,Xp A H p f/\(l.points=[]->f.curve= .f6)/\(l.points≠[]-> ∃a,f.curve= .ref a/\fQ A H a l.points/\Bo A H f.shift (Rc.vP l))
theorem Bo.same{H H':Hp}{v:V}{o:Option Frac}(h:Bo A H v o)(s:cK H H'):Bo A H' v o:=by
 cases o with
 |none=>exact h
 |some f=>obtain⟨a,e,h⟩:=h;exact⟨a,e,h.same s⟩
theorem lP.same{H H':Hp}{p:Addr}{l:Vblaaf.Lot}(h:lP A H p l)(s:cK H H'):lP A H' p l:=by
 obtain⟨f,h1,h2,h3⟩:=h.ex
 refine⟨f,h1.same s,h2,fun hn=>?_⟩
 obtain⟨a,e,hc,ho⟩:=h3 hn
 exact⟨a,e,hc.same s,ho.same s⟩
def Aw(A:gY):Sp:=fun vs H Q _=>∃(p dx:Addr)(r:jl)(l:Vblaaf.Lot),vs=[.ref p,.ref r.lot]/\H p=some (.ins A.CS dx [])/\kH A H r l/\Rc.EO l/\ ∀H':Hp,lP A H' p l->jn p H H'->Q .f6 H'
abbrev nP:Stmt:=inClass (top 117) 0
theorem sU:cT ["self","lot"] ["self","lot"] (cJ nP):=gJ
theorem CA(T:Txt K mg A)(D:o7 K mg "Standing" "Standing.__init__" A.CS nP ["self","lot"])(eT:GoodC P w K mg base 8 "Curve" A.CC ["self","readings"] (kN A))(fR:Good P w K mg base 4 "shift_refusal" ["curve","controls"] (yq A))(mw:Good P w K mg base 8 "shift_of" ["curve","controls"] (Jh A)):GoodC P w K mg base 10 "Standing" A.CS ["self","lot"] (Aw A):=by
 refine D.good sU (fun _ _ _ _ h=>?_) (fun _ _ _ _ _ H _ Q _ hr h=>?_)
 ·obtain⟨p,dx,r,l,rfl,_⟩:=h;rfl
 ·obtain⟨p,dx,r,l,rfl,hp,hL,gl,k⟩:=h
  have nd:=sU.nd
  refine⟨_,(cg (e8 (pv 0) fK rfl)
    (cg (e8 (pv 0) fK rfl)
    (cE (dU (dw MU (dD cX (by rfl) T.len aG (b9 (cH (pv 1) rfl) cz)) cN (dQ _)) (cg (e8 (pv 0) (jY eT hr (b9 (cH (pv 1) rfl) cz)) rfl)
     (cE (dU (dw nD (dF fR hr (b9 (cH (pv 0) rfl) (b9 (cH (pv 1) rfl) cz))) fK (dQ _)) (cE (e8 (pv 0) (dF mw hr (b9 (cH (pv 0) rfl) (b9 (cH (pv 1) rfl) cz))) rfl)) cY))) cY)))),?_⟩
  refine⟨_,rfl,p,A.CS,dx,_,rfl,hp,T.cS,T.kG,(by show 0<1000;decide),?_⟩
  refine⟨_,rfl,p,A.CS,dx,_,rfl,cA,T.cS,T.v7,(by show 1<1000;decide),?_⟩
  generalize hH2:L2.upd (L2.upd H p (.ins A.CS dx (dX "curve" .f6 []))) p (.ins A.CS dx (dX "shift" .f6 (dX "curve" .f6 [])))=H2 at*
  have p2:H2 p=some (.ins A.CS dx (QI ⟨.f6,.f6⟩)):=by rw[<-hH2];exact cA
  have b2:jn p H H2:=fun x o e hx=>by rw[<-hH2,cV hx,cV hx];exact e
  have hL2:=hL.but hp T.YV T.YR T.YT b2
  obtain⟨⟨da,ha⟩,hR,hO⟩:=id hL2
  obtain⟨as,oj,pN⟩:=id hR
  generalize har:r.lot=a at*
  refine⟨_,rfl,a,A.CL,da,_,_,rfl,ha,T.cL,T.dY,d7 ⟨l.expires,r.cP,r.controls⟩,r.cP,_,rfl,.inl (dG.of oj),_,_,rfl,rfl,_,rfl,?_⟩
  by_cases hne:l.points=[]
  ·have e0:as=[]:=List.length_eq_zero_iff.mp (by rw[pN.len,hne];rfl)
   subst e0
   exact dR (k H2 ⟨_,⟨dx,p2⟩,fun _=>rfl,fun h=>absurd hne h⟩ b2)
  ·have e1:decide ((0:Int)<(((as.map V.ref).length:Nat):Int))=true:=aX (by
    rw[aa,pN.len]
    have:=List.length_pos_iff.mpr hne
    omega)
   rw[e1]
   refine dI ?_
   refine⟨_,rfl,a,A.CL,da,_,_,rfl,ha,T.cL,T.dY,d7 ⟨l.expires,r.cP,r.controls⟩,fun cu GB nx kK _=>⟨cu,GB,r.cP,l.points,rfl,cA,hR.same (iH nx kK) (fun _ _ h=>h.same (iH nx kK)),gl.ps,fun H3 hcu kp=>⟨rfl,?_⟩⟩⟩
   have s3:cK H2 H3:=cK.made nx kK kp
   have p3:=s3 _ _ p2
   refine⟨_,rfl,p,A.CS,dx,_,rfl,p3,T.cS,T.kG,(by show 2<1000;decide),?_⟩
   have b4:jn p H3 (L2.upd H3 p (.ins A.CS dx (dX "curve" (.ref cu) (QI ⟨.f6,.f6⟩)))):=jn.upd
   have p4:(L2.upd H3 p (.ins A.CS dx (dX "curve" (.ref cu) (QI ⟨.f6,.f6⟩)))) p=some (.ins A.CS dx (QI ⟨.ref cu,.f6⟩)):=cA
   have OX:=hcu.but p3 T.YQ T.YO T.Xq b4
   have Zl:=(hL2.same s3).but p3 T.YV T.YR T.YT b4
   revert b4 p4 OX Zl
   generalize L2.upd H3 p (.ins A.CS dx (dX "curve" (.ref cu) (QI ⟨.f6,.f6⟩)))=H4
   intro b4 p4 OX Zl
   have Vu:jn p H H4:=fun x o e hx=>b4 x o (s3 _ _ (b2 x o e hx)) hx
   obtain⟨⟨da',ha'⟩,hR4,hO4⟩:=id Zl
   rw[har]at ha'
   refine⟨_,rfl,p,A.CS,dx,_,_,rfl,p4,T.cS,T.kG,lZ ⟨.ref cu,.f6⟩,_,rfl,a,A.CL,da',_,_,rfl,ha',T.cL,T.fY,iE _,cu,r.controls,l.points,l.controls,rfl,OX,gl.ps,hne,hO4,gl.cl,fun H5 s5=>?_⟩
   have p5:=s5 _ _ p4
   have VA:jn p H H5:=fun x o e hx=>s5 _ _ (Vu x o e hx)
   refine⟨rfl,_,rfl,?_⟩
   cases href:Rc.refusal l.points l.controls with
   |some e=>
    refine dR (k H5 ⟨⟨.ref cu,.f6⟩,⟨dx,p5⟩,fun h=>absurd h hne,fun _=>⟨cu,rfl,OX.same s5,?_⟩⟩ VA)
    unfold Rc.vP
    rw[Rc.vQ href]
    rfl
   |none=>
    refine dI ?_
    have ha5:=s5 _ _ ha'
    refine⟨_,rfl,p,A.CS,dx,_,_,rfl,p5,T.cS,T.kG,lZ ⟨.ref cu,.f6⟩,_,rfl,a,A.CL,da',_,_,rfl,ha5,T.cL,T.fY,iE _,cu,r.controls,l.points,l.controls,rfl,OX.same s5,gl.ps,hne,hO4.same s5 (fun _ _ h=>h.same s5),gl.cl,gl.cs,href,fun H6 q6 f hf h6 s6=>?_⟩
    have p6:=s6 _ _ p5
    refine⟨_,rfl,p,A.CS,dx,_,rfl,p6,T.cS,T.v7,(by show 2<1000;decide),?_⟩
    have b7:jn p H6 (L2.upd H6 p (.ins A.CS dx (dX "shift" (.ref q6) (QI ⟨.ref cu,.f6⟩)))):=jn.upd
    refine k _ ⟨⟨.ref cu,.ref q6⟩,⟨dx,cA⟩,fun h=>absurd h hne,fun _=>⟨cu,rfl,((OX.same s5).same s6).but p6 T.YQ T.YO T.Xq b7,?_⟩⟩ fun x o e hx=>b7 x o (s6 _ _ (VA x o e hx)) hx
    unfold Rc.vP
    rw[Rc.z6 (Rc.n8 href).1 hf]
    exact⟨q6,rfl,h6.but p6 T.Xq b7⟩
def WO(H0 H:Hp)(v:V):Except Int Vblaaf.Found->Prop
 |.error _=>v= .f6
 |.ok f=>∃p,v= .ref p/\H0 p=none/\iw H p (Vblaaf.foundRow f)
def Ji(A:gY):Sp:=fun vs H Q _=>∃(s:Addr)(l:Vblaaf.Lot)(r off:Int),vs=[.ref s,.int r,.int off]/\lP A H s l/\Rc.EO l/\ -1000000≤r/\r≤1000000/\(off=0∨off=1)/\
 ∀(H':Hp)(v:V),WO H H' v (Vblaaf.tellBy l r (off==1))->cK H H'->Q v H'
theorem Q0{ps:List Point}(gp:Rc.eF ps){cs:List Vblaaf.Control}(hc:∀c∈cs,Rc.GoodC c)(hl:cs.length≤20)(hne:cs≠[]){f:Frac}(h:Vblaaf.shiftOf (Vblaaf.curve ps) cs=some f){r:Int}(hr:r.natAbs≤2000000):Gh f/\Ask (minus (whole r) f):=by
 obtain⟨o,s⟩:=Rc.G9 gp hc hl hne h
 exact⟨.of o s (by decide) (by decide),Rc.dS (Rc.cQ r) o,(Rc.iP (Rc.cQ r) o (Rc.eS hr) s).mono (by decide) (by decide)⟩
theorem Lb{l:Vblaaf.Lot}{f:Frac}(h:Rc.vP l=some f):l.controls≠[]/\Vblaaf.shiftOf (Vblaaf.curve l.points) l.controls=some f/\Vblaaf.shiftIn l= .ok f:=by
 unfold Rc.vP at h
 split at h
 ·rename_i g hg
  have e:g=f:=az h
  subst e
  refine⟨?_,?_,hg⟩
  ·intro e
   unfold Vblaaf.shiftIn at hg
   rw[e]at hg
   cases hg
  ·unfold Vblaaf.shiftIn at hg
   split at hg
   ·cases hg
   ·split at hg
    ·cases hg
    ·rename_i x hx
     cases hg
     exact hx
 ·cases h
abbrev rg:Stmt:=top 118
theorem wZ:cT ["standing","response","off"] ["standing","response","off"] (cJ rg):=gJ
theorem FG(T:Txt K mg A)(D:Def K mg "told_result" rg ["standing","response","off"])(ja:Good P w K mg base 8 "told_doses" ["curve","response"] (wW A))(i9:Good P w K mg base 6 "minus" ["one","other"] (wD A (fun _ _=>True) minus))(eN:Good P w K mg base 6 "whole" ["number"] (mW A)):Good P w K mg base 9 "told_result" ["standing","response","off"] (Ji A):=by
 refine D.good wZ (fun _ _ _ _ h=>?_) (fun _ _ _ _ _ H _ Q _ hr h=>?_)
 ·obtain⟨s,l,r,off,rfl,_⟩:=h;rfl
 ·obtain⟨a,l,r,off,rfl,hS,gl,r0,r1,hoff,k⟩:=h
  have WN:r.natAbs≤2000000:=by omega
  obtain⟨f,⟨da,ha⟩,h1,h2⟩:=hS.ex
  unfold Vblaaf.tellBy at k
  have nd:=wZ.nd
  refine⟨_,(cg (dU (dw nD (cH (pv 0) rfl) fK (dQ _)) (cE (cM fK)) cY)
    (cg (dU (dw kZ (pv 2) cN (dQ _)) (cE (cM (dF ja hr (b9 (cH (pv 0) rfl) (b9 (dF eN hr (b9 (pv 1) cz)) cz))))) cY)
    (cg (dU (dw nD (cH (pv 0) rfl) fK (dQ _)) (cE (cM fK)) cY)
    (cE (cM (dF ja hr (b9 (cH (pv 0) rfl) (b9 (dF i9 hr (b9 (dF eN hr (b9 (pv 1) cz)) (b9 (cH (pv 0) rfl) cz))) cz)))))))),?_⟩
  refine⟨_,rfl,a,A.CS,da,_,_,rfl,ha,T.cS,T.kG,lZ f,rfl,_,rfl,?_⟩
  by_cases hne:l.points=[]
  ·rw[h1 hne]
   have e:Vblaaf.noPoints l=true:=by unfold Vblaaf.noPoints;rw[hne];rfl
   rw[bA e]at k
   exact dI (k H .f6 rfl (cK.refl _))
  ·obtain⟨cu,ec,hcu,hsh⟩:=h2 hne
   have e:¬Vblaaf.noPoints l=true:=by unfold Vblaaf.noPoints;intro q;exact hne (List.isEmpty_iff.mp q)
   rw[bz e]at k
   rw[ec]
   refine dR ⟨_,rfl,rfl,_,rfl,?_⟩
   rcases hoff with rfl | rfl
   ·rw[bA (show ((0:Int)==1)=false from rfl)]at k
    refine dI ⟨_,rfl,a,A.CS,da,_,_,rfl,ha,T.cS,T.kG,lZ f,_,rfl,r,rfl,fun H1 q1 hq1 s1=>?_⟩
    rw[ec]
    exact⟨cu,q1,l.points,_,rfl,hcu.same s1,gl.ps,hne,hq1,oJ WN,fun H2 p np hp s2=>k H2 _ ⟨p,rfl,s1.free np,hp⟩ (s1.trans s2)⟩
   ·rw[bz (show ¬((1:Int)==1)=false by decide)]at k
    refine dR ⟨_,rfl,a,A.CS,da,_,_,rfl,ha,T.cS,T.v7,Hw f,rfl,_,rfl,?_⟩
    cases hso:Rc.vP l with
    |none=>
     rw[hso]at hsh
     have es:f.shift= .f6:=hsh
     rw[es]
     refine dI (k H .f6 ?_ (cK.refl _))
     unfold Rc.vP at hso
     split at hso
     ·cases hso
     ·rename_i x hx;rw[hx];rfl
    |some g=>
     rw[hso]at hsh
     obtain⟨sa,es,hsa⟩:=hsh
     rw[es]
     obtain⟨NZ,hsf,hin⟩:=Lb hso
     obtain⟨fg,ag⟩:=Q0 gl.ps gl.cs gl.cl NZ hsf WN
     rw[hin]at k
     refine dR ⟨_,rfl,a,A.CS,da,_,_,rfl,ha,T.cS,T.kG,lZ f,_,rfl,r,rfl,fun H1 q1 hq1 s1=>?_⟩
     have ha:=s1 _ _ ha
     refine⟨_,rfl,a,A.CS,da,_,_,rfl,ha,T.cS,T.v7,Hw f,?_⟩
     rw[es,ec]
     refine⟨q1,sa,_,g,rfl,hq1,hsa.same s1,.of (Rc.cQ r) (Rc.eS WN) (by decide) (by decide),fg,trivial,fun H2 q2 hq2 s2=>?_⟩
     exact⟨cu,q2,l.points,_,rfl,hcu.same (s1.trans s2),gl.ps,hne,hq2,ag,fun H3 p np hp s3=>k H3 _ ⟨p,rfl,(s1.trans s2).free np,hp⟩ ((s1.trans s2).trans s3)⟩
structure fT where
 eV:Addr
 results:Addr
 lots:Int->Option jl
 doses:Addr->Prop
def qG(A:gY)(S:Addr->Prop)(H:Hp)(a:Addr)(r:Vblaaf.Result):Prop:=∃q,S q/\Vt A H a ⟨r.time,(r.lot:Nat),r.response,if r.shifted=true then 1 else 0,q⟩/\iw H q (Vblaaf.foundRow r.told)
theorem qG.same{S:Addr->Prop}{H H':Hp}{a:Addr}{r:Vblaaf.Result}(h:qG A S H a r)(s:cK H H'):qG A S H' a r:=let ⟨q,h0,h1,h2⟩:=h;⟨q,h0,h1.same s,h2.same s⟩
structure DictAt(H:Hp)(d:Addr)(f:Int->Option V):Prop where
 ex:∃(kvs:List (Key×V))(ns:List Int),H d=some (.dK kvs)/\kvs.map (·.1)=ns.map Sum.inl/\ns.Nodup/\(∀n∈ns,0≤n/\n≤3)/\ ∀n:Int,iY kvs (Sum.inl n)=f n
theorem DictAt.same{H H':Hp}{d:Addr}{f:Int->Option V}(h:DictAt H d f)(s:cK H H'):DictAt H' d f:=let ⟨kvs,ns,h1,h2⟩:=h.ex;⟨kvs,ns,s _ _ h1,h2⟩
structure fJ(A:gY)(H:Hp)(dk:Addr)(d:fT)(st:Vblaaf.State):Prop where
 yw:Xo A H dk ⟨st.now,d.eV,d.results⟩
 dict:DictAt H d.eV fun n=>(d.lots n).map fun r=>V.ref r.lot
 lots:∀n:Int,(d.lots n=none/\Vblaaf.lotAt st n=none)∨ ∃r l,d.lots n=some r/\Vblaaf.lotAt st n=some l/\kH A H r l
 results:fV (qG A d.doses) H d.results st.results
 FH:∀n m r q,d.lots n=some r->d.lots m=some q->n≠m->r.lot≠q.lot/\r.cP≠q.cP/\r.controls≠q.controls
 FI:∀n m r q,d.lots n=some r->d.lots m=some q->r.cP≠q.controls
 Jj:∀n r,d.lots n=some r->r.cP≠d.results/\r.controls≠d.results
theorem fJ.same{H H':Hp}{dk:Addr}{d:fT}{st:Vblaaf.State}(h:fJ A H dk d st)(s:cK H H'):fJ A H' dk d st:=
 ⟨h.yw.same s,h.dict.same s,fun n=>(h.lots n).imp id fun⟨r,l,e1,e2,hl⟩=>⟨r,l,e1,e2,hl.same s⟩,h.results.same s fun _ _ h=>h.same s,h.FH,h.FI,h.Jj⟩
def Ax(dk:Addr)(d:fT)(a:Addr):Prop:=a=dk∨a=d.eV∨a=d.results∨(∃n r,d.lots n=some r/\(a=r.lot∨a=r.cP∨a=r.controls))∨d.doses a
theorem fJ.lot{H:Hp}{dk:Addr}{d:fT}{st:Vblaaf.State}(h:fJ A H dk d st){n:Int}{r:jl}(e:d.lots n=some r):∃l,Vblaaf.lotAt st n=some l/\kH A H r l:=by
 rcases h.lots n with ⟨e1,_⟩ | ⟨r',l,e1,e2,hl⟩
 ·rw[e]at e1;cases e1
 ·rw[e]at e1;cases e1;exact⟨l,e2,hl⟩
theorem fJ.ref{H:Hp}{dk:Addr}{d:fT}{st:Vblaaf.State}(h:fJ A H dk d st){n:Int}{l:Vblaaf.Lot}(e:Vblaaf.lotAt st n=some l):∃r,d.lots n=some r/\kH A H r l:=by
 rcases h.lots n with ⟨_,e1⟩ | ⟨r',l',e1,e2,hl⟩
 ·rw[e]at e1;cases e1
 ·rw[e]at e2;cases e2;exact⟨r',e1,hl⟩
theorem uw{H:Hp}{p q:Addr}{ns:List Int}{as:List Addr}(h1:iw H p ns)(hn:ns≠[])(h2:H q=some (.lst (as.map V.ref))):p≠q:=by
 intro e
 subst e
 rw[h1]at h2
 injection h2 with h2
 injection h2 with h2
 cases ns with
 |nil=>exact hn rfl
 |cons n ns=>cases as with
  |nil=>cases h2
  |cons a as=>injection h2 with h2;cases h2
theorem OY{st:Vblaaf.State}(g:Rc.je st){n:Int}(h0:0≤n)(h3:n≤3)(l:Vblaaf.Lot)(m:Int):Vblaaf.lotAt (Vblaaf.putLot st n l) m=if m=n then some l else Vblaaf.lotAt st m:=by
 unfold Vblaaf.lotAt Vblaaf.isLot
 have hlen:=g.len
 by_cases hm:Vblaaf.inside m 0 3=true
 ·rw[bA hm,bA hm]
  have hm':=(Rc.d9 _ _ _).mp hm
  show (st.lots.set n.toNat (some l)).getD m.toNat none=_
  rw[List.getD_eq_getElem?_getD,List.getElem?_set]
  by_cases e:m=n
  ·subst e
   rw[bA rfl,bA (by omega),bA rfl];rfl
  ·rw[bz (by omega),bz e,List.getD_eq_getElem?_getD]
 ·rw[bz hm,bz hm]
  by_cases e:m=n
  ·subst e
   exact absurd ((Rc.d9 _ _ _).mpr ⟨h0,h3⟩) hm
  ·rw[bz e]
def fT.put(d:fT)(n:Int)(r:jl):fT:={ d with lots:=fun m=>if m=n then some r else d.lots m }
def Q2(d:fT)(n:Int)(b:Addr):Prop:=∀r,d.lots n=some r->b≠r.lot/\b≠r.cP/\b≠r.controls
theorem fJ.put(T:Txt K mg A){H H':Hp}{dk:Addr}{d:fT}{st:Vblaaf.State}(h:fJ A H dk d st)(g:Rc.je st){n:Int}(h0:0≤n)(h3:n≤3){l:Vblaaf.Lot}{r:jl}
  (hk:∀b o,H b=some o->b≠d.eV->Q2 d n b->H' b=some o)(hd:DictAt H' d.eV fun m=>((d.put n r).lots m).map fun r=>V.ref r.lot)(hl:kH A H' r l)
  (f1:H r.lot=none∨ ∃q,d.lots n=some q/\r.lot=q.lot)(f2:H r.cP=none∨ ∃q,d.lots n=some q/\r.cP=q.cP)(f3:H r.controls=none∨ ∃q,d.lots n=some q/\r.controls=q.controls)(Zm:r.cP≠r.controls):
  fJ A H' dk (d.put n r) (Vblaaf.putLot st n l):=by
 have kI:∀{b C dx:Addr}{fs:List (Str×V)},H b=some (.ins C dx fs)->C≠A.CL->H' b=some (.ins C dx fs):=by
  intro b C dx fs e ne
  obtain⟨kvs,ns,ed,_⟩:=h.dict.ex
  refine hk b _ e (e9 e ed (by intro z;cases z)) fun q eq=>?_
  obtain⟨lq,_,⟨dq,hq⟩,⟨as,WQ,_⟩,⟨cs,WR,_⟩⟩:=h.lot eq
  exact⟨t9 e hq ne,e9 e WQ (by intro z;cases z),e9 e WR (by intro z;cases z)⟩
 have kL:∀{b:Addr}{xs:List V},H b=some (.lst xs)->(∀q,d.lots n=some q->b≠q.cP/\b≠q.controls)->H' b=some (.lst xs):=by
  intro b xs e ne
  obtain⟨kvs,ns,ed,_⟩:=h.dict.ex
  refine hk b _ e (e9 e ed (by intro z;cases z)) fun q eq=>?_
  obtain⟨lq,_,⟨dq,hq⟩,_⟩:=h.lot eq
  exact⟨e9 e hq (by intro z;cases z),ne q eq⟩
 have kR:∀{a:Addr}{p:Point},vn A H a p->vn A H' a p:=fun⟨dx,e⟩=>⟨dx,kI e T.Xr⟩
 have kO:∀{a:Addr}{p:Vblaaf.Control},Ce A H a p->Ce A H' a p:=fun⟨dx,e⟩=>⟨dx,kI e T.YS⟩
 have kU:∀{a:Addr}{p:Vblaaf.Result},qG A d.doses H a p->qG A d.doses H' a p:=by
  rintro a p ⟨q,h0,⟨dx,e⟩,hq⟩
  refine⟨q,h0,⟨dx,kI e (Ne.symm T.Z2)⟩,kL hq fun q' eq'=>?_⟩
  obtain⟨lq,_,_,⟨as,WQ,_⟩,⟨cs,WR,_⟩⟩:=h.lot eq'
  have ne:Vblaaf.foundRow p.told≠[]:=by cases p.told <;> (intro z;cases z)
  exact⟨uw hq ne WQ,uw hq ne WR⟩
 have kM:∀m q,m≠n->d.lots m=some q-> ∀lm,kH A H q lm->kH A H' q lm:=by
  intro m q hmn eq lm hq
  obtain⟨⟨dq,e1⟩,⟨as,e2,e3⟩,⟨cs,e4,e5⟩⟩:=hq
  refine⟨⟨dq,?_⟩,⟨as,kL e2 fun q' eq'=>?_,e3.imp fun _ _ h=>kR h⟩,⟨cs,kL e4 fun q' eq'=>?_,e5.imp fun _ _ h=>kO h⟩⟩
  ·obtain⟨kvs,ns,ed,_⟩:=h.dict.ex
   refine hk _ _ e1 (e9 e1 ed (by intro z;cases z)) fun q' eq'=>?_
   obtain⟨lq,_,_,⟨as',WQ,_⟩,⟨cs',WR,_⟩⟩:=h.lot eq'
   exact⟨(h.FH m n q q' eq eq' hmn).1,e9 e1 WQ (by intro z;cases z),e9 e1 WR (by intro z;cases z)⟩
  ·exact⟨(h.FH m n q q' eq eq' hmn).2.1,h.FI m n q q' eq eq'⟩
  ·exact⟨fun z=>h.FI n m q' q eq' eq z.symm,(h.FH m n q q' eq eq' hmn).2.2⟩
 have Zn:∀{b:Addr}{o:HO},H b=some o->(∀q,d.lots n=some q->b≠q.cP)->r.cP≠b:=by
  intro b o e hne
  rcases f2 with f | ⟨q,eq,f⟩
  ·exact(dj e f).symm
  ·rw[f];exact(hne q eq).symm
 have Zo:∀{b:Addr}{o:HO},H b=some o->(∀q,d.lots n=some q->b≠q.controls)->r.controls≠b:=by
  intro b o e hne
  rcases f3 with f | ⟨q,eq,f⟩
  ·exact(dj e f).symm
  ·rw[f];exact(hne q eq).symm
 have frL:∀{b:Addr}{o:HO},H b=some o->(∀q,d.lots n=some q->b≠q.lot)->r.lot≠b:=by
  intro b o e hne
  rcases f1 with f | ⟨q,eq,f⟩
  ·exact(dj e f).symm
  ·rw[f];exact(hne q eq).symm
 have other:∀m q,m≠n->d.lots m=some q->r.lot≠q.lot/\r.cP≠q.cP/\r.controls≠q.controls/\r.cP≠q.controls/\q.cP≠r.controls:=by
  intro m q hmn eq
  obtain⟨lm,_,⟨dq,e1⟩,⟨as,e2,e3⟩,⟨cs,e4,e5⟩⟩:=h.lot eq
  exact⟨frL e1 fun q' eq'=>(h.FH m n q q' eq eq' hmn).1,Zn e2 fun q' eq'=>(h.FH m n q q' eq eq' hmn).2.1,Zo e4 fun q' eq'=>(h.FH m n q q' eq eq' hmn).2.2,Zn e4 fun q' eq' z=>h.FI n m q' q eq' eq z.symm,(Zo e2 fun q' eq'=>h.FI m n q q' eq eq').symm⟩
 have FJ:(d.put n r).lots n=some r:=bA rfl
 have Dn:∀{m:Int},m≠n->(d.put n r).lots m=d.lots m:=fun hm=>bz hm
 refine⟨?_,hd,?_,?_,?_,?_,?_⟩
 ·obtain⟨dx,e⟩:=h.yw
  exact⟨dx,kI e (Ne.symm T.YU)⟩
 ·intro m
  rw[OY g h0 h3]
  by_cases e:m=n
  ·subst e
   exact .inr ⟨r,l,FJ,bA rfl,hl⟩
  ·rw[Dn e,bz e]
   rcases h.lots m with q | ⟨q,lm,e1,e2,hq⟩
   ·exact .inl q
   ·exact .inr ⟨q,lm,e1,e2,kM m q e e1 lm hq⟩
 ·obtain⟨as,e,hs⟩:=h.results
  refine⟨as,kL e fun q eq=>?_,hs.imp fun _ _ h=>kU h⟩
  have:=h.Jj n q eq
  exact⟨this.1.symm,this.2.symm⟩
 ·intro m m' q q' e1 e2 Zp
  by_cases a1:m=n
  ·subst a1
   rw[FJ]at e1
   cases e1
   rw[Dn (Ne.symm Zp)]at e2
   obtain⟨h1,h2,h3,_,_⟩:=other m' q' (Ne.symm Zp) e2
   exact⟨h1,h2,h3⟩
  ·rw[Dn a1]at e1
   by_cases a2:m'=n
   ·subst a2
    rw[FJ]at e2
    cases e2
    obtain⟨h1,h2,h3,_,_⟩:=other m q a1 e1
    exact⟨h1.symm,h2.symm,h3.symm⟩
   ·rw[Dn a2]at e2
    exact h.FH m m' q q' e1 e2 Zp
 ·intro m m' q q' e1 e2
  by_cases a1:m=n
  ·subst a1
   rw[FJ]at e1
   cases e1
   by_cases a2:m'=m
   ·subst a2
    rw[FJ]at e2
    cases e2
    exact Zm
   ·rw[Dn a2]at e2
    exact(other m' q' a2 e2).2.2.2.1
  ·rw[Dn a1]at e1
   by_cases a2:m'=n
   ·subst a2
    rw[FJ]at e2
    cases e2
    exact(other m q a1 e1).2.2.2.2
   ·rw[Dn a2]at e2
    exact h.FI m m' q q' e1 e2
 ·intro m q e1
  by_cases a1:m=n
  ·subst a1
   rw[FJ]at e1
   cases e1
   obtain⟨as,e,hs⟩:=h.results
   exact⟨Zn e fun q' eq'=>(h.Jj m q' eq').1.symm,Zo e fun q' eq'=>(h.Jj m q' eq').2.symm⟩
  ·rw[Dn a1]at e1
   exact h.Jj m q e1
theorem fJ.dict'{H H':Hp}{dk:Addr}{d:fT}{st:Vblaaf.State}(h:fJ A H dk d st){n:Int}{q r:jl}(eq:d.lots n=some q)(e:r.lot=q.lot)(hd:∀o,H d.eV=some o->H' d.eV=some o):DictAt H' d.eV fun m=>((d.put n r).lots m).map fun r=>V.ref r.lot:=by
 obtain⟨kvs,ns,h1,h2,h3,h4,h5⟩:=h.dict.ex
 refine⟨kvs,ns,hd _ h1,h2,h3,h4,fun m=>?_⟩
 rw[h5]
 show _=(if m=n then some r else d.lots m).map _
 by_cases em:m=n
 ·subst em;rw[bA rfl,eq];show some (V.ref q.lot)=some (V.ref r.lot);rw[e]
 ·rw[bz em]
theorem Ax.put{H:Hp}{dk:Addr}{d:fT}{n:Int}{r:jl}(f1:H r.lot=none∨ ∃q,d.lots n=some q/\r.lot=q.lot)(f2:H r.cP=none∨ ∃q,d.lots n=some q/\r.cP=q.cP)(f3:H r.controls=none∨ ∃q,d.lots n=some q/\r.controls=q.controls){b:Addr}(h:Ax dk (d.put n r) b):Ax dk d b∨H b=none:=by
 rcases h with e | e | e | ⟨m,q,e,h⟩ | e
 ·exact .inl (.inl e)
 ·exact .inl (.inr (.inl e))
 ·exact .inl (.inr (.inr (.inl e)))
 ·by_cases em:m=n
  ·subst em
   have e:some r=some q:=by rw[<-e];exact(bA rfl).symm
   cases e
   rcases h with rfl | rfl | rfl
   ·exact f1.elim .inr fun⟨q,eq,e⟩=>.inl (.inr (.inr (.inr (.inl ⟨m,q,eq,.inl e⟩))))
   ·exact f2.elim .inr fun⟨q,eq,e⟩=>.inl (.inr (.inr (.inr (.inl ⟨m,q,eq,.inr (.inl e)⟩))))
   ·exact f3.elim .inr fun⟨q,eq,e⟩=>.inl (.inr (.inr (.inr (.inl ⟨m,q,eq,.inr (.inr e)⟩))))
  ·have e:d.lots m=some q:=by rw[<-e];exact(bz em).symm
   exact .inl (.inr (.inr (.inr (.inl ⟨m,q,e,h⟩))))
 ·exact .inl (.inr (.inr (.inr (.inr e))))
structure jb(H H':Hp):Prop where
 ins:∀{b C dx:Addr}{fs:List (Str×V)},H b=some (.ins C dx fs)->H' b=some (.ins C dx fs)
 lst:∀{b:Addr}{xs:List V},H b=some (.lst xs)->H' b=some (.lst xs)
theorem jb.trans{H H' H'':Hp}(h:jb H H')(h':jb H' H''):jb H H'':=⟨fun e=>h'.ins (h.ins e),fun e=>h'.lst (h.lst e)⟩
theorem jb.of{H H':Hp}(s:cK H H'):jb H H':=⟨fun e=>s _ _ e,fun e=>s _ _ e⟩
theorem fV.il{α:Type}{R:Hp->Addr->α->Prop}{H H':Hp}{l:Addr}{xs:List α}(h:fV R H l xs)(s:jb H H')(f:∀a x,R H a x->R H' a x):fV R H' l xs:=let ⟨as,e,q⟩:=h;⟨as,s.lst e,q.imp f⟩
theorem kH.il{H H':Hp}{r:jl}{l:Vblaaf.Lot}(h:kH A H r l)(s:jb H H'):kH A H' r l:=
 ⟨let ⟨dx,e⟩:=h.lot;⟨dx,s.ins e⟩,h.cP.il s fun _ _ ⟨dx,e⟩=>⟨dx,s.ins e⟩,h.controls.il s fun _ _ ⟨dx,e⟩=>⟨dx,s.ins e⟩⟩
theorem fQ.il{H H':Hp}{a:Addr}{ps:List Point}(h:fQ A H a ps)(s:jb H H'):fQ A H' a ps:=by
 obtain⟨c,⟨da,h1⟩,h2,h3,h4,h5,h6⟩:=h.ex
 exact⟨c,⟨da,s.ins h1⟩,h2.il s fun _ _ ⟨dx,e⟩=>⟨dx,s.ins e⟩,s.lst h3,h4.il s fun _ _ ⟨dx,e⟩=>⟨dx,s.ins e⟩,h5.il s fun _ _ ⟨dx,e⟩=>⟨dx,s.ins e⟩,h6.il s fun _ _ ⟨dx,e⟩=>⟨dx,s.ins e⟩⟩
theorem lP.il{H H':Hp}{p:Addr}{l:Vblaaf.Lot}(h:lP A H p l)(s:jb H H'):lP A H' p l:=by
 obtain⟨f,⟨dx,h1⟩,h2,h3⟩:=h.ex
 refine⟨f,⟨dx,s.ins h1⟩,h2,fun hn=>?_⟩
 obtain⟨a,e,hc,ho⟩:=h3 hn
 refine⟨a,e,hc.il s,?_⟩
 revert ho
 cases Rc.vP l with
 |none=>exact id
 |some g=>exact fun⟨b,e,dx,q⟩=>⟨b,e,dx,s.ins q⟩
theorem jb.dict{H:Hp}{d:Addr}{o u:HO}(h:H d=some o)(h1:∀C dx fs,o≠ .ins C dx fs)(h2:∀xs,o≠ .lst xs):jb H (L2.upd H d u):=
 ⟨fun e=>by rw[cV (e9 e h (fun z=>h1 _ _ _ z.symm))];exact e,fun e=>by rw[cV (e9 e h (fun z=>h2 _ z.symm))];exact e⟩
def fO(st:Vblaaf.State)(rs:List Vblaaf.Result):List Int:=((rs.zipIdx.filter fun x=>Vblaaf.isChanged st x.1).map fun x=>x.2).map fun(n:Nat)=>(n:Int)
theorem w4(st:Vblaaf.State)(rs:List Vblaaf.Result)(r:Vblaaf.Result):fO st (rs++[r])=fO st rs++(if Vblaaf.isChanged st r=true then [(rs.length:Int)] else []):=by
 unfold fO
 rw[List.zipIdx_append,List.filter_append,ay,ay]
 congr 1
 rw[List.zipIdx_cons,List.zipIdx_nil,bN,List.filter_nil]
 simp only[Nat.zero_add]
 split <;> simp
theorem mz(st:Vblaaf.State)(rs:List Vblaaf.Result):(fO st rs).length≤rs.length:=by
 unfold fO
 rw[aa,aa]
 refine aS (List.length_filter_le _ _) ?_
 rw[List.length_zipIdx]
 exact aA _
theorem Jk{f g:Vblaaf.Found}(h:Vblaaf.foundRow f=Vblaaf.foundRow g):f=g:=by
 cases f with
 |below=>cases g <;> first | rfl | (simp[Vblaaf.foundRow]at h)
 |over_=>cases g <;> first | rfl | (simp[Vblaaf.foundRow]at h)
 |inside a b=>cases g with
  |below=>simp[Vblaaf.foundRow]at h
  |over_=>simp[Vblaaf.foundRow]at h
  |inside c d=>
   simp only[Vblaaf.foundRow,Vblaaf.pair,List.cons_append,List.nil_append,List.cons.injEq,true_and,and_true]at h
   obtain⟨h1,h2,h3,h4⟩:=h
   obtain⟨n1,d1⟩:=a
   obtain⟨n2,d2⟩:=b
   obtain⟨n3,d3⟩:=c
   obtain⟨n4,d4⟩:=d
   simp only at h1 h2 h3 h4
   have h2:d1=d3:=by omega
   have h4:d2=d4:=by omega
   subst h1 h2 h3 h4
   rfl
theorem ME{st:Vblaaf.State}{r:Vblaaf.Result}{l:Vblaaf.Lot}(hl:Vblaaf.lotAt st (r.lot:Int)=some l):Vblaaf.isChanged st r=match Vblaaf.tellBy l r.response r.shifted with
  |.error _=>true
  |.ok f=> !decide (Vblaaf.foundRow f=Vblaaf.foundRow r.told):=by
 unfold Vblaaf.isChanged
 have h2:=(Rc.iZ hl).2.2
 rw[bw]at h2
 rw[List.getD_eq_getElem?_getD,h2]
 show (match Vblaaf.tellBy l r.response r.shifted with | .error _=>true | .ok f=>f != r.told)=_
 cases Vblaaf.tellBy l r.response r.shifted with
 |error e=>rfl
 |ok f=>
  show (f != r.told)= !decide _
  by_cases e:f=r.told
  ·subst e;simp
  ·have:¬Vblaaf.foundRow f=Vblaaf.foundRow r.told:=fun h=>e (Jk h)
   simp[e,this]
theorem Q3{st:Vblaaf.State}(g:Rc.je st){r:Vblaaf.Result}(hr:r∈st.results):∃l,Vblaaf.lotAt st (r.lot:Int)=some l:=by
 obtain⟨l,hl⟩:=g.rt r hr
 have:=(g.rs r hr).lot
 refine⟨l,?_⟩
 unfold Vblaaf.lotAt Vblaaf.isLot
 rw[bA ((Rc.d9 _ _ _).mpr (by omega)),bw,List.getD_eq_getElem?_getD,hl];rfl
def HM(A:gY):Sp:=fun vs H Q _=>∃(dk:Addr)(d:fT)(st:Vblaaf.State),vs=[.ref d.eV,.ref d.results]/\fJ A H dk d st/\Rc.je st/\ ∀(H':Hp)(p:Addr),iw H' p (fO st st.results)->cK H H'->Q (.ref p) H'
abbrev lQ:Stmt:=top 119
theorem pO:cT ["lots","results","standings","number","changed","result"] ["lots","results"] (cJ lQ):=gJ
theorem Ay(T:Txt K mg A)(D:Def K mg "changed_results" lQ ["lots","results"])(mC:GoodC P w K mg base 10 "Standing" A.CS ["self","lot"] (Aw A))(jj:Good P w K mg base 9 "told_result" ["standing","response","off"] (Ji A)):Good P w K mg base 12 "changed_results" ["lots","results"] (HM A):=by
 refine D.good pO (fun _ _ _ _ h=>?_) (fun _ _ _ _ _ H _ Q _ hr h=>?_)
 ·obtain⟨dk,d,st,rfl,_⟩:=h;rfl
 ·obtain⟨dk,d,st,rfl,hD,g,k⟩:=h
  obtain⟨kvs,ns,Oe,hkeys,hnd,h4,hval⟩:=hD.dict.ex
  obtain⟨as,hrl,hrs⟩:=hD.results
  have nl:ns.length≤4:=by
   have:=List.Nodup.length_le_of_subset hnd (l₂:=[0,1,2,3]) fun n hn=>by
    have:=h4 n hn
    have:n=0∨n=1∨n=2∨n=3:=by omega
    rcases this with rfl | rfl | rfl | rfl <;> simp
   exact this
  have kl:kvs.length=ns.length:=by have:=congrArg List.length hkeys;rw[aa,aa]at this;exact this
  have nd:=pO.nd
  have hu:=iX hr
  refine⟨_,(cg (tN (i:=2) nd rfl (Or.inl rfl) AS)
    (cg (M1 (iJ PassesOwn.never rfl (R9 (pv 0)) (qu 3 nd) (cE (DY hu (pv 2) (pv 3) (jY mC hr (b9 (fE hu (pv 0) (pv 3) (fun _ _=>rfl)) cz)) rfl))))
    (cg (gi 4 nd (dc cz))
    (cg (iJ PassesOwn.never rfl (AV rfl T.enumerate (b9 (pv 1) cz)) (zN rfl (iD (qu 3 nd) (iD (qu 5 nd) tM))) (cE (dU (dw (Ut hr.units) (dF jj hr (b9 (fE hu (pv 2) (cH (pv 5) rfl) (fun _ _=>rfl)) (b9 (cH (pv 5) rfl) (b9 (cH (pv 5) rfl) cz)))) (cH (pv 5) rfl) (dQ _)) (cE (iL (nV aP PySem.F.slot_list_append PySem.F.type_list_append k8 (pv 4) (b9 (pv 3) cz)))) cY)))
    (cE (cM (pv 4))))))),?_⟩
  intro W hW
  have dW:d.eV≠W:=dj Oe hW
  have sW:cK H (L2.upd H W (.dK [])):=cK.upd hW
  refine⟨d.eV,.dK kvs,(by rw[cV dW];exact Oe),trivial,fun od=>?_⟩
  refine⟨_,rfl,d.eV,od,rfl,.inl ⟨kvs,cA,QB (kvs:=kvs) (fun i σ H'=>∃(v3:Option V)(sk:List (Key×V)),σ=[some (.ref d.eV),some (.ref d.results),some (.ref W),v3,none,none]/\(∀b o,H b=some o->b≠d.eV->H' b=some o)/\H' d.eV=some (.oR od (.dK kvs))/\H' W=some (.dK sk)/\sk.length≤i/\
    ∀n∈ns.take i,∃q l,iY sk (Sum.inl n)=some (.ref q)/\Vblaaf.lotAt st n=some l/\lP A H' q l) ?_ ?_ ?_ ?_⟩⟩
  ·refine⟨none,[],rfl,fun b o e hb=>?_,cA,?_,aA _,fun n hn=>by simp at hn⟩
   ·rw[cV hb];exact sW _ _ e
   ·rw[cV dW.symm];exact cA
  ·rintro i σ H' _ ⟨v3,sk,_,_,e,_⟩
   exact e
  ·rintro i key v σ H' hk ⟨v3,sk,rfl,hkeep,Q4,hw,hsl,hst⟩
   have hi:=(af.mp hk).1
   have hkn:(kvs.map (·.1))[i]?=some key:=by rw[aE,hk];rfl
   rw[hkeys,aE]at hkn
   obtain⟨n,hn,Zq⟩:=aI.mp hkn
   subst Zq
   have hv:∃r,d.lots n=some r:=by
    have hs:(iY kvs (Sum.inl n)).isSome=true:=by
     have:(kvs.any fun p=>decide (p.1=Sum.inl n))=true:=List.any_eq_true.mpr ⟨(Sum.inl n,v),ak hk,by simp⟩
     rw[m5]at this
     exact this
    rw[hval n,Option.isSome_map]at hs
    exact Option.isSome_iff_exists.mp hs
   obtain⟨r,hr1⟩:=hv
   obtain⟨l,hl,Zr⟩:=hD.lot hr1
   have gl:=Rc.eX g hl
   have il:jb H H':=⟨fun e=>hkeep _ _ e (e9 e Oe (by intro z;cases z)),fun e=>hkeep _ _ e (e9 e Oe (by intro z;cases z))⟩
   have hvv:iY kvs (Sum.inl n)=some (V.ref r.lot):=by rw[hval n,hr1];rfl
   refine⟨_,rfl,_,rfl,d.eV,V.ref r.lot,rfl,(by rw[<-hvv];exact nE.kf Q4),?_⟩
   intro x dx nx kK nex
   refine⟨x,dx,r,l,rfl,cA,(Zr.il il).same (iH nx kK),gl,fun H3 hS kp=>⟨rfl,?_⟩⟩
   have s3:cK H' H3:=cK.made nx kK kp
   have XD:=s3 _ _ hw
   refine⟨_,rfl,_,rfl,W,_,rfl,JN.k (k:=Sum.inl n) XD (dO (by omega)),?_⟩
   have ilW:jb H3 (L2.upd H3 W (.dK (putK sk (Sum.inl n) (.ref x)))):=jb.dict XD (by intro _ _ _ z;cases z) (by intro _ z;cases z)
   refine⟨_,_,rfl,fun b o e hb=>?_,?_,cA,aS (k9 _ _ _) (Nat.succ_le_succ hsl),fun m hm=>?_⟩
   ·rw[cV (dj e hW)];exact s3 _ _ (hkeep b o e hb)
   ·rw[cV dW];exact s3 _ _ Q4
   ·rw[Rc.di hn,bh,bW]at hm
    rw[AQ]
    by_cases Zs:m=n
    ·subst Zs
     rw[bA rfl]
     exact⟨x,l,rfl,hl,hS.il ilW⟩
    ·rw[bz (by intro z;exact Zs (Sum.inl.inj z))]
     obtain⟨q,l',e1,e2,e3⟩:=hst m (hm.resolve_right Zs)
     exact⟨q,l',e1,e2,(e3.same s3).il ilW⟩
  ·rintro σ H' ⟨v3,sk,rfl,hkeep,Q4,hw,hsl,hst⟩
   rw[kl,aK]at hst
   refine⟨Q4,?_⟩
   have ilD:jb H' (L2.upd H' d.eV (.dK kvs)):=jb.dict Q4 (by intro _ _ _ z;cases z) (by intro _ z;cases z)
   have s1:cK H (L2.upd H' d.eV (.dK kvs)):=fun b o e=>by
    by_cases eb:b=d.eV
    ·subst eb;rw[cA,<-Oe];exact e
    ·rw[cV eb];exact hkeep b o e eb
   have hw1:(L2.upd H' d.eV (.dK kvs)) W=some (.dK sk):=by rw[cV dW.symm];exact hw
   have U9:∀n∈ns,∃q l,iY sk (Sum.inl n)=some (.ref q)/\Vblaaf.lotAt st n=some l/\lP A (L2.upd H' d.eV (.dK kvs)) q l:=fun n hn=>let ⟨q,l,e1,e2,e3⟩:=hst n hn;⟨q,l,e1,e2,e3.il ilD⟩
   revert s1 hw1 U9
   generalize L2.upd H' d.eV (.dK kvs)=H1
   intro s1 hw1 U9
   refine⟨Nat.zero_le _,fun p hp=>?_⟩
   have sp:cK H1 (L2.upd H1 p (.lst [])):=cK.upd hp
   have s2:=s1.trans sp
   have hp0:H p=none:=s1.free hp
   refine⟨_,rfl,d.results,_,rfl,dG.of (s2 _ _ hrl),vW (K:=K) (a:=d.results) (xs:=as.map V.ref) (fun i σ H2=>∃(v3 v5:Option V),σ=[some (.ref d.eV),some (.ref d.results),some (.ref W),v3,some (.ref p),v5]/\cK H1 H2/\iw H2 p (fO st (st.results.take i)))
    ⟨_,_,rfl,sp,cA⟩ (fun i σ H2 _ ⟨_,_,_,s,_⟩=>dG.of (s _ _ (s1 _ _ hrl))) ?_ ?_⟩
   ·rintro i y Tp σ H2 hy QT ⟨v3,v5,rfl,Jg,hp3⟩
    have s3:=s1.trans Jg
    have XD:=Jg _ _ hw1
    obtain⟨a,ia,rfl⟩:=f7 hy
    obtain⟨r,ir,Wj⟩:=hrs.get' ia
    have hrm:=ak ir
    have gr:=g.rs r hrm
    have sT:cK H2 (L2.upd H2 Tp (.tup [.int (i:Nat),V.ref a])):=cK.upd QT
    obtain⟨q,_,⟨da,ha⟩,hq⟩:=(Wj.same s3).same sT
    obtain⟨l0,hl0⟩:=Q3 g hrm
    obtain⟨rf,hrf,_⟩:=hD.ref hl0
    have hmem:(r.lot:Int)∈ns:=by
     have hs:(iY kvs (Sum.inl (r.lot:Int))).isSome=true:=by rw[hval,hrf];rfl
     rw[<-m5,List.any_eq_true]at hs
     obtain⟨kv,hkv,e⟩:=hs
     have:kv.1∈kvs.map (·.1):=List.mem_map_of_mem hkv
     rw[hkeys]at this
     obtain⟨n,hn,en⟩:=aQ.mp this
     have e:=bB e
     rw[<-en]at e
     rw[<-Sum.inl.inj e];exact hn
    obtain⟨z,l,ez,el,hz⟩:=U9 _ hmem
    replace hz:=hz.same Jg
    have gl:=Rc.eX g el
    refine⟨Tp,_,rfl,Jr.of cA,rfl,_,_,rfl,_,_,rfl,rfl,?_⟩
    refine⟨_,rfl,_,rfl,a,A.CU,da,_,_,rfl,ha,T.cU,T.mV,vY _,W,V.ref z,rfl,(by rw[<-ez];exact nE.k (k:=Sum.inl (r.lot:Int)) (sT _ _ XD)),?_⟩
    refine⟨_,rfl,a,A.CU,da,_,_,rfl,ha,T.cU,T.qw,A8 _,_,rfl,a,A.CU,da,_,_,rfl,ha,T.cU,T.IM,Nr _,?_⟩
    have hoff:(if r.shifted=true then (1:Int) else 0)=0∨(if r.shifted=true then (1:Int) else 0)=1:=by split <;> simp
    have hsh:((if r.shifted=true then (1:Int) else 0)==1)=r.shifted:=by cases r.shifted <;> rfl
    refine⟨z,l,r.response,_,rfl,hz.same sT,gl,gr.r0,gr.r1,hoff,fun H4 v4 h4 s4=>?_⟩
    rw[hsh]at h4
    have ha:=s4 _ _ ha
    have hq:=hq.same s4
    have s34:=(s3.trans sT).trans s4
    have HH:=(hp3.same sT).same s4
    have XE:=(Jg.trans sT).trans s4
    refine⟨_,rfl,a,A.CU,da,_,_,rfl,ha,T.cU,T.Ba,Hv _,?_⟩
    have tk:=Rc.di ir
    have hil:=(af.mp ir).1
    have tl:(st.results.take i).length=i:=by rw[aJ];omega
    have hcl:=mz st (st.results.take i)
    have aan:=g.rl
    have hch:=ME el
    have yes:Vblaaf.isChanged st r=true-> ∃(v3 v5:Option V),[some (.ref d.eV),some (.ref d.results),some (.ref W),some (.int (i:Nat)),some (.ref p),some (.ref a)]=[some (.ref d.eV),some (.ref d.results),some (.ref W),v3,some (.ref p),v5]/\cK H1 (L2.upd H4 p (.lst ((fO st (st.results.take i)).map V.int++[.int (i:Nat)])))/\iw (L2.upd H4 p (.lst ((fO st (st.results.take i)).map V.int++[.int (i:Nat)]))) p (fO st (st.results.take (i+1))):=by
     intro hc
     refine⟨_,_,rfl,cK.fU XE hp,?_⟩
     rw[tk,w4,bA hc,tl]
     show (L2.upd H4 p _) p=_
     rw[cA,ay];rfl
    have no:Vblaaf.isChanged st r=false->iw H4 p (fO st (st.results.take (i+1))):=by
     intro hc
     rw[tk,w4,bz (by rw[hc];decide),List.append_nil]
     exact HH
    revert h4 hch
    cases Vblaaf.tellBy l r.response r.shifted with
    |error e=>
     intro h4 hch
     have h4:v4= .f6:=h4
     subst h4
     refine⟨.none,.list ((Vblaaf.foundRow r.told).map PyData.int),.f6,.lst (dG.of hq) (Eb _),rfl,shaped_ints _,_,rfl,dI ?_⟩
     exact⟨_,rfl,.inl ⟨rfl,_,dG.of HH⟩,_,rfl,p,_,_,rfl,rfl,HH,dO (by rw[aa];omega),yes hch⟩
    |ok f=>
     intro h4 hch
     obtain⟨c,rfl,_,hc⟩:=h4
     refine⟨.list ((Vblaaf.foundRow f).map PyData.int),.list ((Vblaaf.foundRow r.told).map PyData.int),.lst (dG.of hc) (Eb _),.lst (dG.of hq) (Eb _),shaped_ints _,shaped_ints _,_,rfl,?_⟩
     have ee:(!PyData.eqv (.list ((Vblaaf.foundRow f).map PyData.int)) (.list ((Vblaaf.foundRow r.told).map PyData.int)))=Vblaaf.isChanged st r:=by rw[PyData.eqv,Kv,hch]
     rw[ee]
     cases hx:Vblaaf.isChanged st r with
     |true=>exact dI ⟨_,rfl,.inl ⟨rfl,_,dG.of HH⟩,_,rfl,p,_,_,rfl,rfl,HH,dO (by rw[aa];omega),yes hx⟩
     |false=>exact dR ⟨_,_,rfl,XE,no hx⟩
   ·rintro σ H2 ⟨v3,v5,rfl,Jg,hp3⟩
    rw[aa,hrs.len,aK]at hp3
    exact⟨_,rfl,k H2 p hp3 (s1.trans Jg)⟩
structure Left(A:gY)(H:Hp)(dk:Addr)(d:fT)(o:Vblaaf.State×List Int)(H':Hp)(p:Addr)(d':fT):Prop where
 yw:fJ A H' dk d' o.1
 told:iw H' p o.2
 keep:∀b u,H b=some u-> ¬Ax dk d b->H' b=some u
 new:∀b,Ax dk d' b->Ax dk d b∨H b=none
def Q5(st:Vblaaf.State):Vblaaf.Call->Prop
 |.lot n _=>0≤n/\n≤3
 |.point n _ _ _ _=>∃l,Vblaaf.lotAt st n=some l
 |.unpoint n _=>∃l,Vblaaf.lotAt st n=some l
 |.points n=>∃l,Vblaaf.lotAt st n=some l
 |.fit n=>∃l,Vblaaf.lotAt st n=some l
 |.blocks n=>∃l,Vblaaf.lotAt st n=some l
 |.sums n=>∃l,Vblaaf.lotAt st n=some l
 |.squares n=>∃l,Vblaaf.lotAt st n=some l
 |.trial n _=>∃l,Vblaaf.lotAt st n=some l
 |.value n _ _=>∃l,Vblaaf.lotAt st n=some l
 |.dose n _ _=>∃l,Vblaaf.lotAt st n=some l
 |.step n _=>∃l,Vblaaf.lotAt st n=some l
 |.truth n _=>∃l,Vblaaf.lotAt st n=some l
 |.clash n=>∃l,Vblaaf.lotAt st n=some l
 |.range n _ _=>∃l,Vblaaf.lotAt st n=some l
 |.control n _ _ _=>∃l,Vblaaf.lotAt st n=some l
 |.clear n=>∃l,Vblaaf.lotAt st n=some l
 |.shift n=>∃l,Vblaaf.lotAt st n=some l
 |.gap n m=>(∃l,Vblaaf.lotAt st n=some l)/\ ∃l,Vblaaf.lotAt st m=some l
 |.tick _=>True
 |.read n _ _=>∃l,Vblaaf.lotAt st n=some l
 |.shown _=>True
 |.changed=>True
 |.turn n _ _=>∃l,Vblaaf.lotAt st n=some l
 |.lots=>True
inductive fS:Int->List Int->Vblaaf.Call->Prop
 |lot (n e:Int):fS 0 [n,e] (.lot n e)
 |point (n x y w d:Int):fS 1 [n,x,y,w,d] (.point n x y w d)
 |unpoint (n k:Int):fS 2 [n,k] (.unpoint n k)
 |points (n:Int):fS 3 [n] (.points n)
 |fit (n:Int):fS 4 [n] (.fit n)
 |blocks (n:Int):fS 5 [n] (.blocks n)
 |sums (n:Int):fS 6 [n] (.sums n)
 |squares (n:Int):fS 7 [n] (.squares n)
 |trial (n m:Int) (l:List Int):fS 8 (n::m::l) (.trial n l)
 |value (n a b:Int):fS 9 [n,a,b] (.value n a b)
 |dose (n a b:Int):fS 10 [n,a,b] (.dose n a b)
 |step (n x:Int):fS 11 [n,x] (.step n x)
 |truth (n x:Int):fS 12 [n,x] (.truth n x)
 |clash (n:Int):fS 13 [n] (.clash n)
 |range (n lo hi:Int):fS 14 [n,lo,hi] (.range n lo hi)
 |control (n x y w:Int):fS 15 [n,x,y,w] (.control n x y w)
 |clear (n:Int):fS 16 [n] (.clear n)
 |shift (n:Int):fS 17 [n] (.shift n)
 |gap (n m:Int):fS 18 [n,m] (.gap n m)
 |tick (k:Int):fS 19 [k] (.tick k)
 |read (n r c:Int):fS 20 [n,r,c] (.read n r c)
 |shown (i:Int):fS 21 [i] (.shown i)
 |changed:fS 22 [] .changed
 |turn (n a b:Int):fS 23 [n,a,b] (.turn n a b)
 |lots:fS 24 [] .lots
def fk(A:gY)(k:Int):Sp:=fun vs H Q _=>∃(dk nl:Addr)(d:fT)(st:Vblaaf.State)(ns:List Int)(c:Vblaaf.Call),vs=[.ref dk,.ref nl]/\fJ A H dk d st/\Rc.je st/\iw H nl ns/\ns.length≤16000/\fS k ns c/\Q5 st c/\
 ∀(H':Hp)(p:Addr)(d':fT),Left A H dk d (Vblaaf.step st c) H' p d'->Q (.ref p) H'
theorem fk.len{k:Int}{vs:List V}{H:Hp}{Q:VK}{E:XK}(h:fk A k vs H Q E):vs.length=2:=by
 obtain⟨dk,nl,d,st,ns,c,rfl,_⟩:=h;rfl
theorem Left.same{H H':Hp}{dk p:Addr}{d:fT}{st:Vblaaf.State}{o:Vblaaf.State×List Int}{lU:List Int}(h:fJ A H dk d st)(s:cK H H')(hp:iw H' p lU)(e:o=(st,lU)):Left A H dk d o H' p d:=by
 subst e
 exact⟨h.same s,hp,fun b u e _=>s _ _ e,fun b hb=>.inl hb⟩
theorem Left.same'{H H':Hp}{dk p:Addr}{d:fT}{st:Vblaaf.State}{o:Vblaaf.State×List Int}{lU:List Int}(h:fJ A H dk d st)(s:cK H H')(e:o=(st,lU))(hp:H' p=some (.lst (lU.map V.int))):Left A H dk d o H' p d:=Left.same h s hp e
theorem fJ.open_{H:Hp}{dk:Addr}{d:fT}{st:Vblaaf.State}{n:Int}{l:Vblaaf.Lot}(h:fJ A H dk d st)(hl:Vblaaf.lotAt st n=some l):∃(r:jl)(jm dl:Addr),d.lots n=some r/\H dk=some (.ins A.CD jm (Sy ⟨st.now,d.eV,d.results⟩))/\nE H d.eV (.int n) (some (.ref r.lot))/\
  H r.lot=some (.ins A.CL dl (QD ⟨l.expires,r.cP,r.controls⟩))/\fV (vn A) H r.cP l.points/\fV (Ce A) H r.controls l.controls:=by
 obtain⟨r,hr,⟨dl,h1⟩,h2,h3⟩:=h.ref hl
 obtain⟨jm,h4⟩:=h.yw
 obtain⟨kvs,ns,h5,_,_,_,h6⟩:=h.dict.ex
 refine⟨r,jm,dl,hr,h4,?_,h1,h2,h3⟩
 have:iY kvs (Sum.inl n)=some (V.ref r.lot):=by rw[h6,hr];rfl
 rw[<-this]
 exact nE.k (k:=Sum.inl n) h5
theorem d8{st:Vblaaf.State}{n:Int}{l:Vblaaf.Lot}{f:Vblaaf.Lot->Vblaaf.State×List Int}(h:Vblaaf.lotAt st n=some l):Vblaaf.withLot st n f=f l:=by
 unfold Vblaaf.withLot
 have h0:=Rc.iZ h
 have:¬Vblaaf.isLot n=false:=by
  have:Vblaaf.isLot n=true:=(Rc.d9 _ _ _).mpr ⟨h0.1,h0.2.1⟩
  rw[this];decide
 rw[bz this,h]
theorem dH{H:Hp}{n:Int}{Q:VK}(k:∀p,iw (L2.upd H p (.lst [V.int n])) p [n]->cK H (L2.upd H p (.lst [V.int n]))->Q (.ref p) (L2.upd H p (.lst [V.int n]))):([V.int n].length≤sizeLine)/\ ∀p,H p=none->Q (.ref p) (L2.upd H p (.lst [V.int n])):=
 ⟨eL (by show 1≤100000;decide),fun p hp=>k p cA (cK.upd hp)⟩
theorem oO{α:Type}{f:α->List Int}{l:List α}{i:Nat}{x:α}(h:l[i]?=some x):(l.take (i+1)).flatMap f=(l.take i).flatMap f++f x:=by rw[Rc.di h,List.flatMap_append];simp
theorem jM{α:Type}{f:α->List Int}{m:Nat}(hf:∀x,(f x).length≤m):∀l:List α,(l.flatMap f).length≤m*l.length
 |[]=>Nat.zero_le _
 |x::l=>by
  rw[List.flatMap_cons,ao,aj,Nat.mul_succ]
  have:=jM hf l
  have:=hf x
  omega
theorem w6{α:Type}{l:List α}{m:Nat}(h:l.length≤m)(i:Nat):(l.take i).length≤m:=by rw[aJ];omega
theorem iw.upd{H:Hp}{p:Addr}{ns ms:List Int}:iw (L2.upd H p (.lst (ns.map V.int++ms.map V.int))) p (ns++ms):=by
 show (L2.upd H p _) p=_
 rw[cA,ay]
theorem iI{as:List Addr}{ps:List Point}{R:Addr->Point->Prop}(h:fq R as ps):decide (V.int (((as.map V.ref).length:Nat):Int)=V.int 0)=ps.isEmpty:=by
 rw[aa,h.len]
 cases ps with
 |nil=>rfl
 |cons a ps=>
  refine aW ?_
  intro q;injection q with q
  simp at q
  omega
abbrev ux:Stmt:=top 80
theorem zh:cT ["desk","numbers","readings","curve","answer","dose","height"] ["desk","numbers"] (cJ ux):=gJ
theorem GC(T:Txt K mg A)(D:Def K mg "answer_fit" ux ["desk","numbers"])(eT:GoodC P w K mg base 8 "Curve" A.CC ["self","readings"] (kN A))(fZ:Good P w K mg base 3 "told" ["fraction"] (gE A (ze A) Vblaaf.pair)):Good P w K mg base 10 "answer_fit" ["desk","numbers"] (fk A 4):=by
 refine D.good zh (fun _ _ _ _ h=>?_) (fun _ _ _ _ _ H _ Q _ hr h=>?_)
 ·exact h.len
 ·obtain⟨dk,nl,d,st,ns,c,rfl,hD,g,hnl,lF,hc,ht,k⟩:=h
  cases hc
  rename_i n
  obtain⟨l,hl⟩:=ht
  have gl:=Rc.eX g hl
  obtain⟨r,jm,dl,hr0,jV,hget,hlt,hR,hO⟩:=hD.open_ hl
  obtain⟨as,oj,pN⟩:=id hR
  have es:Vblaaf.step st (.fit n)=if Vblaaf.noPoints l=true then (st,[-5]) else (st,[0,((Vblaaf.curve l.points).length:Int)]++(Vblaaf.curve l.points).flatMap fun k=>k.1::Vblaaf.pair k.2):=d8 hl
  unfold Vblaaf.noPoints at es
  have nd:=zh.nd
  have hu:=iX hr
  refine⟨_,(cg (gi 2 nd (cH (fE hu (cH (pv 0) rfl) (dN cW (pv 1) cN (fun _ _=>rfl)) (fun _ _=>rfl)) rfl))
    (cg (dU (dw kZ (dD cX (by rfl) T.len aG (b9 (pv 2) cz)) cN (dQ _)) (cE (cM (dc (b9 (dB rfl T.fD) cz)))) cY)
    (cg (gi 3 nd (jY eT hr (b9 (pv 2) cz)))
    (cg (gi 4 nd (dc (b9 cN (b9 (dD cX (by rfl) T.len aG (b9 (cH (pv 3) rfl) cz)) cz))))
    (cg (iJ PassesOwn.never rfl (PF rfl T.zip (b9 (cH (pv 3) rfl) (b9 (cH (pv 3) rfl) cz))) (zN rfl (iD (qu 5 nd) (iD (qu 6 nd) tM))) (cE (iL (nV aP PySem.F.slot_list_extend PySem.F.type_list_extend lW (pv 4) (b9 (dJ jo (dc (b9 (pv 5) cz)) (dF fZ hr (b9 (pv 6) cz))) cz)))))
    (cE (cM (pv 4)))))))),?_⟩
  refine⟨_,rfl,dk,A.CD,jm,_,_,rfl,jV,T.cD,T.fu,fc _,_,rfl,nl,_,0,V.int n,rfl,rfl,dG.of hnl,at_of (j:=0) rfl rfl,d.eV,V.ref r.lot,rfl,hget,r.lot,A.CL,dl,_,_,rfl,hlt,T.cL,T.dY,d7 _,?_⟩
  refine⟨_,rfl,r.cP,_,rfl,.inl (dG.of oj),rfl,_,rfl,?_⟩
  rw[iI pN]
  cases hne:l.points.isEmpty with
  |true=>
   rw[hne,bA rfl]at es
   exact dI (dH fun p hp s=>k _ p d (.same hD s hp es))
  |false=>
   rw[hne,bz (by decide)]at es
   have Mt:=Rc.fF l.points
   have c40:(Vblaaf.curve l.points).length≤40:=by rw[Mt];exact aS (Rc.fh _) gl.ps.len
   refine dR ⟨_,rfl,fun cu GB nx kK _=>⟨cu,GB,r.cP,l.points,rfl,cA,hR.same (iH nx kK) (fun _ _ h=>h.same (iH nx kK)),gl.ps,fun H1 hcu kp=>⟨rfl,?_⟩⟩⟩
   have s1:cK H H1:=cK.made nx kK kp
   obtain⟨c,⟨da,ha⟩,hsg,hds,hws,EX,Eg⟩:=hcu.ex
   generalize aao:cu=a at*
   obtain⟨fa,Jt,ND⟩:=id Eg
   refine⟨_,rfl,a,A.CC,da,_,_,rfl,ha,T.cC,T.jL,lB c,c.doses,_,rfl,.inl (dG.of hds),eL (by show 2≤100000;decide),fun p hp=>?_⟩
   have sp:=cK.upd (o:=.lst [V.int 0,V.int (((((Vblaaf.heaps l.points).map (·.dose)).map V.int).length:Nat):Int)]) hp
   have el:((((Vblaaf.heaps l.points).map (·.dose)).map V.int).length)=(Vblaaf.curve l.points).length:=by rw[aa,aa,Mt]
   have ha2:=sp _ _ ha
   have fl:fa.length=(Vblaaf.heaps l.points).length:=by rw[ND.len,Rc.eO]
   have ha:=ha2
   refine⟨_,rfl,a,A.CC,da,_,_,rfl,ha,T.cC,T.jL,lB c,_,rfl,a,A.CC,da,_,_,rfl,ha,T.cC,T.f9,gn c,c.doses,c.gA,_,_,rfl,dG.of (sp _ _ hds),dG.of (sp _ _ Jt),Nl (K:=K) (xs:=((Vblaaf.heaps l.points).map (·.dose)).map V.int) (ys:=fa.map V.ref)
    (fun i σ H'=>∃(v5 v6:Option V),σ=[some (.ref dk),some (.ref nl),some (.ref r.cP),some (.ref a),some (.ref p),v5,v6]/\cK H1 H'/\iw H' p ([0,((Vblaaf.curve l.points).length:Int)]++((Vblaaf.curve l.points).take i).flatMap fun k=>k.1::Vblaaf.pair k.2))
    (by rw[aa,aa,aa,fl]) ⟨none,none,rfl,sp,?_⟩ (fun i σ H' _ ⟨_,_,_,s,_⟩=>⟨dG.of (s _ _ hds),dG.of (s _ _ Jt)⟩) ?_ ?_⟩
   ·show (L2.upd H1 p _) p=_
    rw[cA,el]
    simp
   ·rintro i x y Tp σ H' hx hy QT ⟨v5,v6,rfl,s,qP⟩
    obtain⟨x0,ix,rfl⟩:=int_at hx
    obtain⟨f,jf,rfl⟩:=f7 hy
    obtain⟨f0,Xw,SN⟩:=ND.get' jf
    have kn:=Rc.Sh ix Xw
    have sT:cK H' (L2.upd H' Tp (.tup [V.int x0,V.ref f])):=cK.upd QT
    refine⟨Tp,_,rfl,Jr.of cA,rfl,_,_,rfl,_,_,rfl,rfl,?_⟩
    have hp2:=qP.same sT
    refine⟨_,rfl,.inl ⟨rfl,_,dG.of hp2⟩,_,rfl,eL (by show 1≤100000;decide),fun q hq=>?_⟩
    have sq:=cK.upd (o:=.lst [V.int x0]) hq
    refine⟨_,rfl,_,f0,rfl,⟨f,rfl,((SN.same s).same sT).same sq⟩,fun H3 q3 h3 s3=>?_⟩
    refine gz (ns:=[x0]) (s3 _ _ cA) h3 (by show 1+2≤100000;decide) fun q4 Lo=>?_
    have s4:=cK.upd (o:=.lst (([x0]++Vblaaf.pair f0).map V.int)) Lo
    have RG:=((sT.trans sq).trans s3).trans s4
    have HH:=qP.same RG
    refine⟨p,q4,_,_,rfl,rfl,HH,cA,eL ?_,?_⟩
    ·rw[aa,aa,ao]
     have:=jM (f:=fun k:Knot=>k.1::Vblaaf.pair k.2) (m:=3) (fun x=>aA _) ((Vblaaf.curve l.points).take i)
     have:=w6 c40 i
     show 2+_+3≤100000
     omega
    ·refine⟨_,_,rfl,cK.fU (s.trans RG) hp,?_⟩
     rw[oO kn,<-bT]
     exact iw.upd
   ·rintro σ H' ⟨v5,v6,rfl,s,qP⟩
    rw[el,aK]at qP
    exact⟨_,rfl,k H' p d (.same hD (s1.trans s) qP es)⟩
theorem Jl(ns:List Int)(lo hi:Option Int):Em (ns.map V.int) lo hi=((ns.drop (HT.Gg ns.length 0 lo)).take (HT.Gg ns.length ns.length hi-HT.Gg ns.length 0 lo)).map V.int:=by
 unfold Em
 rw[aa,<-List.map_drop,<-List.map_take]
theorem BA(x:Block):([x.first,x.last,(x.doses:Int),x.weight]++Vblaaf.pair (mean x)).length≤6:=aA _
abbrev nQ:Stmt:=top 81
theorem sV:cT ["desk","numbers","readings","blocks","answer","block"] ["desk","numbers"] (cJ nQ):=gJ
theorem CH(T:Txt K mg A)(D:Def K mg "answer_blocks" nQ ["desk","numbers"])(eT:GoodC P w K mg base 8 "Curve" A.CC ["self","readings"] (kN A))(fZ:Good P w K mg base 3 "told" ["fraction"] (gE A (ze A) Vblaaf.pair))(iV:Good P w K mg base 6 "block_height" ["block"] (Fb A)):Good P w K mg base 10 "answer_blocks" ["desk","numbers"] (fk A 5):=by
 refine D.good sV (fun _ _ _ _ h=>?_) (fun _ _ _ _ _ H _ Q _ hr h=>?_)
 ·exact h.len
 ·obtain⟨dk,nl,d,st,ns,c,rfl,hD,g,hnl,lF,hc,ht,k⟩:=h
  cases hc
  rename_i n
  obtain⟨l,hl⟩:=ht
  have gl:=Rc.eX g hl
  obtain⟨r,jm,dl,hr0,jV,hget,hlt,hR,hO⟩:=hD.open_ hl
  obtain⟨as,oj,pN⟩:=id hR
  have es:Vblaaf.step st (.blocks n)=if Vblaaf.noPoints l=true then (st,[-5]) else (st,[0,((Vblaaf.blocks l.points).length:Int)]++(Vblaaf.blocks l.points).flatMap fun x=>[x.first,x.last,(x.doses:Int),x.weight]++Vblaaf.pair (mean x)):=d8 hl
  unfold Vblaaf.noPoints at es
  have nd:=sV.nd
  have hu:=iX hr
  refine⟨_,(cg (gi 2 nd (cH (fE hu (cH (pv 0) rfl) (dN cW (pv 1) cN (fun _ _=>rfl)) (fun _ _=>rfl)) rfl))
    (cg (dU (dw kZ (dD cX (by rfl) T.len aG (b9 (pv 2) cz)) cN (dQ _)) (cE (cM (dc (b9 (dB rfl T.fD) cz)))) cY)
    (cg (gi 3 nd (cH (jY eT hr (b9 (pv 2) cz)) rfl))
    (cg (gi 4 nd (dc (b9 cN (b9 (dD cX (by rfl) T.len aG (b9 (pv 3) cz)) cz))))
    (cg (iJ PassesOwn.never rfl (fL (pv 3)) (qu 5 nd) (cE (iL (nV aP PySem.F.slot_list_extend PySem.F.type_list_extend lW (pv 4) (b9 (dJ jo (dc (b9 (cH (pv 5) rfl) (b9 (cH (pv 5) rfl) (b9 (cH (pv 5) rfl) (b9 (cH (pv 5) rfl) cz))))) (dF fZ hr (b9 (dF iV hr (b9 (pv 5) cz)) cz))) cz)))))
    (cE (cM (pv 4)))))))),?_⟩
  refine⟨_,rfl,dk,A.CD,jm,_,_,rfl,jV,T.cD,T.fu,fc _,_,rfl,nl,_,0,V.int n,rfl,rfl,dG.of hnl,at_of (j:=0) rfl rfl,d.eV,V.ref r.lot,rfl,hget,r.lot,A.CL,dl,_,_,rfl,hlt,T.cL,T.dY,d7 _,?_⟩
  refine⟨_,rfl,r.cP,_,rfl,.inl (dG.of oj),rfl,_,rfl,?_⟩
  rw[iI pN]
  cases hne:l.points.isEmpty with
  |true=>
   rw[hne,bA rfl]at es
   exact dI (dH fun p hp s=>k _ p d (.same hD s hp es))
  |false=>
   rw[hne,bz (by decide)]at es
   have Zt:=Cp gl.ps
   refine dR ⟨_,rfl,fun a GB nx kK _=>⟨a,GB,r.cP,l.points,rfl,cA,hR.same (iH nx kK) (fun _ _ h=>h.same (iH nx kK)),gl.ps,fun H1 hcu kp=>⟨rfl,?_⟩⟩⟩
   have s1:cK H H1:=cK.made nx kK kp
   obtain⟨c,⟨da,ha⟩,hsg,hds,hws,⟨ba,EX,QO⟩,Eg⟩:=hcu.ex
   refine⟨a,A.CC,da,_,_,rfl,ha,T.cC,T.yh,Mi c,?_⟩
   refine⟨_,rfl,c.blocks,_,rfl,.inl (dG.of EX),eL (by show 2≤100000;decide),fun p hp=>?_⟩
   have el:(ba.map V.ref).length=(Vblaaf.blocks l.points).length:=by rw[aa,QO.len]
   have sp:=cK.upd (o:=.lst [V.int 0,V.int (((ba.map V.ref).length:Nat):Int)]) hp
   refine⟨_,rfl,c.blocks,rfl,⟨_,dG.of (sp _ _ EX)⟩,j8 (K:=K) (a:=c.blocks) (xs:=ba.map V.ref) (fun i σ H'=>∃v5:Option V,σ=[some (.ref dk),some (.ref nl),some (.ref r.cP),some (.ref c.blocks),some (.ref p),v5]/\cK H1 H'/\iw H' p ([0,((Vblaaf.blocks l.points).length:Int)]++((Vblaaf.blocks l.points).take i).flatMap fun x=>[x.first,x.last,(x.doses:Int),x.weight]++Vblaaf.pair (mean x)))
    ⟨none,rfl,sp,?_⟩ (fun i σ H' _ ⟨_,_,s,_⟩=>dG.of (s _ _ EX)) ?_ ?_⟩
   ·show (L2.upd H1 p _) p=_
    rw[cA,el]
    simp
   ·rintro i y σ H' hy ⟨v5,rfl,s,qP⟩
    obtain⟨b,ib,rfl⟩:=f7 hy
    obtain⟨x,ix,hx⟩:=QO.get' ib
    have gx:=gl.ps.blocks x (ak ix)
    obtain⟨db,hb⟩:=hx.same s
    refine⟨_,rfl,.inl ⟨rfl,_,dG.of qP⟩,_,rfl,b,A.CB,db,_,_,rfl,hb,T.cB,T.vZ,Cd x,_,rfl,b,A.CB,db,_,_,rfl,hb,T.cB,T.Ec,Kw x,_,rfl,b,A.CB,db,_,_,rfl,hb,T.cB,T.yg,A6 x,_,rfl,b,A.CB,db,_,_,rfl,hb,T.cB,T.jQ,kQ x,eL (by show 4≤100000;decide),fun q hq=>?_⟩
    have sq:=cK.upd (o:=.lst [V.int x.first,V.int x.last,V.int (x.doses:Nat),V.int x.weight]) hq
    refine⟨_,rfl,b,x,rfl,⟨db,sq _ _ hb⟩,gx,fun H2 f hf s2=>?_⟩
    refine⟨_,_,rfl,⟨f,rfl,hf⟩,fun H3 q3 h3 s3=>?_⟩
    refine gz (ns:=[x.first,x.last,(x.doses:Int),x.weight]) (s3 _ _ (s2 _ _ cA)) h3 (by show 4+2≤100000;decide) fun q4 Lo=>?_
    have s4:=cK.upd (o:=.lst (([x.first,x.last,(x.doses:Int),x.weight]++Vblaaf.pair (mean x)).map V.int)) Lo
    have RG:=((sq.trans s2).trans s3).trans s4
    have HH:=qP.same RG
    refine⟨p,q4,_,_,rfl,rfl,HH,cA,eL ?_,?_⟩
    ·rw[aa,aa,ao]
     have:=jM (f:=fun x:Block=>[x.first,x.last,(x.doses:Int),x.weight]++Vblaaf.pair (mean x)) (m:=6) BA ((Vblaaf.blocks l.points).take i)
     have:=w6 Zt i
     show 2+_+6≤100000
     omega
    ·refine⟨_,rfl,cK.fU (s.trans RG) hp,?_⟩
     rw[oO ix,<-bT]
     exact iw.upd
   ·rintro σ H' ⟨v5,rfl,s,qP⟩
    rw[el,aK]at qP
    exact⟨_,rfl,k H' p d (.same hD (s1.trans s) qP es)⟩
abbrev rj:Stmt:=top 82
theorem w9:cT ["desk","numbers","readings","sums","answer","running"] ["desk","numbers"] (cJ rj):=gJ
theorem FL(T:Txt K mg A)(D:Def K mg "answer_sums" rj ["desk","numbers"])(pP:Good P w K mg base 7 "running_sums" ["curve"] (QS A))(eT:GoodC P w K mg base 8 "Curve" A.CC ["self","readings"] (kN A))(fZ:Good P w K mg base 3 "told" ["fraction"] (gE A (ze A) Vblaaf.pair)):Good P w K mg base 10 "answer_sums" ["desk","numbers"] (fk A 6):=by
 refine D.good w9 (fun _ _ _ _ h=>?_) (fun _ _ _ _ _ H _ Q _ hr h=>?_)
 ·exact h.len
 ·obtain⟨dk,nl,d,st,ns,c,rfl,hD,g,hnl,lF,hc,ht,k⟩:=h
  cases hc
  rename_i n
  obtain⟨l,hl⟩:=ht
  have gl:=Rc.eX g hl
  obtain⟨r,jm,dl,hr0,jV,hget,hlt,hR,hO⟩:=hD.open_ hl
  obtain⟨as,oj,pN⟩:=id hR
  have es:Vblaaf.step st (.sums n)=if Vblaaf.noPoints l=true then (st,[-5]) else (st,[0,((Vblaaf.above l.points).length:Int)]++(Vblaaf.above l.points).flatMap Vblaaf.pair):=d8 hl
  unfold Vblaaf.noPoints at es
  have nd:=w9.nd
  have hu:=iX hr
  refine⟨_,(cg (gi 2 nd (cH (fE hu (cH (pv 0) rfl) (dN cW (pv 1) cN (fun _ _=>rfl)) (fun _ _=>rfl)) rfl))
    (cg (dU (dw kZ (dD cX (by rfl) T.len aG (b9 (pv 2) cz)) cN (dQ _)) (cE (cM (dc (b9 (dB rfl T.fD) cz)))) cY)
    (cg (gi 3 nd (dF pP hr (b9 (jY eT hr (b9 (pv 2) cz)) cz)))
    (cg (gi 4 nd (dc (b9 cN (b9 (dD cX (by rfl) T.len aG (b9 (pv 3) cz)) cz))))
    (cg (iJ PassesOwn.never rfl (fL (pv 3)) (qu 5 nd) (cE (iL (nV aP PySem.F.slot_list_extend PySem.F.type_list_extend lW (pv 4) (b9 (dF fZ hr (b9 (pv 5) cz)) cz)))))
    (cE (cM (pv 4)))))))),?_⟩
  refine⟨_,rfl,dk,A.CD,jm,_,_,rfl,jV,T.cD,T.fu,fc _,_,rfl,nl,_,0,V.int n,rfl,rfl,dG.of hnl,at_of (j:=0) rfl rfl,d.eV,V.ref r.lot,rfl,hget,r.lot,A.CL,dl,_,_,rfl,hlt,T.cL,T.dY,d7 _,?_⟩
  refine⟨_,rfl,r.cP,_,rfl,.inl (dG.of oj),rfl,_,rfl,?_⟩
  rw[iI pN]
  cases hne:l.points.isEmpty with
  |true=>
   rw[hne,bA rfl]at es
   exact dI (dH fun p hp s=>k _ p d (.same hD s hp es))
  |false=>
   rw[hne,bz (by decide)]at es
   have Zt:(Vblaaf.above l.points).length≤40:=by rw[Rc.EJ,aa,List.length_range];exact aS (Rc.fh _) gl.ps.len
   refine dR ⟨_,rfl,fun a GB nx kK _=>⟨a,GB,r.cP,l.points,rfl,cA,hR.same (iH nx kK) (fun _ _ h=>h.same (iH nx kK)),gl.ps,fun H1 hcu kp=>⟨rfl,?_⟩⟩⟩
   have s1:cK H H1:=cK.made nx kK kp
   refine⟨a,l.points,rfl,hcu,gl.ps,fun H2 S ⟨ba,EX,QO⟩ s2=>?_⟩
   refine⟨_,rfl,S,_,rfl,.inl (dG.of EX),eL (by show 2≤100000;decide),fun p hp=>?_⟩
   have el:(ba.map V.ref).length=(Vblaaf.above l.points).length:=by rw[aa,QO.len]
   have sp:=cK.upd (o:=.lst [V.int 0,V.int (((ba.map V.ref).length:Nat):Int)]) hp
   refine⟨_,rfl,S,rfl,⟨_,dG.of (sp _ _ EX)⟩,j8 (K:=K) (a:=S) (xs:=ba.map V.ref) (fun i σ H'=>∃v5:Option V,σ=[some (.ref dk),some (.ref nl),some (.ref r.cP),some (.ref S),some (.ref p),v5]/\cK H2 H'/\iw H' p ([0,((Vblaaf.above l.points).length:Int)]++((Vblaaf.above l.points).take i).flatMap Vblaaf.pair))
    ⟨none,rfl,sp,?_⟩ (fun i σ H' _ ⟨_,_,s,_⟩=>dG.of (s _ _ EX)) ?_ ?_⟩
   ·show (L2.upd H2 p _) p=_
    rw[cA,el]
    simp
   ·rintro i y σ H' hy ⟨v5,rfl,s,qP⟩
    obtain⟨b,ib,rfl⟩:=f7 hy
    obtain⟨x,ix,hx⟩:=QO.get' ib
    refine⟨_,rfl,.inl ⟨rfl,_,dG.of qP⟩,_,rfl,_,_,rfl,⟨b,rfl,hx.same s⟩,fun H3 q3 h3 s3=>?_⟩
    have HH:=qP.same s3
    refine⟨p,q3,_,_,rfl,rfl,HH,h3,eL ?_,?_⟩
    ·rw[aa,aa,ao]
     have:=jM (f:=Vblaaf.pair) (m:=2) (fun x=>aA _) ((Vblaaf.above l.points).take i)
     have:=w6 Zt i
     show 2+_+2≤100000
     omega
    ·refine⟨_,rfl,cK.fU (s.trans s3) hp,?_⟩
     rw[oO ix,<-bT]
     exact iw.upd
   ·rintro σ H' ⟨v5,rfl,s,qP⟩
    rw[el,aK]at qP
    exact⟨_,rfl,k H' p d (.same hD ((s1.trans s2).trans s) qP es)⟩
theorem NO{ps:List Point}{p:Point}(h:p∈ps):p.dose∈(Vblaaf.heaps ps).map (·.dose):=by
 rw[Rc.xY];exact List.mem_map_of_mem h
theorem oE(ps:List Point):Vblaaf.curve ps=((Vblaaf.heaps ps).map (·.dose)).zip (Rc.dh (Vblaaf.blocks ps)):=by
 refine List.ext_getElem? fun i=>?_
 cases h:(Vblaaf.curve ps)[i]? with
 |none=>
  have:=List.getElem?_eq_none_iff.mp h
  rw[Rc.fF]at this
  rw[bf (by rw[List.length_zip,aa];omega)]
 |some k=>rw[(List.getElem?_zip_eq_some (z:=k)).mpr ⟨Rc.fG h,Rc.fC h⟩]
abbrev mD:Stmt:=top 83
theorem qH:cT ["desk","numbers","readings","curve"] ["desk","numbers"] (cJ mD):=gJ
theorem BB(T:Txt K mg A)(D:Def K mg "answer_squares" mD ["desk","numbers"])(eT:GoodC P w K mg base 8 "Curve" A.CC ["self","readings"] (kN A))(fZ:Good P w K mg base 3 "told" ["fraction"] (gE A (ze A) Vblaaf.pair))(jT:Good P w K mg base 7 "square_sum" ["readings","doses","heights"] (Fg A)):Good P w K mg base 10 "answer_squares" ["desk","numbers"] (fk A 7):=by
 refine D.good qH (fun _ _ _ _ h=>?_) (fun _ _ _ _ _ H _ Q _ hr h=>?_)
 ·exact h.len
 ·obtain⟨dk,nl,d,st,ns,c,rfl,hD,g,hnl,lF,hc,ht,k⟩:=h
  cases hc
  rename_i n
  obtain⟨l,hl⟩:=ht
  have gl:=Rc.eX g hl
  obtain⟨r,jm,dl,hr0,jV,hget,hlt,hR,hO⟩:=hD.open_ hl
  obtain⟨as,oj,pN⟩:=id hR
  have es:Vblaaf.step st (.squares n)=if Vblaaf.noPoints l=true then (st,[-5]) else (st,Vblaaf.pair (Vblaaf.squaresBy l.points (Vblaaf.curve l.points))):=d8 hl
  unfold Vblaaf.noPoints at es
  have nd:=qH.nd
  have hu:=iX hr
  refine⟨_,(cg (gi 2 nd (cH (fE hu (cH (pv 0) rfl) (dN cW (pv 1) cN (fun _ _=>rfl)) (fun _ _=>rfl)) rfl))
    (cg (dU (dw kZ (dD cX (by rfl) T.len aG (b9 (pv 2) cz)) cN (dQ _)) (cE (cM (dc (b9 (dB rfl T.fD) cz)))) cY)
    (cg (gi 3 nd (jY eT hr (b9 (pv 2) cz)))
    (cE (cM (dF fZ hr (b9 (dF jT hr (b9 (pv 2) (b9 (cH (pv 3) rfl) (b9 (cH (pv 3) rfl) cz)))) cz))))))),?_⟩
  refine⟨_,rfl,dk,A.CD,jm,_,_,rfl,jV,T.cD,T.fu,fc _,_,rfl,nl,_,0,V.int n,rfl,rfl,dG.of hnl,at_of (j:=0) rfl rfl,d.eV,V.ref r.lot,rfl,hget,r.lot,A.CL,dl,_,_,rfl,hlt,T.cL,T.dY,d7 _,?_⟩
  refine⟨_,rfl,r.cP,_,rfl,.inl (dG.of oj),rfl,_,rfl,?_⟩
  rw[iI pN]
  cases hne:l.points.isEmpty with
  |true=>
   rw[hne,bA rfl]at es
   exact dI (dH fun p hp s=>k _ p d (.same hD s hp es))
  |false=>
   rw[hne,bz (by decide)]at es
   refine dR ⟨_,rfl,fun a GB nx kK _=>⟨a,GB,r.cP,l.points,rfl,cA,hR.same (iH nx kK) (fun _ _ h=>h.same (iH nx kK)),gl.ps,fun H1 hcu kp=>⟨rfl,?_⟩⟩⟩
   have s1:cK H H1:=cK.made nx kK kp
   obtain⟨c,⟨da,ha⟩,hsg,hds,hws,EX,Eg⟩:=hcu.ex
   refine⟨_,rfl,_,rfl,a,A.CC,da,_,_,rfl,ha,T.cC,T.jL,lB c,_,rfl,a,A.CC,da,_,_,rfl,ha,T.cC,T.f9,gn c,r.cP,c.doses,c.gA,l.points,_,_,rfl,hR.same s1 (fun _ _ h=>h.same s1),hds,Eg,gl.ps,Rc.C0 _,(by rw[Rc.eO,aa]),fun p hp=>NO hp,gl.ps.gA,fun H2 q hq s2=>?_⟩
   refine⟨_,_,rfl,⟨q,rfl,hq⟩,fun H3 p hp s3=>?_⟩
   refine k H3 p d (.same hD ((s1.trans s2).trans s3) hp ?_)
   rw[es,oE,Rc.yD]
theorem Q6(vs:List Int):vs.all Vblaaf.okResponse=(vs.map dZ).all id:=by rw[List.all_map];rfl
abbrev pQ:Stmt:=top 84
theorem uU:cT ["desk","numbers","readings","tried","doses","squares","number"] ["desk","numbers"] (cJ pQ):=gJ
theorem DL(T:Txt K mg A)(D:Def K mg "answer_trial" pQ ["desk","numbers"])(jT:Good P w K mg base 7 "square_sum" ["readings","doses","heights"] (Fg A))(eT:GoodC P w K mg base 8 "Curve" A.CC ["self","readings"] (kN A))(eN:Good P w K mg base 6 "whole" ["number"] (mW A))(rm:Good P w K mg base 3 "never_falls" ["numbers"] NF)(gj:Good P w K mg base 3 "is_response" ["number"] (pH dZ)):Good P w K mg base 10 "answer_trial" ["desk","numbers"] (fk A 8):=by
 refine D.good uU (fun _ _ _ _ h=>?_) (fun _ _ _ _ _ H _ Q _ hr h=>?_)
 ·exact h.len
 ·obtain⟨dk,nl,d,st,ns,c,rfl,hD,g,hnl,lF,hc,ht,k⟩:=h
  cases hc
  rename_i n m vs
  obtain⟨l,hl⟩:=ht
  have gl:=Rc.eX g hl
  obtain⟨r,jm,dl,hr0,jV,hget,hlt,hR,hO⟩:=hD.open_ hl
  obtain⟨as,oj,pN⟩:=id hR
  have vl:vs.length≤16000:=by simp only[aj]at lF;omega
  have es:Vblaaf.step st (.trial n vs)=if Vblaaf.noPoints l=true then (st,[-5]) else if (vs.length==(Vblaaf.heaps l.points).length&&vs.all Vblaaf.okResponse)=false then (st,[-3])
   else (st,[(Vblaaf.squaresBy l.points (((Vblaaf.heaps l.points).zip vs).map fun x=>(x.1.dose,whole x.2))).num,if Vblaaf.isRising vs=true then 1 else 0]):=d8 hl
  unfold Vblaaf.noPoints at es
  have nd:=uU.nd
  have hu:=iX hr
  refine⟨_,(cg (gi 2 nd (cH (fE hu (cH (pv 0) rfl) (dN cW (pv 1) cN (fun _ _=>rfl)) (fun _ _=>rfl)) rfl))
    (cg (dU (dw kZ (dD cX (by rfl) T.len aG (b9 (pv 2) cz)) cN (dQ _)) (cE (cM (dc (b9 (dB rfl T.fD) cz)))) cY)
    (cg (gi 3 nd (AL DX (pv 1) (AK cN) Ia))
    (cg (gi 4 nd (cH (jY eT hr (b9 (pv 2) cz)) rfl))
    (cg (dU (PW.pt (GK (dw Pc (dD cX (by rfl) T.len aG (b9 (pv 3) cz)) (dD cX (by rfl) T.len aG (b9 (pv 4) cz)) (dQ _)) (BX (gQ (gP (dD (Ig rfl) (by rfl) T.all boot_all (b9 (qm rfl nd (fL (pv 3)) (own:=[("number",6)]) (gK (by kernel_rfl)) (fun _ _ _ _ _=>qu 6 nd) (fun _ _ _ _ _=>lG) (fun _ _ _ _ _=>(dF gj hr (b9 (pv 6) cz)))) cz))))))) (cE (cM (dc (b9 (dB rfl T.fH) cz)))) cY)
    (cg (gi 5 nd (dF jT hr (b9 (pv 2) (b9 (pv 4) (b9 (qm rfl nd (fL (pv 3)) (own:=[("number",6)]) (gK (by kernel_rfl)) (fun _ _ _ _ _=>qu 6 nd) (fun _ _ _ _ _=>lG) (fun _ _ _ _ _=>(dF eN hr (b9 (pv 6) cz)))) cz)))))
    (cE (cM (dc (b9 (cH (pv 5) rfl) (b9 (O9 (gP (dF rm hr (b9 (pv 3) cz))) cN cN) cz))))))))))),?_⟩
  refine⟨_,rfl,dk,A.CD,jm,_,_,rfl,jV,T.cD,T.fu,fc _,_,rfl,nl,_,0,V.int n,rfl,rfl,dG.of hnl,at_of (j:=0) rfl rfl,d.eV,V.ref r.lot,rfl,hget,r.lot,A.CL,dl,_,_,rfl,hlt,T.cL,T.dY,d7 _,?_⟩
  refine⟨_,rfl,r.cP,_,rfl,.inl (dG.of oj),rfl,_,rfl,?_⟩
  rw[iI pN]
  cases hne:l.points.isEmpty with
  |true=>
   rw[hne,bA rfl]at es
   exact dI (dH fun p hp s=>k _ p d (.same hD s hp es))
  |false=>
   rw[hne,bz (by decide)]at es
   refine dR ⟨_,rfl,2,rfl,nl,_,rfl,dG.of hnl,fun q hq=>?_⟩
   have Va:Em ((n::m::vs).map V.int) (some 2) none=vs.map V.int:=by
    rw[Jl]
    congr 1
    show List.take ((n::m::vs).length-HT.Gg (n::m::vs).length 0 (some ((2:Nat):Int))) (List.drop (HT.Gg (n::m::vs).length 0 (some ((2:Nat):Int))) (n::m::vs))=vs
    rw[HT.DW,Nat.min_eq_left (by simp),List.drop_succ_cons,List.drop_succ_cons,List.drop_zero]
    exact List.take_of_length_le (by simp)
   rw[Va]
   have sq:=cK.upd (o:=.lst (vs.map V.int)) hq
   have hq1:iw (L2.upd H q (.lst (vs.map V.int))) q vs:=cA
   revert sq hq1
   generalize L2.upd H q (.lst (vs.map V.int))=H0
   intro sq hq1
   refine⟨_,rfl,fun a GB nx kK _=>⟨a,GB,r.cP,l.points,rfl,cA,(hR.same sq fun _ _ h=>h.same sq).same (iH nx kK) (fun _ _ h=>h.same (iH nx kK)),gl.ps,fun H1 hcu kp=>⟨rfl,?_⟩⟩⟩
   have s1:cK H0 H1:=cK.made nx kK kp
   have Zu:=sq.trans s1
   obtain⟨c,⟨da,ha⟩,hsg,hds,hws,EX,Eg⟩:=hcu.ex
   have hq2:=hq1.same s1
   refine⟨a,A.CC,da,_,_,rfl,ha,T.cC,T.jL,lB c,?_⟩
   refine⟨_,rfl,q,_,rfl,.inl (dG.of hq2),_,rfl,c.doses,_,rfl,.inl (dG.of hds),rfl,_,rfl,?_⟩
   rw[aa,aa,aa]
   by_cases hlen:vs.length=(Vblaaf.heaps l.points).length
   ·have e1:(!decide (V.int ((vs.length:Nat):Int)=V.int (((Vblaaf.heaps l.points).length:Nat):Int)))=false:=by rw[hlen];simp
    rw[e1]
    refine dR ⟨_,rfl,q,rfl,⟨_,dG.of hq2⟩,fun D wR=>iM (K:=K) (a:=q) (xs:=vs.map V.int) (fun i H'=>cK H1 H'/\H' D=some (.lst (((vs.take i).map dZ).map V.bl)))
     ⟨cK.upd wR,cA⟩ (fun i H' _ ⟨s,_⟩=>dG.of (s _ _ hq2)) ?_ ?_⟩
    ·rintro i y H' hy ⟨s,yY⟩
     obtain⟨x,ix,rfl⟩:=int_at hy
     refine⟨rfl,o8 ?_⟩
     refine⟨_,rfl,x,rfl,_,yY,dO (by rw[aa,aa,aJ];omega),cK.fU s wR,?_⟩
     rw[cA,Rc.di ix,ay,ay];rfl
    ·rintro H2 ⟨s2,yY⟩
     rw[aa,aK]at yY
     refine⟨D,_,rfl,dG.of yY,_,rfl,?_⟩
     have e2:(vs.length==(Vblaaf.heaps l.points).length&&vs.all Vblaaf.okResponse)=(vs.map dZ).all id:=by rw[hlen,Q6];simp
     rw[e2]at es
     cases hall:(vs.map dZ).all id with
     |false=>
      rw[hall,bA rfl]at es
      exact dI (dH fun p hp s=>k _ p d (.same hD ((Zu.trans s2).trans s) hp es))
     |true=>
      rw[hall,bz (by decide)]at es
      have hv:∀x∈vs, -1000000≤x/\x≤1000000:=fun x hx=>(Rc.d9 _ _ _).mp (List.all_eq_true.mp hall _ (List.mem_map_of_mem (f:=dZ) hx))
      refine dR ⟨_,rfl,_,rfl,_,rfl,q,rfl,⟨_,dG.of (s2 _ _ hq2)⟩,fun F hF=>iM (K:=K) (a:=q) (xs:=vs.map V.int) (fun i H'=>cK H2 H'/\fV (mU A) H' F ((vs.take i).map whole))
       ⟨cK.upd hF,[],cA,fq.nil⟩ (fun i H' _ ⟨s,_⟩=>dG.of (s _ _ (s2 _ _ hq2))) ?_ ?_⟩
      ·rintro i y H' hy ⟨s,fa,WS,Jt⟩
       obtain⟨x,ix,rfl⟩:=int_at hy
       refine⟨rfl,o8 ?_⟩
       refine⟨_,rfl,x,rfl,fun H4 q4 Lo s4=>?_⟩
       have WT:=s4 _ _ WS
       refine⟨_,WT,dO (by rw[aa,Jt.len,aa,aJ];omega),cK.fU (s.trans s4) hF,?_⟩
       obtain⟨SM,e1,e2⟩:=fV.push WT (Jt.imp fun _ _ h=>h.same s4) Lo
       refine⟨SM,e1,?_⟩
       rw[Rc.di ix,ay]
       exact e2
      ·rintro H3 ⟨s3,WU⟩
       rw[aa,aK]at WU
       have Jg:=s2.trans s3
       have yl:=Zu.trans Jg
       refine⟨r.cP,c.doses,F,l.points,_,_,rfl,hR.same yl (fun _ _ h=>h.same yl),Jg _ _ hds,WU,gl.ps,Rc.C0 _,(by rw[aa,aa,hlen]),fun p hp=>NO hp,fun f hf=>?_,fun H4 b4 hb4 s4=>?_⟩
       ·obtain⟨x,hx,e⟩:=aQ.mp hf
        subst e
        have:=hv x hx
        exact⟨Rc.cQ x,(Rc.eS (by omega)).mono (by decide) (by decide)⟩
       ·obtain⟨db,hb⟩:=hb4
        refine⟨_,rfl,b4,A.CF,db,_,_,rfl,hb,T.cF,T.iA,gC _,_,rfl,q,vs,rfl,(s4 _ _ (Jg _ _ hq2)),vl,_,rfl,?_⟩
        rw[Rc.Iz,Rc.yD]at es
        cases WV:Vblaaf.isRising vs with
        |true=>
         rw[WV,bA rfl]at es
         exact dI ⟨eL (by show 2≤100000;decide),fun p hp=>k _ p d (.same' hD ((yl.trans s4).trans (cK.upd hp)) es cA)⟩
        |false=>
         rw[WV,bz (by decide)]at es
         exact dR ⟨eL (by show 2≤100000;decide),fun p hp=>k _ p d (.same' hD ((yl.trans s4).trans (cK.upd hp)) es cA)⟩
   ·have e1:(!decide (V.int ((vs.length:Nat):Int)=V.int (((Vblaaf.heaps l.points).length:Nat):Int)))=true:=by
     rw[aW (by intro q;injection q with q;omega)];rfl
    rw[e1]
    have e2:(vs.length==(Vblaaf.heaps l.points).length&&vs.all Vblaaf.okResponse)=false:=by
     have:(vs.length==(Vblaaf.heaps l.points).length)=false:=by simpa using hlen
     rw[this];rfl
    rw[e2,bA rfl]at es
    exact dI (dI (dH fun p hp s=>k _ p d (.same hD (Zu.trans s) hp es)))
end
end Rv
namespace Rv
open PySem PySem.Spec PyProof.Rows L2
open Vblaaf (Frac Point Block Knot lowest whole plus minus times over less mean)
open Rc (Ok Sz)
section
variable {P:Program} {w:World} {K:PySem.W.Frag} {mg:Str->Option Value} {base:Heap} {A:gY}
open Vblaaf (inside)
def Q7:Sp:=fun vs H Q _=>∃a b:Int,vs=[.int a,.int b]/\Q (.bl (Vblaaf.okFrac a b 1000000)) H
abbrev j3:Stmt:=top 93
theorem ni:cT ["top","bottom"] ["top","bottom"] (cJ j3):=gJ
theorem xg(T:Txt K mg A)(D:Def K mg "is_asked_fraction" j3 ["top","bottom"]):Good P w K mg base 3 "is_asked_fraction" ["top","bottom"] Q7:=by
 refine D.good ni (fun _ _ _ _ h=>?_) (fun _ _ _ _ _ H _ Q _ hr h=>?_)
 ·obtain⟨a,b,rfl,_⟩:=h;rfl
 ·obtain⟨a,b,rfl,k⟩:=h
  unfold Vblaaf.okFrac at k
  have nd:=ni.nd
  refine⟨_,(cE (cM (Ej (mZ gU gU cN (pv 1) (dB rfl T.HA)) (HZ (mZ gU gU (dJ eY (CP vz (dB rfl T.z8)) (pv 1)) (pv 0) (dJ eY (dB rfl T.z8) (pv 1))))))),?_⟩
  refine⟨_,rfl,_,_,rfl,rfl,_,rfl,?_⟩
  by_cases h1:1≤b
  ·rw[aX h1]
   refine dI ⟨_,_,rfl,rfl,_,rfl,?_⟩
   by_cases h2:b≤1000
   ·have e:inside b 1 1000=true:=(Rc.d9 _ _ _).mpr ⟨h1,h2⟩
    rw[e,Bool.true_and]at k
    rw[aX h2]
    have lb:Lit b:=.of (n:=40) (by omega) (by decide)
    have lm:Lit (1000000:Int):=.of (n:=40) (by decide) (by decide)
    have lm':Lit (-1000000:Int):=.of (n:=40) (by decide) (by decide)
    refine dI ⟨_,rfl,_,rfl,_,_,rfl,rfl,⟨lm',lb⟩,_,rfl,_,_,rfl,rfl,_,rfl,?_⟩
    have en:(-1000000:Int)*b= -(1000000*b):=by rw[Int.neg_mul]
    rw[en]
    refine oK (P:=fun b=>Q (.bl b) H) k fun q=>?_
    exact⟨_,rfl,_,_,rfl,rfl,⟨lm,lb⟩,_,_,rfl,rfl,q⟩
   ·have e:inside b 1 1000=false:=by unfold inside;rw[aW h2,Bool.and_false]
    rw[e,Bool.false_and]at k
    rw[aW h2]
    exact dR k
  ·have e:inside b 1 1000=false:=by unfold inside;rw[aW h1,Bool.false_and]
   rw[e,Bool.false_and]at k
   rw[aW h1]
   exact dR ⟨_,rfl,dR k⟩
theorem Lc{a b:Int}(h:Vblaaf.okFrac a b 1000000=true):0<b/\Lit b/\Ask (lowest a b.toNat):=by
 unfold Vblaaf.okFrac at h
 rw[aZ]at h
 have h1:=(Rc.d9 _ _ _).mp h.1
 have h2:=(Rc.d9 _ _ _).mp h.2
 have hb:0<b.toNat:=by omega
 refine⟨by omega,.of (n:=40) (by omega) (by decide),Rc.lX hb,(Rc.oF (a:=40) (b:=40) hb (by omega) (by omega)).mono (by decide) (by decide)⟩
abbrev pR:Stmt:=top 94
theorem uV:cT ["desk","numbers","readings","height"] ["desk","numbers"] (cJ pR):=gJ
theorem DM(T:Txt K mg A)(D:Def K mg "answer_value" pR ["desk","numbers"])(ji:Good P w K mg base 7 "line_at" ["curve","dose"] (IX A))(fX:Good P w K mg base 3 "is_asked_fraction" ["top","bottom"] Q7)(eT:GoodC P w K mg base 8 "Curve" A.CC ["self","readings"] (kN A))(dP:GoodC P w K mg base 4 "Fraction" A.CF ["self","top","bottom"] (gI A))(fZ:Good P w K mg base 3 "told" ["fraction"] (gE A (ze A) Vblaaf.pair)):Good P w K mg base 10 "answer_value" ["desk","numbers"] (fk A 9):=by
 refine D.good uV (fun _ _ _ _ h=>?_) (fun _ _ _ _ _ H _ Q _ hr h=>?_)
 ·exact h.len
 ·obtain⟨dk,nl,d,st,ns,c,rfl,hD,g,hnl,lF,hc,ht,k⟩:=h
  cases hc
  rename_i n a b
  obtain⟨l,hl⟩:=ht
  have gl:=Rc.eX g hl
  obtain⟨r,jm,dl,hr0,jV,hget,hlt,hR,hO⟩:=hD.open_ hl
  obtain⟨as,oj,pN⟩:=id hR
  have es:Vblaaf.step st (.value n a b)=if Vblaaf.okFrac a b 1000000=false then (st,[-3]) else if Vblaaf.noPoints l=true then (st,[-5]) else match Vblaaf.valueAt (Vblaaf.frac a b) (Vblaaf.curve l.points)with
    |none=>(st,[-6])
    |some v=>(st,0::Vblaaf.pair v):=d8 hl
  unfold Vblaaf.noPoints at es
  have nd:=uV.nd
  have hu:=iX hr
  refine⟨_,(cg (gi 2 nd (cH (fE hu (cH (pv 0) rfl) (dN cW (pv 1) cN (fun _ _=>rfl)) (fun _ _=>rfl)) rfl))
    (cg (dU (gQ (gP (dF fX hr (b9 (dN cW (pv 1) cN (fun _ _=>rfl)) (b9 (dN cW (pv 1) cN (fun _ _=>rfl)) cz))))) (cE (cM (dc (b9 (dB rfl T.fH) cz)))) cY)
    (cg (dU (dw kZ (dD cX (by rfl) T.len aG (b9 (pv 2) cz)) cN (dQ _)) (cE (cM (dc (b9 (dB rfl T.fD) cz)))) cY)
    (cg (gi 3 nd (dF ji hr (b9 (jY eT hr (b9 (pv 2) cz)) (b9 (jY dP hr (b9 (dN cW (pv 1) cN (fun _ _=>rfl)) (b9 (dN cW (pv 1) cN (fun _ _=>rfl)) cz))) cz))))
    (cg (dU (dw nD (pv 3) fK (dQ _)) (cE (cM (dc (b9 (dB rfl T.Nt) cz)))) cY)
    (cE (cM (dJ jo (dc (b9 cN cz)) (dF fZ hr (b9 (pv 3) cz)))))))))),?_⟩
  refine⟨_,rfl,dk,A.CD,jm,_,_,rfl,jV,T.cD,T.fu,fc _,_,rfl,nl,_,0,V.int n,rfl,rfl,dG.of hnl,at_of (j:=0) rfl rfl,d.eV,V.ref r.lot,rfl,hget,r.lot,A.CL,dl,_,_,rfl,hlt,T.cL,T.dY,d7 _,?_⟩
  refine⟨_,rfl,nl,_,1,V.int a,rfl,rfl,dG.of hnl,at_of (j:=1) rfl rfl,_,rfl,nl,_,2,V.int b,rfl,rfl,dG.of hnl,at_of (j:=2) rfl rfl,a,b,rfl,_,rfl,?_⟩
  cases hok:Vblaaf.okFrac a b 1000000 with
  |false=>
   rw[hok,bA rfl]at es
   exact dI (dH fun p hp s=>k _ p d (.same hD s hp es))
  |true=>
  rw[hok,bz (by decide)]at es
  refine dR ?_
  refine⟨_,rfl,r.cP,_,rfl,.inl (dG.of oj),rfl,_,rfl,?_⟩
  rw[iI pN]
  cases hne:l.points.isEmpty with
  |true=>
   rw[hne,bA rfl]at es
   exact dI (dH fun p hp s=>k _ p d (.same hD s hp es))
  |false=>
   rw[hne,bz (by decide)]at es
   have TV:l.points≠[]:=by intro e;rw[e]at hne;cases hne
   obtain⟨b0,lb,aq⟩:=Lc hok
   refine dR ⟨_,rfl,fun cu GB nx kK _=>⟨cu,GB,r.cP,l.points,rfl,cA,hR.same (iH nx kK) (fun _ _ h=>h.same (iH nx kK)),gl.ps,fun H1 hcu kp=>⟨rfl,?_⟩⟩⟩
   have s1:cK H H1:=cK.made nx kK kp
   have hnl:=hnl.same s1
   refine⟨_,rfl,nl,_,1,V.int a,rfl,rfl,dG.of hnl,at_of (j:=1) rfl rfl,_,rfl,nl,_,2,V.int b,rfl,rfl,dG.of hnl,at_of (j:=2) rfl rfl,fun f df nf Zv _=>⟨f,df,a,b,rfl,cA,b0,lb,fun H2 hf WW=>⟨rfl,?_⟩⟩⟩
   have s2:cK H1 H2:=cK.made nf Zv WW
   refine⟨cu,f,l.points,_,rfl,hcu.same s2,gl.ps,TV,hf,aq,fun H3 v hv s3=>?_⟩
   have yl:=(s1.trans s2).trans s3
   revert hv es
   show _=(match Vblaaf.valueAt (lowest a b.toNat) (Vblaaf.curve l.points)with | none=>_ | some v=>_)->_
   cases Vblaaf.valueAt (lowest a b.toNat) (Vblaaf.curve l.points)with
   |none=>
    intro es hv
    have hv:v= .f6:=hv
    subst hv
    exact⟨_,rfl,rfl,_,rfl,dI (dH fun p hp s=>k _ p d (.same hD (yl.trans s) hp es))⟩
   |some x=>
    intro es hv
    obtain⟨va,rfl,hva⟩:=hv
    refine⟨_,rfl,rfl,_,rfl,dR ⟨eL (by show 1≤100000;decide),fun p hp=>?_⟩⟩
    have sp:=cK.upd (o:=.lst [V.int 0]) hp
    refine⟨_,rfl,_,x,rfl,⟨va,rfl,hva.same sp⟩,fun H4 q hq s4=>?_⟩
    exact gz (ns:=[0]) (s4 _ _ cA) hq (by show 1+2≤100000;decide) fun t ht=>k _ t d (.same' hD (((yl.trans sp).trans s4).trans (cK.upd ht)) es cA)
abbrev rq:Stmt:=top 95
theorem xh:cT ["desk","numbers","readings"] ["desk","numbers"] (cJ rq):=gJ
theorem FN(T:Txt K mg A)(D:Def K mg "answer_dose" rq ["desk","numbers"])(ja:Good P w K mg base 8 "told_doses" ["curve","response"] (wW A))(fX:Good P w K mg base 3 "is_asked_fraction" ["top","bottom"] Q7)(eT:GoodC P w K mg base 8 "Curve" A.CC ["self","readings"] (kN A))(dP:GoodC P w K mg base 4 "Fraction" A.CF ["self","top","bottom"] (gI A)):Good P w K mg base 10 "answer_dose" ["desk","numbers"] (fk A 10):=by
 refine D.good xh (fun _ _ _ _ h=>?_) (fun _ _ _ _ _ H _ Q _ hr h=>?_)
 ·exact h.len
 ·obtain⟨dk,nl,d,st,ns,c,rfl,hD,g,hnl,lF,hc,ht,k⟩:=h
  cases hc
  rename_i n a b
  obtain⟨l,hl⟩:=ht
  have gl:=Rc.eX g hl
  obtain⟨r,jm,dl,hr0,jV,hget,hlt,hR,hO⟩:=hD.open_ hl
  obtain⟨as,oj,pN⟩:=id hR
  have es:Vblaaf.step st (.dose n a b)=if Vblaaf.okFrac a b 1000000=false then (st,[-3]) else if Vblaaf.noPoints l=true then (st,[-5]) else (st,Vblaaf.foundRow (Vblaaf.doseOf (Vblaaf.frac a b) (Vblaaf.curve l.points))):=d8 hl
  unfold Vblaaf.noPoints at es
  have nd:=xh.nd
  have hu:=iX hr
  refine⟨_,(cg (gi 2 nd (cH (fE hu (cH (pv 0) rfl) (dN cW (pv 1) cN (fun _ _=>rfl)) (fun _ _=>rfl)) rfl))
    (cg (dU (gQ (gP (dF fX hr (b9 (dN cW (pv 1) cN (fun _ _=>rfl)) (b9 (dN cW (pv 1) cN (fun _ _=>rfl)) cz))))) (cE (cM (dc (b9 (dB rfl T.fH) cz)))) cY)
    (cg (dU (dw kZ (dD cX (by rfl) T.len aG (b9 (pv 2) cz)) cN (dQ _)) (cE (cM (dc (b9 (dB rfl T.fD) cz)))) cY)
    (cE (cM (dF ja hr (b9 (jY eT hr (b9 (pv 2) cz)) (b9 (jY dP hr (b9 (dN cW (pv 1) cN (fun _ _=>rfl)) (b9 (dN cW (pv 1) cN (fun _ _=>rfl)) cz))) cz)))))))),?_⟩
  refine⟨_,rfl,dk,A.CD,jm,_,_,rfl,jV,T.cD,T.fu,fc _,_,rfl,nl,_,0,V.int n,rfl,rfl,dG.of hnl,at_of (j:=0) rfl rfl,d.eV,V.ref r.lot,rfl,hget,r.lot,A.CL,dl,_,_,rfl,hlt,T.cL,T.dY,d7 _,?_⟩
  refine⟨_,rfl,nl,_,1,V.int a,rfl,rfl,dG.of hnl,at_of (j:=1) rfl rfl,_,rfl,nl,_,2,V.int b,rfl,rfl,dG.of hnl,at_of (j:=2) rfl rfl,a,b,rfl,_,rfl,?_⟩
  cases hok:Vblaaf.okFrac a b 1000000 with
  |false=>
   rw[hok,bA rfl]at es
   exact dI (dH fun p hp s=>k _ p d (.same hD s hp es))
  |true=>
  rw[hok,bz (by decide)]at es
  refine dR ?_
  refine⟨_,rfl,r.cP,_,rfl,.inl (dG.of oj),rfl,_,rfl,?_⟩
  rw[iI pN]
  cases hne:l.points.isEmpty with
  |true=>
   rw[hne,bA rfl]at es
   exact dI (dH fun p hp s=>k _ p d (.same hD s hp es))
  |false=>
   rw[hne,bz (by decide)]at es
   have TV:l.points≠[]:=by intro e;rw[e]at hne;cases hne
   obtain⟨b0,lb,aq⟩:=Lc hok
   refine dR ⟨_,rfl,fun cu GB nx kK _=>⟨cu,GB,r.cP,l.points,rfl,cA,hR.same (iH nx kK) (fun _ _ h=>h.same (iH nx kK)),gl.ps,fun H1 hcu kp=>⟨rfl,?_⟩⟩⟩
   have s1:cK H H1:=cK.made nx kK kp
   have hnl:=hnl.same s1
   refine⟨_,rfl,nl,_,1,V.int a,rfl,rfl,dG.of hnl,at_of (j:=1) rfl rfl,_,rfl,nl,_,2,V.int b,rfl,rfl,dG.of hnl,at_of (j:=2) rfl rfl,fun f df nf Zv _=>⟨f,df,a,b,rfl,cA,b0,lb,fun H2 hf WW=>⟨rfl,?_⟩⟩⟩
   have s2:cK H1 H2:=cK.made nf Zv WW
   refine⟨cu,f,l.points,_,rfl,hcu.same s2,gl.ps,TV,hf,aq,fun H3 p _ hp s3=>?_⟩
   exact k H3 p d (.same hD ((s1.trans s2).trans s3) hp es)
abbrev rA:Stmt:=top 96
theorem xj:cT ["desk","numbers","readings","curve"] ["desk","numbers"] (cJ rA):=gJ
theorem FO(T:Txt K mg A)(D:Def K mg "answer_step" rA ["desk","numbers"])(eT:GoodC P w K mg base 8 "Curve" A.CC ["self","readings"] (kN A))(jS:Good P w K mg base 3 "is_dose" ["number"] (pH sQ))(qI:Good P w K mg base 4 "told_step" ["height"] (gE A (Bo A) Vblaaf.flagged))(xm:Good P w K mg base 7 "high_step" ["curve","dose"] (IZ A Vblaaf.stepHigh))(Az:Good P w K mg base 7 "low_step" ["curve","dose"] (IZ A Vblaaf.stepLow)):Good P w K mg base 10 "answer_step" ["desk","numbers"] (fk A 11):=by
 refine D.good xj (fun _ _ _ _ h=>?_) (fun _ _ _ _ _ H _ Q _ hr h=>?_)
 ·exact h.len
 ·obtain⟨dk,nl,d,st,ns,c,rfl,hD,g,hnl,lF,hc,ht,k⟩:=h
  cases hc
  rename_i n x
  obtain⟨l,hl⟩:=ht
  have gl:=Rc.eX g hl
  obtain⟨r,jm,dl,hr0,jV,hget,hlt,hR,hO⟩:=hD.open_ hl
  obtain⟨as,oj,pN⟩:=id hR
  have es:Vblaaf.step st (.step n x)=if sQ x=false then (st,[-3]) else if Vblaaf.noPoints l=true then (st,[-5]) else (st,0::(Vblaaf.flagged (Vblaaf.stepLow x (Vblaaf.curve l.points))++Vblaaf.flagged (Vblaaf.stepHigh x (Vblaaf.curve l.points)))):=d8 hl
  unfold Vblaaf.noPoints at es
  have nd:=xj.nd
  have hu:=iX hr
  refine⟨_,(cg (gi 2 nd (cH (fE hu (cH (pv 0) rfl) (dN cW (pv 1) cN (fun _ _=>rfl)) (fun _ _=>rfl)) rfl))
    (cg (dU (gQ (gP (dF jS hr (b9 (dN cW (pv 1) cN (fun _ _=>rfl)) cz)))) (cE (cM (dc (b9 (dB rfl T.fH) cz)))) cY)
    (cg (dU (dw kZ (dD cX (by rfl) T.len aG (b9 (pv 2) cz)) cN (dQ _)) (cE (cM (dc (b9 (dB rfl T.fD) cz)))) cY)
    (cg (gi 3 nd (jY eT hr (b9 (pv 2) cz)))
    (cE (cM (dJ jo (dJ jo (dc (b9 cN cz)) (dF qI hr (b9 (dF Az hr (b9 (pv 3) (b9 (dN cW (pv 1) cN (fun _ _=>rfl)) cz))) cz))) (dF qI hr (b9 (dF xm hr (b9 (pv 3) (b9 (dN cW (pv 1) cN (fun _ _=>rfl)) cz))) cz))))))))),?_⟩
  refine⟨_,rfl,dk,A.CD,jm,_,_,rfl,jV,T.cD,T.fu,fc _,_,rfl,nl,_,0,V.int n,rfl,rfl,dG.of hnl,at_of (j:=0) rfl rfl,d.eV,V.ref r.lot,rfl,hget,r.lot,A.CL,dl,_,_,rfl,hlt,T.cL,T.dY,d7 _,?_⟩
  refine⟨_,rfl,nl,_,1,V.int x,rfl,rfl,dG.of hnl,at_of (j:=1) rfl rfl,x,rfl,_,rfl,?_⟩
  cases hok:sQ x with
  |false=>
   rw[hok,bA rfl]at es
   exact dI (dH fun p hp s=>k _ p d (.same hD s hp es))
  |true=>
  rw[hok,bz (by decide)]at es
  have XC:x.natAbs≤2000000:=by have:=(Rc.d9 _ _ _).mp hok;omega
  refine dR ?_
  refine⟨_,rfl,r.cP,_,rfl,.inl (dG.of oj),rfl,_,rfl,?_⟩
  rw[iI pN]
  cases hne:l.points.isEmpty with
  |true=>
   rw[hne,bA rfl]at es
   exact dI (dH fun p hp s=>k _ p d (.same hD s hp es))
  |false=>
   rw[hne,bz (by decide)]at es
   refine dR ⟨_,rfl,fun cu GB nx kK _=>⟨cu,GB,r.cP,l.points,rfl,cA,hR.same (iH nx kK) (fun _ _ h=>h.same (iH nx kK)),gl.ps,fun H1 hcu kp=>⟨rfl,?_⟩⟩⟩
   have s1:cK H H1:=cK.made nx kK kp
   refine⟨eL (by show 1≤100000;decide),fun p hp=>?_⟩
   have sp:=cK.upd (o:=.lst [V.int 0]) hp
   have s12:=s1.trans sp
   replace hnl:=hnl.same s12
   refine⟨_,rfl,_,rfl,nl,_,1,V.int x,rfl,rfl,dG.of hnl,at_of (j:=1) rfl rfl,cu,l.points,x,rfl,hcu.same sp,gl.ps,XC,fun H3 v hv s3=>?_⟩
   refine⟨v,_,rfl,hv,fun H4 q4 h4 s4=>?_⟩
   have XE:=(sp.trans s3).trans s4
   have fl:∀o,(Vblaaf.flagged o).length=3:=fun o=>by cases o <;> rfl
   refine gz (ns:=[0]) (s4 _ _ (s3 _ _ cA)) h4 (by rw[fl];show 1+3≤100000;decide) fun q5 Vb=>?_
   have s5:=cK.upd (o:=.lst (([0]++Vblaaf.flagged (Vblaaf.stepLow x (Vblaaf.curve l.points))).map V.int)) Vb
   have RD:=XE.trans s5
   replace hnl:=((hnl.same s3).same s4).same s5
   refine⟨_,rfl,_,rfl,nl,_,1,V.int x,rfl,rfl,dG.of hnl,at_of (j:=1) rfl rfl,cu,l.points,x,rfl,hcu.same RD,gl.ps,XC,fun H6 v6 hv6 s6=>?_⟩
   refine⟨v6,_,rfl,hv6,fun H7 q7 h7 s7=>?_⟩
   refine gz (s7 _ _ (s6 _ _ cA)) h7 (by rw[ao,fl,fl];show 1+3+3≤100000;decide) fun t ht=>k _ t d (.same' hD ((((s1.trans RD).trans s6).trans s7).trans (cK.upd ht)) es ?_)
   rw[cA,bT]
   rfl
abbrev pS:Stmt:=top 97
theorem uW:cT ["desk","numbers","lot","curve","refusal"] ["desk","numbers"] (cJ pS):=gJ
theorem DN(T:Txt K mg A)(D:Def K mg "answer_shift" pS ["desk","numbers"])(eT:GoodC P w K mg base 8 "Curve" A.CC ["self","readings"] (kN A))(fR:Good P w K mg base 4 "shift_refusal" ["curve","controls"] (yq A))(fZ:Good P w K mg base 3 "told" ["fraction"] (gE A (ze A) Vblaaf.pair))(mw:Good P w K mg base 8 "shift_of" ["curve","controls"] (Jh A)):Good P w K mg base 10 "answer_shift" ["desk","numbers"] (fk A 17):=by
 refine D.good uW (fun _ _ _ _ h=>?_) (fun _ _ _ _ _ H _ Q _ hr h=>?_)
 ·exact h.len
 ·obtain⟨dk,nl,d,st,ns,c,rfl,hD,g,hnl,lF,hc,ht,k⟩:=h
  cases hc
  rename_i n
  obtain⟨l,hl⟩:=ht
  have gl:=Rc.eX g hl
  obtain⟨r,jm,dl,hr0,jV,hget,hlt,hR,hO⟩:=hD.open_ hl
  obtain⟨as,oj,pN⟩:=id hR
  have es:Vblaaf.step st (.shift n)=if Vblaaf.noPoints l=true then (st,[-5]) else match Vblaaf.shiftIn l with
   |.error e=>(st,[e])
   |.ok f=>(st,0::Vblaaf.pair f):=d8 hl
  unfold Vblaaf.noPoints at es
  have nd:=uW.nd
  have hu:=iX hr
  refine⟨_,(cg (gi 2 nd (fE hu (cH (pv 0) rfl) (dN cW (pv 1) cN (fun _ _=>rfl)) (fun _ _=>rfl)))
    (cg (dU (dw kZ (dD cX (by rfl) T.len aG (b9 (cH (pv 2) rfl) cz)) cN (dQ _)) (cE (cM (dc (b9 (dB rfl T.fD) cz)))) cY)
    (cg (gi 3 nd (jY eT hr (b9 (cH (pv 2) rfl) cz)))
    (cg (gi 4 nd (dF fR hr (b9 (pv 3) (b9 (cH (pv 2) rfl) cz))))
    (cg (dU (dw xV (pv 4) fK (dQ _)) (cE (cM (dc (b9 (pv 4) cz)))) cY)
    (cE (cM (dJ jo (dc (b9 cN cz)) (dF fZ hr (b9 (dF mw hr (b9 (pv 3) (b9 (cH (pv 2) rfl) cz))) cz)))))))))),?_⟩
  refine⟨_,rfl,dk,A.CD,jm,_,_,rfl,jV,T.cD,T.fu,fc _,_,rfl,nl,_,0,V.int n,rfl,rfl,dG.of hnl,at_of (j:=0) rfl rfl,d.eV,V.ref r.lot,rfl,hget,?_⟩
  refine⟨_,rfl,r.lot,A.CL,dl,_,_,rfl,hlt,T.cL,T.dY,d7 _,r.cP,_,rfl,.inl (dG.of oj),rfl,_,rfl,?_⟩
  rw[iI pN]
  cases hne:l.points.isEmpty with
  |true=>
   rw[hne,bA rfl]at es
   exact dI (dH fun p hp s=>k _ p d (.same hD s hp es))
  |false=>
   rw[hne,bz (by decide)]at es
   have TV:l.points≠[]:=by intro e;rw[e]at hne;cases hne
   refine dR ⟨_,rfl,r.lot,A.CL,dl,_,_,rfl,hlt,T.cL,T.dY,d7 _,fun cu GB nx kK _=>⟨cu,GB,r.cP,l.points,rfl,cA,hR.same (iH nx kK) (fun _ _ h=>h.same (iH nx kK)),gl.ps,fun H1 hcu kp=>⟨rfl,?_⟩⟩⟩
   have s1:cK H H1:=cK.made nx kK kp
   have Q8:=s1 _ _ hlt
   refine⟨_,rfl,_,rfl,r.lot,A.CL,dl,_,_,rfl,Q8,T.cL,T.fY,iE _,cu,r.controls,l.points,l.controls,rfl,hcu,gl.ps,TV,hO.same s1 (fun _ _ h=>h.same s1),gl.cl,fun H2 s2=>?_⟩
   have wF:=s1.trans s2
   cases href:Rc.refusal l.points l.controls with
   |some e=>
    rw[Rc.vQ href]at es
    exact⟨_,rfl,rfl,_,rfl,dI ⟨_,rfl,dH fun p hp s=>k _ p d (.same hD (wF.trans s) hp es)⟩⟩
   |none=>
    refine⟨_,rfl,rfl,_,rfl,dR ⟨eL (by show 1≤100000;decide),fun p hp=>?_⟩⟩
    have sp:=cK.upd (o:=.lst [V.int 0]) hp
    have Jg:=s2.trans sp
    have yl:=s1.trans Jg
    refine⟨_,rfl,_,rfl,r.lot,A.CL,dl,_,_,rfl,Jg _ _ Q8,T.cL,T.fY,iE _,cu,r.controls,l.points,l.controls,rfl,hcu.same Jg,gl.ps,TV,hO.same yl (fun _ _ h=>h.same yl),gl.cl,gl.cs,href,fun H4 q4 f hf h4 s4=>?_⟩
    rw[Rc.z6 (Rc.n8 href).1 hf]at es
    refine⟨_,f,rfl,⟨q4,rfl,h4⟩,fun H5 q5 h5 s5=>?_⟩
    exact gz (ns:=[0]) (s5 _ _ (s4 _ _ cA)) h5 (by show 1+2≤100000;decide) fun t ht=>k _ t d (.same' hD (((yl.trans s4).trans s5).trans (cK.upd ht)) es cA)
abbrev uy:Stmt:=top 98
theorem zj:cT ["desk","numbers","readings","other_readings","gap"] ["desk","numbers"] (cJ uy):=gJ
theorem GD(T:Txt K mg A)(D:Def K mg "answer_gap" uy ["desk","numbers"])(rB:Good P w K mg base 8 "gap_between" ["one","other"] (TR A))(eT:GoodC P w K mg base 8 "Curve" A.CC ["self","readings"] (kN A))(fZ:Good P w K mg base 3 "told" ["fraction"] (gE A (ze A) Vblaaf.pair)):Good P w K mg base 10 "answer_gap" ["desk","numbers"] (fk A 18):=by
 refine D.good zj (fun _ _ _ _ h=>?_) (fun _ _ _ _ _ H _ Q _ hr h=>?_)
 ·exact h.len
 ·obtain⟨dk,nl,d,st,ns,c,rfl,hD,g,hnl,lF,hc,ht,k⟩:=h
  cases hc
  rename_i n m
  obtain⟨⟨l,hl⟩,l',hl'⟩:=ht
  have gl:=Rc.eX g hl
  have gl':=Rc.eX g hl'
  obtain⟨r,jm,dl,hr0,jV,hget,hlt,hR,hO⟩:=hD.open_ hl
  obtain⟨r',aap,dl',aaq,aar,WX,hlt',hR',hO'⟩:=hD.open_ hl'
  obtain⟨as,oj,pN⟩:=id hR
  obtain⟨as',Zw,Zx⟩:=id hR'
  have es:Vblaaf.step st (.gap n m)=if Vblaaf.noPoints l=true∨Vblaaf.noPoints l'=true then (st,[-5]) else match Vblaaf.greatestGap (Vblaaf.curve l.points) (Vblaaf.curve l'.points)with
   |none=>(st,[-6])
   |some x=>(st,Vblaaf.pair x.1++[x.2]):=(d8 hl).trans (d8 hl')
  unfold Vblaaf.noPoints at es
  have nd:=zj.nd
  have hu:=iX hr
  refine⟨_,(cg (gi 2 nd (cH (fE hu (cH (pv 0) rfl) (dN cW (pv 1) cN (fun _ _=>rfl)) (fun _ _=>rfl)) rfl))
    (cg (gi 3 nd (cH (fE hu (cH (pv 0) rfl) (dN cW (pv 1) cN (fun _ _=>rfl)) (fun _ _=>rfl)) rfl))
    (cg (dU (PW.pt (GK (dw kZ (dD cX (by rfl) T.len aG (b9 (pv 2) cz)) cN (dQ _)) (BX (dw kZ (dD cX (by rfl) T.len aG (b9 (pv 3) cz)) cN (dQ _))))) (cE (cM (dc (b9 (dB rfl T.fD) cz)))) cY)
    (cg (gi 4 nd (dF rB hr (b9 (jY eT hr (b9 (pv 2) cz)) (b9 (jY eT hr (b9 (pv 3) cz)) cz))))
    (cg (dU (dw nD (pv 4) fK (dQ _)) (cE (cM (dc (b9 (dB rfl T.v9) cz)))) cY)
    (cE (cM (dJ jo (dF fZ hr (b9 (cH (pv 4) rfl) cz)) (dc (b9 (cH (pv 4) rfl) cz)))))))))),?_⟩
  refine⟨_,rfl,dk,A.CD,jm,_,_,rfl,jV,T.cD,T.fu,fc _,_,rfl,nl,_,0,V.int n,rfl,rfl,dG.of hnl,at_of (j:=0) rfl rfl,d.eV,V.ref r.lot,rfl,hget,r.lot,A.CL,dl,_,_,rfl,hlt,T.cL,T.dY,d7 _,?_⟩
  refine⟨_,rfl,dk,A.CD,jm,_,_,rfl,jV,T.cD,T.fu,fc _,_,rfl,nl,_,1,V.int m,rfl,rfl,dG.of hnl,at_of (j:=1) rfl rfl,d.eV,V.ref r'.lot,rfl,WX,r'.lot,A.CL,dl',_,_,rfl,hlt',T.cL,T.dY,d7 _,?_⟩
  refine⟨_,rfl,r.cP,_,rfl,.inl (dG.of oj),rfl,_,rfl,?_⟩
  rw[iI pN]
  cases hne:l.points.isEmpty with
  |true=>
   rw[hne,bA (.inl rfl)]at es
   exact dI (dI (dH fun p hp s=>k _ p d (.same hD s hp es)))
  |false=>
  refine dR ⟨_,rfl,r'.cP,_,rfl,.inl (dG.of Zw),rfl,_,rfl,?_⟩
  rw[iI Zx]
  cases hne':l'.points.isEmpty with
  |true=>
   rw[hne',bA (.inr rfl)]at es
   exact dI (dH fun p hp s=>k _ p d (.same hD s hp es))
  |false=>
   rw[hne,hne',bz (by simp)]at es
   have TV:l.points≠[]:=by intro e;rw[e]at hne;cases hne
   have Zy:l'.points≠[]:=by intro e;rw[e]at hne';cases hne'
   refine dR ⟨_,rfl,fun cu GB nx kK _=>⟨cu,GB,r.cP,l.points,rfl,cA,hR.same (iH nx kK) (fun _ _ h=>h.same (iH nx kK)),gl.ps,fun H1 hcu kp=>⟨rfl,?_⟩⟩⟩
   have s1:cK H H1:=cK.made nx kK kp
   refine⟨_,rfl,fun cv dcv nv Zz _=>⟨cv,dcv,r'.cP,l'.points,rfl,cA,(hR'.same s1 (fun _ _ h=>h.same s1)).same (iH nv Zz) (fun _ _ h=>h.same (iH nv Zz)),gl'.ps,fun H2 hcv WW=>⟨rfl,?_⟩⟩⟩
   have s2:cK H1 H2:=cK.made nv Zz WW
   refine⟨cu,cv,l.points,l'.points,rfl,hcu.same s2,hcv,gl.ps,gl'.ps,TV,Zy,fun H3 v hv s3=>?_⟩
   have yl:=(s1.trans s2).trans s3
   revert hv es
   cases Vblaaf.greatestGap (Vblaaf.curve l.points) (Vblaaf.curve l'.points)with
   |none=>
    intro es hv
    have hv:v= .f6:=hv
    subst hv
    exact⟨_,rfl,rfl,_,rfl,dI (dH fun p hp s=>k _ p d (.same hD (yl.trans s) hp es))⟩
   |some x=>
    obtain⟨e,x⟩:=x
    intro es hv
    obtain⟨a,f,rfl,⟨da,ha⟩,hf⟩:=hv
    refine⟨_,rfl,rfl,_,rfl,dR ⟨_,rfl,a,A.CG,da,_,_,rfl,ha,T.cG,T.Ed,Ky ⟨f,x⟩,_,e,rfl,⟨f,rfl,hf⟩,fun H4 q4 h4 s4=>?_⟩⟩
    have ha:=s4 _ _ ha
    refine⟨_,rfl,a,A.CG,da,_,_,rfl,ha,T.cG,T.IK,QF ⟨f,x⟩,eL (by show 1≤100000;decide),fun p hp=>?_⟩
    have sp:=cK.upd (o:=.lst [V.int x]) hp
    exact gz (ms:=[x]) (h4.same sp) cA (by show 2+1≤100000;decide) fun t ht=>k _ t d (.same' hD (((yl.trans s4).trans sp).trans (cK.upd ht)) es cA)
theorem Ld{H:Hp}{v:V}{o:Option (Nat×Nat)}(h:QW H v o):(!decide (v=V.f6))=o.isSome:=by
 cases o with
 |none=>have h:v= .f6:=h;subst h;rfl
 |some p=>obtain⟨q,rfl,_⟩:=h;rfl
abbrev pT:Stmt:=top 140
theorem uX:cT ["desk","numbers","readings","lower"] ["desk","numbers"] (cJ pT):=gJ
theorem DO(T:Txt K mg A)(D:Def K mg "answer_truth" pT ["desk","numbers"])(oz:Good P w K mg base 3 "told_bound" ["bound"] (gE A (fun _ v o=>v=oV o) Vblaaf.flagInt))(jS:Good P w K mg base 3 "is_dose" ["number"] (pH sQ))(gk:Good P w K mg base 5 "first_clash" ["readings"] (NK A))(rC:Good P w K mg base 4 "lower_bound" ["readings","dose"] (yp A Vblaaf.lowAt))(rD:Good P w K mg base 4 "upper_bound" ["readings","dose"] (yp A Vblaaf.highAt)):Good P w K mg base 6 "answer_truth" ["desk","numbers"] (fk A 12):=by
 refine D.good uX (fun _ _ _ _ h=>?_) (fun _ _ _ _ _ H _ Q _ hr h=>?_)
 ·exact h.len
 ·obtain⟨dk,nl,d,st,ns,c,rfl,hD,g,hnl,lF,hc,ht,k⟩:=h
  cases hc
  rename_i n x
  obtain⟨l,hl⟩:=ht
  have gl:=Rc.eX g hl
  obtain⟨r,jm,dl,hr0,jV,hget,hlt,hR,hO⟩:=hD.open_ hl
  obtain⟨as,oj,pN⟩:=id hR
  have es:Vblaaf.step st (.truth n x)=if sQ x=false then (st,[-3]) else if Vblaaf.noPoints l=true then (st,[-5]) else if (Vblaaf.clash l.points).isSome=true then (st,[-8]) else (st,0::(Vblaaf.flagInt (Vblaaf.lowAt l.points x)++Vblaaf.flagInt (Vblaaf.highAt l.points x))):=d8 hl
  unfold Vblaaf.noPoints at es
  have nd:=uX.nd
  have hu:=iX hr
  refine⟨_,(cg (gi 2 nd (cH (fE hu (cH (pv 0) rfl) (dN cW (pv 1) cN (fun _ _=>rfl)) (fun _ _=>rfl)) rfl))
    (cg (dU (gQ (gP (dF jS hr (b9 (dN cW (pv 1) cN (fun _ _=>rfl)) cz)))) (cE (cM (dc (b9 (dB rfl T.fH) cz)))) cY)
    (cg (dU (dw kZ (dD cX (by rfl) T.len aG (b9 (pv 2) cz)) cN (dQ _)) (cE (cM (dc (b9 (dB rfl T.fD) cz)))) cY)
    (cg (dU (dw xV (dF gk hr (b9 (pv 2) cz)) fK (dQ _)) (cE (cM (dc (b9 (dB rfl T.E5) cz)))) cY)
    (cg (gi 3 nd (dF oz hr (b9 (dF rC hr (b9 (pv 2) (b9 (dN cW (pv 1) cN (fun _ _=>rfl)) cz))) cz)))
    (cE (cM (dJ jo (dJ jo (dc (b9 cN cz)) (pv 3)) (dF oz hr (b9 (dF rD hr (b9 (pv 2) (b9 (dN cW (pv 1) cN (fun _ _=>rfl)) cz))) cz)))))))))),?_⟩
  refine⟨_,rfl,dk,A.CD,jm,_,_,rfl,jV,T.cD,T.fu,fc _,_,rfl,nl,_,0,V.int n,rfl,rfl,dG.of hnl,at_of (j:=0) rfl rfl,d.eV,V.ref r.lot,rfl,hget,r.lot,A.CL,dl,_,_,rfl,hlt,T.cL,T.dY,d7 _,?_⟩
  refine⟨_,rfl,nl,_,1,V.int x,rfl,rfl,dG.of hnl,at_of (j:=1) rfl rfl,x,rfl,_,rfl,?_⟩
  cases hok:sQ x with
  |false=>
   rw[hok,bA rfl]at es
   exact dI (dH fun p hp s=>k _ p d (.same hD s hp es))
  |true=>
  rw[hok,bz (by decide)]at es
  refine dR ?_
  refine⟨_,rfl,r.cP,_,rfl,.inl (dG.of oj),rfl,_,rfl,?_⟩
  rw[iI pN]
  cases hne:l.points.isEmpty with
  |true=>
   rw[hne,bA rfl]at es
   exact dI (dH fun p hp s=>k _ p d (.same hD s hp es))
  |false=>
  rw[hne,bz (by decide)]at es
  refine dR ⟨_,rfl,r.cP,l.points,rfl,hR,fun H1 v hv s1=>?_⟩
  refine⟨rfl,_,rfl,?_⟩
  rw[Ld hv]
  cases hcl:(Vblaaf.clash l.points).isSome with
  |true=>
   rw[hcl,bA rfl]at es
   exact dI (dH fun p hp s=>k _ p d (.same hD (s1.trans s) hp es))
  |false=>
   rw[hcl,bz (by decide)]at es
   have WY:=hR.same s1 fun _ _ h=>h.same s1
   replace hnl:=hnl.same s1
   have fl:∀o,(Vblaaf.flagInt o).length=2:=fun o=>by cases o <;> rfl
   refine dR ⟨_,rfl,_,rfl,nl,_,1,V.int x,rfl,rfl,dG.of hnl,at_of (j:=1) rfl rfl,r.cP,l.points,x,rfl,WY,gl.ps.len,fun H2 s2=>?_⟩
   refine⟨_,_,rfl,rfl,fun H3 q3 h3 s3=>?_⟩
   have s23:=s2.trans s3
   refine⟨eL (by show 1≤100000;decide),fun p hp=>?_⟩
   have sp:=cK.upd (o:=.lst [V.int 0]) hp
   refine⟨_,rfl,gz (ns:=[0]) cA (h3.same sp) (by rw[fl];show 1+2≤100000;decide) fun q5 Vb=>?_⟩
   have s5:=cK.upd (o:=.lst (([0]++Vblaaf.flagInt (Vblaaf.lowAt l.points x)).map V.int)) Vb
   have RD:=(s23.trans sp).trans s5
   replace hnl:=hnl.same RD
   refine⟨_,rfl,_,rfl,nl,_,1,V.int x,rfl,rfl,dG.of hnl,at_of (j:=1) rfl rfl,r.cP,l.points,x,rfl,WY.same RD (fun _ _ h=>h.same RD),gl.ps.len,fun H6 s6=>?_⟩
   refine⟨_,_,rfl,rfl,fun H7 q7 h7 s7=>?_⟩
   refine gz (s7 _ _ (s6 _ _ cA)) h7 (by rw[ao,fl,fl];show 1+2+2≤100000;decide) fun t ht=>k _ t d (.same' hD ((((s1.trans RD).trans s6).trans s7).trans (cK.upd ht)) es ?_)
   rw[cA,bT]
   rfl
abbrev pU:Stmt:=top 141
theorem uY:cT ["desk","numbers","readings","pair"] ["desk","numbers"] (cJ pU):=gJ
theorem DP(T:Txt K mg A)(D:Def K mg "answer_clash" pU ["desk","numbers"])(gk:Good P w K mg base 5 "first_clash" ["readings"] (NK A)):Good P w K mg base 6 "answer_clash" ["desk","numbers"] (fk A 13):=by
 refine D.good uY (fun _ _ _ _ h=>?_) (fun _ _ _ _ _ H _ Q _ hr h=>?_)
 ·exact h.len
 ·obtain⟨dk,nl,d,st,ns,c,rfl,hD,g,hnl,lF,hc,ht,k⟩:=h
  cases hc
  rename_i n
  obtain⟨l,hl⟩:=ht
  have gl:=Rc.eX g hl
  obtain⟨r,jm,dl,hr0,jV,hget,hlt,hR,hO⟩:=hD.open_ hl
  obtain⟨as,oj,pN⟩:=id hR
  have es:Vblaaf.step st (.clash n)=if Vblaaf.noPoints l=true then (st,[-5]) else (st,match Vblaaf.clash l.points with
   |none=>[0]
   |some x=>[1,(x.1:Int),(x.2:Int)]):=d8 hl
  unfold Vblaaf.noPoints at es
  have nd:=uY.nd
  have hu:=iX hr
  refine⟨_,(cg (gi 2 nd (cH (fE hu (cH (pv 0) rfl) (dN cW (pv 1) cN (fun _ _=>rfl)) (fun _ _=>rfl)) rfl))
    (cg (dU (dw kZ (dD cX (by rfl) T.len aG (b9 (pv 2) cz)) cN (dQ _)) (cE (cM (dc (b9 (dB rfl T.fD) cz)))) cY)
    (cg (gi 3 nd (dF gk hr (b9 (pv 2) cz)))
    (cg (dU (dw nD (pv 3) fK (dQ _)) (cE (cM (dc (b9 cN cz)))) cY)
    (cE (cM (dJ jo (dc (b9 cN cz)) (pv 3)))))))),?_⟩
  refine⟨_,rfl,dk,A.CD,jm,_,_,rfl,jV,T.cD,T.fu,fc _,_,rfl,nl,_,0,V.int n,rfl,rfl,dG.of hnl,at_of (j:=0) rfl rfl,d.eV,V.ref r.lot,rfl,hget,r.lot,A.CL,dl,_,_,rfl,hlt,T.cL,T.dY,d7 _,?_⟩
  refine⟨_,rfl,r.cP,_,rfl,.inl (dG.of oj),rfl,_,rfl,?_⟩
  rw[iI pN]
  cases hne:l.points.isEmpty with
  |true=>
   rw[hne,bA rfl]at es
   exact dI (dH fun p hp s=>k _ p d (.same hD s hp es))
  |false=>
  rw[hne,bz (by decide)]at es
  refine dR ⟨_,rfl,r.cP,l.points,rfl,hR,fun H1 v hv s1=>?_⟩
  revert hv es
  cases Vblaaf.clash l.points with
  |none=>
   intro es hv
   have hv:v= .f6:=hv
   subst hv
   exact⟨_,rfl,rfl,_,rfl,dI (dH fun p hp s=>k _ p d (.same hD (s1.trans s) hp es))⟩
  |some x=>
   obtain⟨i,j⟩:=x
   intro es hv
   obtain⟨q,rfl,hq⟩:=hv
   refine⟨_,rfl,rfl,_,rfl,dR ⟨eL (by show 1≤100000;decide),fun p hp=>?_⟩⟩
   have sp:=cK.upd (o:=.lst [V.int 1]) hp
   exact⟨_,rfl,gz (ns:=[1]) (ms:=[(i:Int),(j:Int)]) cA (sp _ _ hq) (by show 1+2≤100000;decide) fun t ht=>k _ t d (.same' hD ((s1.trans sp).trans (cK.upd ht)) es cA)⟩
theorem SW{ps:List Point}(gp:Rc.eF ps)(lo:Int):0≤Rc.zZ ps lo:=by
 unfold Rc.zZ
 cases h:Vblaaf.greatestOf ((ps.filter fun p=>decide (p.response+p.bound<lo)).map fun p=>p.dose+1)with
 |none=>exact Int.le_refl _
 |some m=>
  have hm:=(Rc.Gm h).1
  obtain⟨p,hp,e⟩:=aQ.mp hm
  have:=(gp.all p (bS.mp hp).1).d0
  show 0≤m
  omega
theorem SX{ps:List Point}(gp:Rc.eF ps)(hi:Int):Rc.z4 ps hi≤1000000:=by
 unfold Rc.z4
 cases h:Vblaaf.leastOf ((ps.filter fun p=>decide (hi<p.response-p.bound)).map fun p=>p.dose-1)with
 |none=>exact Int.le_refl _
 |some m=>
  have hm:=(Rc.LS h).1
  obtain⟨p,hp,e⟩:=aQ.mp hm
  have:=(gp.all p (bS.mp hp).1).d1
  show m≤1000000
  omega
theorem Q9{ps:List Point}(gp:Rc.eF ps)(lo hi:Int):Vblaaf.doseRange ps lo hi=if Rc.z4 ps hi<Rc.zZ ps lo then none else some (Rc.zZ ps lo,Rc.z4 ps hi):=by
 rw[Rc.IA]
 have h1:=SW gp lo
 have h2:=SX gp hi
 have h3:Vblaaf.DOSE=1000000:=rfl
 rw[h3]
 by_cases h:Rc.z4 ps hi<Rc.zZ ps lo
 ·rw[bA h,bz (by omega)]
 ·rw[bz h,bA (by omega),Int.max_eq_left h1,Int.min_eq_left h2]
def GF(lo hi:Int):Bool:=decide (-2000000≤lo)&&(decide (lo≤hi)&&decide (hi≤2000000))
theorem Vc(lo hi:Int):(inside lo (-(2*Vblaaf.RESPONSE)) (2*Vblaaf.RESPONSE)&&(inside hi (-(2*Vblaaf.RESPONSE)) (2*Vblaaf.RESPONSE)&&decide (lo≤hi)))=GF lo hi:=by
 have e:Vblaaf.RESPONSE=1000000:=rfl
 rw[e]
 unfold GF inside
 rw[Bool.eq_iff_iff]
 simp only[aZ,decide_eq_true_eq]
 omega
abbrev pV:Stmt:=top 142
theorem uZ:cT ["desk","numbers","readings","low","high","first","last"] ["desk","numbers"] (cJ pV):=gJ
theorem DQ(T:Txt K mg A)(D:Def K mg "answer_range" pV ["desk","numbers"])(mE:Good P w K mg base 4 "first_reaching" ["readings","low"] (NL A Rc.zZ))(pW:Good P w K mg base 4 "last_keeping" ["readings","high"] (NL A Rc.z4))(gk:Good P w K mg base 5 "first_clash" ["readings"] (NK A)):Good P w K mg base 6 "answer_range" ["desk","numbers"] (fk A 14):=by
 refine D.good uZ (fun _ _ _ _ h=>?_) (fun _ _ _ _ _ H _ Q _ hr h=>?_)
 ·exact h.len
 ·obtain⟨dk,nl,d,st,ns,c,rfl,hD,g,hnl,lF,hc,ht,k⟩:=h
  cases hc
  rename_i n lo hi
  obtain⟨l,hl⟩:=ht
  have gl:=Rc.eX g hl
  obtain⟨r,jm,dl,hr0,jV,hget,hlt,hR,hO⟩:=hD.open_ hl
  obtain⟨as,oj,pN⟩:=id hR
  have es:Vblaaf.step st (.range n lo hi)=if (inside lo (-(2*Vblaaf.RESPONSE)) (2*Vblaaf.RESPONSE)&&(inside hi (-(2*Vblaaf.RESPONSE)) (2*Vblaaf.RESPONSE)&&decide (lo≤hi)))=false then (st,[-3]) else if Vblaaf.noPoints l=true then (st,[-5]) else if (Vblaaf.clash l.points).isSome=true then (st,[-8])
   else match Vblaaf.doseRange l.points lo hi with
    |none=>(st,[-9])
    |some x=>(st,[x.1,x.2]):=d8 hl
  rw[Vc,Q9 gl.ps]at es
  unfold Vblaaf.noPoints at es
  have nd:=uZ.nd
  have hu:=iX hr
  refine⟨_,(cg (gi 2 nd (cH (fE hu (cH (pv 0) rfl) (dN cW (pv 1) cN (fun _ _=>rfl)) (fun _ _=>rfl)) rfl))
    (cg (gi 3 nd (dN cW (pv 1) cN (fun _ _=>rfl)))
    (cg (gi 4 nd (dN cW (pv 1) cN (fun _ _=>rfl)))
    (cg (dU (gQ (OJ gU gU gU (CP vz (dB rfl T.Aa)) (pv 3) (pv 4) (dB rfl T.Aa))) (cE (cM (dc (b9 (dB rfl T.fH) cz)))) cY)
    (cg (dU (dw kZ (dD cX (by rfl) T.len aG (b9 (pv 2) cz)) cN (dQ _)) (cE (cM (dc (b9 (dB rfl T.fD) cz)))) cY)
    (cg (dU (dw xV (dF gk hr (b9 (pv 2) cz)) fK (dQ _)) (cE (cM (dc (b9 (dB rfl T.E5) cz)))) cY)
    (cg (gi 5 nd (dF mE hr (b9 (pv 2) (b9 (pv 3) cz))))
    (cg (gi 6 nd (dF pW hr (b9 (pv 2) (b9 (pv 4) cz))))
    (cg (dU (dw vA (pv 6) (pv 5) (dQ _)) (cE (cM (dc (b9 (dB rfl T.Bc) cz)))) cY)
    (cE (cM (dc (b9 (pv 5) (b9 (pv 6) cz)))))))))))))),?_⟩
  refine⟨_,rfl,dk,A.CD,jm,_,_,rfl,jV,T.cD,T.fu,fc _,_,rfl,nl,_,0,V.int n,rfl,rfl,dG.of hnl,at_of (j:=0) rfl rfl,d.eV,V.ref r.lot,rfl,hget,r.lot,A.CL,dl,_,_,rfl,hlt,T.cL,T.dY,d7 _,?_⟩
  refine⟨_,rfl,nl,_,1,V.int lo,rfl,rfl,dG.of hnl,at_of (j:=1) rfl rfl,?_⟩
  refine⟨_,rfl,nl,_,2,V.int hi,rfl,rfl,dG.of hnl,at_of (j:=2) rfl rfl,?_⟩
  refine⟨_,rfl,_,rfl,_,_,rfl,rfl,_,rfl,?_⟩
  by_cases h1: -2000000≤lo
  rotate_left
  ·rw[aW h1]
   have hb:GF lo hi=false:=by unfold GF;rw[aW h1];rfl
   rw[hb,bA rfl]at es
   exact dR ⟨_,rfl,dI (dH fun p hp s=>k _ p d (.same hD s hp es))⟩
  rw[aX h1]
  refine dI ⟨_,rfl,_,_,rfl,rfl,_,rfl,?_⟩
  by_cases h2:lo≤hi
  rotate_left
  ·rw[aW h2]
   have hb:GF lo hi=false:=by unfold GF;rw[aW h2,Bool.false_and,Bool.and_false]
   rw[hb,bA rfl]at es
   exact dR ⟨_,rfl,dI (dH fun p hp s=>k _ p d (.same hD s hp es))⟩
  rw[aX h2]
  refine dI ⟨_,_,rfl,rfl,_,rfl,?_⟩
  by_cases h3:hi≤2000000
  rotate_left
  ·rw[aW h3]
   have hb:GF lo hi=false:=by unfold GF;rw[aW h3,Bool.and_false,Bool.and_false]
   rw[hb,bA rfl]at es
   exact dI (dH fun p hp s=>k _ p d (.same hD s hp es))
  rw[aX h3]
  have hb:GF lo hi=true:=by unfold GF;rw[aX h1,aX h2,aX h3];rfl
  rw[hb,bz (by decide)]at es
  refine dR ?_
  refine⟨_,rfl,r.cP,_,rfl,.inl (dG.of oj),rfl,_,rfl,?_⟩
  rw[iI pN]
  cases hne:l.points.isEmpty with
  |true=>
   rw[hne,bA rfl]at es
   exact dI (dH fun p hp s=>k _ p d (.same hD s hp es))
  |false=>
  rw[hne,bz (by decide)]at es
  refine dR ⟨_,rfl,r.cP,l.points,rfl,hR,fun H1 v hv s1=>?_⟩
  refine⟨rfl,_,rfl,?_⟩
  rw[Ld hv]
  cases hcl:(Vblaaf.clash l.points).isSome with
  |true=>
   rw[hcl,bA rfl]at es
   exact dI (dH fun p hp s=>k _ p d (.same hD (s1.trans s) hp es))
  |false=>
   rw[hcl,bz (by decide)]at es
   have WY:=hR.same s1 fun _ _ h=>h.same s1
   refine dR ⟨_,rfl,_,rfl,r.cP,l.points,lo,rfl,WY,gl.ps.len,fun H2 s2=>?_⟩
   refine⟨_,rfl,_,rfl,r.cP,l.points,hi,rfl,WY.same s2 (fun _ _ h=>h.same s2),gl.ps.len,fun H3 s3=>?_⟩
   have yl:=(s1.trans s2).trans s3
   refine⟨_,rfl,_,rfl,_,_,rfl,rfl,_,rfl,?_⟩
   by_cases hlt:Rc.z4 l.points hi<Rc.zZ l.points lo
   ·rw[bA hlt]at es
    rw[aX hlt]
    exact dI (dH fun p hp s=>k _ p d (.same hD (yl.trans s) hp es))
   ·rw[bz hlt]at es
    rw[aW hlt]
    exact dR ⟨_,rfl,_,rfl,eL (by show 2≤100000;decide),fun p hp=>k _ p d (.same' hD (yl.trans (cK.upd hp)) es cA)⟩
end
end Rv
namespace Rv
open PySem PySem.Spec PyProof.Rows L2
open Vblaaf (Frac Point Block Knot lowest whole plus minus times over less mean)
open Rc (Ok Sz)
section
variable {P:Program} {w:World} {K:PySem.W.Frag} {mg:Str->Option Value} {base:Heap} {A:gY}
theorem Left.put(T:Txt K mg A){H H':Hp}{dk p:Addr}{d:fT}{st:Vblaaf.State}(h:fJ A H dk d st)(g:Rc.je st){n:Int}(h0:0≤n)(h3:n≤3){l:Vblaaf.Lot}{r:jl}{o:Vblaaf.State×List Int}{lU:List Int}
  (hk:∀b o,H b=some o->b≠d.eV->Q2 d n b->H' b=some o)(hd:DictAt H' d.eV fun m=>((d.put n r).lots m).map fun r=>V.ref r.lot)(hl:kH A H' r l)
  (f1:H r.lot=none∨ ∃q,d.lots n=some q/\r.lot=q.lot)(f2:H r.cP=none∨ ∃q,d.lots n=some q/\r.cP=q.cP)(f3:H r.controls=none∨ ∃q,d.lots n=some q/\r.controls=q.controls)(Zm:r.cP≠r.controls)
  (e:o=(Vblaaf.putLot st n l,lU))(hp:H' p=some (.lst (lU.map V.int))):Left A H dk d o H' p (d.put n r):=by
 subst e
 refine⟨h.put T g h0 h3 hk hd hl f1 f2 f3 Zm,hp,fun b u e hb=>hk b u e (fun z=>hb (.inr (.inl z))) fun q eq=>⟨fun z=>?_,fun z=>?_,fun z=>?_⟩,fun b hb=>Ax.put f1 f2 f3 hb⟩
 ·exact hb (.inr (.inr (.inr (.inl ⟨n,q,eq,.inl z⟩))))
 ·exact hb (.inr (.inr (.inr (.inl ⟨n,q,eq,.inr (.inl z)⟩))))
 ·exact hb (.inr (.inr (.inr (.inl ⟨n,q,eq,.inr (.inr z)⟩))))
theorem jn.kW{p:Addr}{H H1 H2:Hp}(b:jn p H H1)(s:cK H1 H2):jn p H H2:=fun x o e hx=>s _ _ (b x o e hx)
theorem cK.but{p:Addr}{H H1 H2:Hp}(s:cK H H1)(b:jn p H1 H2):jn p H H2:=fun x o e hx=>b x o (s _ _ e) hx
theorem Left.points(T:Txt K mg A){H H':Hp}{dk p:Addr}{d:fT}{st:Vblaaf.State}(h:fJ A H dk d st)(g:Rc.je st){n:Int}{l:Vblaaf.Lot}{r:jl}{ps:List Point}{o:Vblaaf.State×List Int}{lU:List Int}
  (hl:Vblaaf.lotAt st n=some l)(hr:d.lots n=some r)(b:jn r.cP H H')(hps:fV (vn A) H' r.cP ps)(e:o=(Vblaaf.putLot st n { l with points:=ps },lU))(hp:H' p=some (.lst (lU.map V.int))):Left A H dk d o H' p (d.put n r):=by
 have hn:=Rc.iZ hl
 obtain⟨l',hl',⟨dl,e1⟩,⟨as,e2,e3⟩,⟨cs,e4,e5⟩⟩:=h.lot hr
 rw[hl]at hl'
 cases hl'
 have hne:=h.FI n n r r hr hr
 obtain⟨kvs,ns,ed,_⟩:=h.dict.ex
 refine Left.put (l:={ l with points:=ps }) T h g hn.1 hn.2.1 (fun x u ex _ hx=>b x u ex (hx r hr).2.1) (h.dict' hr rfl fun u eu=>b _ _ eu (e9 ed e2 (by intro z;cases z))) ⟨⟨dl,b _ _ e1 (e9 e1 e2 (by intro z;cases z))⟩,hps,⟨cs,b _ _ e4 (Ne.symm hne),e5.imp fun _ _ ⟨dx,q⟩=>⟨dx,b _ _ q (e9 q e2 (by intro z;cases z))⟩⟩⟩ (.inr ⟨r,hr,rfl⟩) (.inr ⟨r,hr,rfl⟩) (.inr ⟨r,hr,rfl⟩) hne e hp
theorem Left.controls(T:Txt K mg A){H H':Hp}{dk p:Addr}{d:fT}{st:Vblaaf.State}(h:fJ A H dk d st)(g:Rc.je st){n:Int}{l:Vblaaf.Lot}{r:jl}{cs':List Vblaaf.Control}{o:Vblaaf.State×List Int}{lU:List Int}
  (hl:Vblaaf.lotAt st n=some l)(hr:d.lots n=some r)(b:jn r.controls H H')(hcs:fV (Ce A) H' r.controls cs')(e:o=(Vblaaf.putLot st n { l with controls:=cs' },lU))(hp:H' p=some (.lst (lU.map V.int))):Left A H dk d o H' p (d.put n r):=by
 have hn:=Rc.iZ hl
 obtain⟨l',hl',⟨dl,e1⟩,⟨as,e2,e3⟩,⟨cs,e4,e5⟩⟩:=h.lot hr
 rw[hl]at hl'
 cases hl'
 have hne:=h.FI n n r r hr hr
 obtain⟨kvs,ns,ed,_⟩:=h.dict.ex
 refine Left.put (l:={ l with controls:=cs' }) T h g hn.1 hn.2.1 (fun x u ex _ hx=>b x u ex (hx r hr).2.2) (h.dict' hr rfl fun u eu=>b _ _ eu (e9 ed e4 (by intro z;cases z))) ⟨⟨dl,b _ _ e1 (e9 e1 e4 (by intro z;cases z))⟩,⟨as,b _ _ e2 hne,e3.imp fun _ _ ⟨dx,q⟩=>⟨dx,b _ _ q (e9 q e4 (by intro z;cases z))⟩⟩,hcs⟩ (.inr ⟨r,hr,rfl⟩) (.inr ⟨r,hr,rfl⟩) (.inr ⟨r,hr,rfl⟩) hne e hp
theorem Left.lot(T:Txt K mg A){H H':Hp}{dk p:Addr}{d:fT}{st:Vblaaf.State}(h:fJ A H dk d st)(g:Rc.je st){n:Int}{l l2:Vblaaf.Lot}{r:jl}{rr cc:Addr}{o:Vblaaf.State×List Int}{lU:List Int}
  (hl:Vblaaf.lotAt st n=some l)(hr:d.lots n=some r)(b:jn r.lot H H')(hL:kH A H' ⟨r.lot,rr,cc⟩ l2)(frr:H rr=none∨rr=r.cP)(fcc:H cc=none∨cc=r.controls)(hne:rr≠cc)
  (e:o=(Vblaaf.putLot st n l2,lU))(hp:H' p=some (.lst (lU.map V.int))):Left A H dk d o H' p (d.put n ⟨r.lot,rr,cc⟩):=by
 have hn:=Rc.iZ hl
 obtain⟨l',hl',⟨dl,e1⟩,⟨as,e2,e3⟩,⟨cs,e4,e5⟩⟩:=h.lot hr
 obtain⟨kvs,ns,ed,_⟩:=h.dict.ex
 exact .put T h g hn.1 hn.2.1 (fun x u ex _ hx=>b x u ex (hx r hr).1) (h.dict' hr rfl fun u eu=>b _ _ eu (e9 ed e1 (by intro z;cases z))) hL (.inr ⟨r,hr,rfl⟩) (frr.imp id fun q=>⟨r,hr,q⟩) (fcc.imp id fun q=>⟨r,hr,q⟩) hne e hp
theorem fq.erase{α:Type}{R:Addr->α->Prop}{as:List Addr}{xs:List α}(h:fq R as xs)(i:Nat):fq R (as.eraseIdx i) (xs.eraseIdx i):=by
 refine⟨by rw[List.length_eraseIdx,List.length_eraseIdx,h.len],fun j a x h1 h2=>?_⟩
 rw[List.getElem?_eraseIdx]at h1 h2
 split at h1
 ·rename_i hj
  rw[bA hj]at h2
  exact h.at_ j a x h1 h2
 ·rename_i hj
  rw[bz hj]at h2
  exact h.at_ (j+1) a x h1 h2
end
end Rv
namespace Rv
open PySem PySem.Spec PyProof.Rows L2
open Vblaaf (Frac Point Block Knot lowest whole plus minus times over less mean)
open Rc (Ok Sz)
section
variable {P:Program} {w:World} {K:PySem.W.Frag} {mg:Str->Option Value} {base:Heap} {A:gY}
open Vblaaf (inside)
theorem OZ(as:List Addr)(i:Nat):(as.map V.ref).eraseIdx i=(as.eraseIdx i).map V.ref:=by
 refine List.ext_getElem? fun j=>?_
 rw[List.getElem?_eraseIdx,aE,aE,aE,List.getElem?_eraseIdx]
 split <;> rfl
theorem DictAt.put{H:Hp}{d:Addr}{f:Int->Option V}(h:DictAt H d f){n:Int}(h0:0≤n)(h3:n≤3)(v:V):∃kvs,H d=some (.dK kvs)/\kvs.length≤4/\DictAt (L2.upd H d (.dK (putK kvs (Sum.inl n) v))) d fun m=>if m=n then some v else f m:=by
 obtain⟨kvs,ns,e1,e2,e3,e4,e5⟩:=h.ex
 have kl:kvs.length=ns.length:=by have:=congrArg List.length e2;rw[aa,aa]at this;exact this
 have nl:ns.length≤4:=by
  have:=List.Nodup.length_le_of_subset e3 (l₂:=[0,1,2,3]) fun n hn=>by
   have:=e4 n hn
   have:n=0∨n=1∨n=2∨n=3:=by omega
   rcases this with rfl | rfl | rfl | rfl <;> simp
  exact this
 refine⟨kvs,e1,by omega,?_⟩
 have hm:=HE kvs (Sum.inl n) v
 have hv:∀m:Int,iY (putK kvs (Sum.inl n) v) (Sum.inl m)=if m=n then some v else f m:=by
  intro m
  rw[AQ]
  by_cases e:m=n
  ·subst e;rw[bA rfl,bA rfl]
  ·rw[bz (by intro z;exact e (Sum.inl.inj z)),bz e,e5]
 by_cases hp:(iY kvs (Sum.inl n)).isSome=true
 ·rw[bA hp]at hm
  exact⟨_,ns,cA,hm.trans e2,e3,e4,hv⟩
 ·rw[bz hp]at hm
  refine⟨_,ns++[n],cA,by rw[hm,e2,ay];rfl,?_,?_,hv⟩
  ·rw[List.nodup_append]
   refine⟨e3,by simp,fun a ha b hb=>?_⟩
   rw[bW]at hb
   subst hb
   intro e;subst e
   refine hp ?_
   rw[<-m5,List.any_eq_true]
   have:(Sum.inl a:Key)∈kvs.map (·.1):=by rw[e2];exact List.mem_map_of_mem ha
   obtain⟨kv,hkv,ek⟩:=aQ.mp this
   exact⟨kv,hkv,by simpa using ek⟩
  ·intro m hm
   rcases bh.mp hm with q | q
   ·exact e4 m q
   ·rw[bW.mp q];exact⟨h0,h3⟩
abbrev uz:Stmt:=top 104
theorem zk:cT ["desk","numbers"] ["desk","numbers"] (cJ uz):=gJ
theorem GG(T:Txt K mg A)(D:Def K mg "answer_lot" uz ["desk","numbers"])(Ra:GoodC P w K mg base 3 "Lot" A.CL ["self","good_until"] (QZ A))(oQ:Good P w K mg base 3 "is_time" ["number"] (pH Di)):Good P w K mg base 5 "answer_lot" ["desk","numbers"] (fk A 0):=by
 refine D.good zk (fun _ _ _ _ h=>?_) (fun _ _ _ _ _ H _ Q _ hr h=>?_)
 ·exact h.len
 ·obtain⟨dk,nl,d,st,ns,c,rfl,hD,g,hnl,lF,hc,ht,k⟩:=h
  cases hc
  rename_i n e
  obtain⟨h0,h3⟩:=ht
  obtain⟨jm,jV⟩:=hD.yw
  have hil:¬Vblaaf.isLot n=false:=by
   have:Vblaaf.isLot n=true:=(Rc.d9 _ _ _).mpr ⟨h0,h3⟩
   rw[this];decide
  have es:Vblaaf.step st (.lot n e)=if Vblaaf.isLot n=false then (st,[-1]) else if Di e=false then (st,[-3]) else (Vblaaf.putLot st n { expires:=e },[0]):=rfl
  rw[bz hil]at es
  have nd:=zk.nd
  have hu:=iX hr
  refine⟨_,(cg (dU (gQ (gP (dF oQ hr (b9 (dN cW (pv 1) cN (fun _ _=>rfl)) cz)))) (cE (cM (dc (b9 (dB rfl T.fH) cz)))) cY)
    (cg (DY hu (cH (pv 0) rfl) (dN cW (pv 1) cN (fun _ _=>rfl)) (jY Ra hr (b9 (dN cW (pv 1) cN (fun _ _=>rfl)) cz)) rfl)
    (cE (cM (dc (b9 cN cz)))))),?_⟩
  refine⟨_,rfl,nl,_,1,V.int e,rfl,rfl,dG.of hnl,at_of (j:=1) rfl rfl,e,rfl,_,rfl,?_⟩
  cases hok:Di e with
  |false=>
   rw[hok,bA rfl]at es
   exact dI (dH fun p hp s=>k _ p d (.same hD s hp es))
  |true=>
   rw[hok,bz (by decide)]at es
   refine dR ⟨_,rfl,nl,_,1,V.int e,rfl,rfl,dG.of hnl,at_of (j:=1) rfl rfl,fun x dx nx kK _=>⟨x,dx,e,rfl,cA,fun H1 rr cc nr nc hne hL kp=>⟨rfl,?_⟩⟩⟩
   have s1:cK H H1:=cK.made nx kK kp
   have nr0:H rr=none:=(iH nx kK).free nr
   have nc0:H cc=none:=(iH nx kK).free nc
   have MF:=hnl.same s1
   have SY:=s1 _ _ jV
   obtain⟨kvs,hkv,hkl,hdict⟩:=(hD.dict.same s1).put h0 h3 (V.ref x)
   refine⟨_,rfl,dk,A.CD,jm,_,_,rfl,SY,T.cD,T.fu,fc _,_,rfl,nl,_,0,V.int n,rfl,rfl,dG.of MF,at_of (j:=0) rfl rfl,d.eV,_,rfl,JN.k (k:=Sum.inl n) hkv (dO (by omega)),?_⟩
   refine⟨eL (by show 1≤100000;decide),fun p hp=>?_⟩
   have sp:=cK.upd (o:=.lst [V.int 0]) hp
   have il:jb H1 (L2.upd (L2.upd H1 d.eV (.dK (putK kvs (Sum.inl n) (V.ref x)))) p (.lst [V.int 0])):=(jb.dict hkv (by intro _ _ _ z;cases z) (by intro _ z;cases z)).trans (.of sp)
   refine k _ p (d.put n ⟨x,rr,cc⟩) (.put T hD g h0 h3 (fun b u eb hb _=>?_) ?_ (hL.il il) (.inl nx) (.inl nr0) (.inl nc0) hne es cA)
   ·exact sp _ _ (by rw[cV hb];exact s1 _ _ eb)
   ·obtain⟨kvs',ns',q1,q2,q3,q4,q5⟩:=(hdict.same sp).ex
    refine⟨kvs',ns',q1,q2,q3,q4,fun m=>?_⟩
    rw[q5]
    show _=(if m=n then some (⟨x,rr,cc⟩:jl) else d.lots m).map _
    by_cases em:m=n
    ·rw[bA em,bA em];rfl
    ·rw[bz em,bz em]
abbrev pX:Stmt:=top 105
theorem u5:cT ["desk","numbers","readings","reading"] ["desk","numbers"] (cJ pX):=gJ
theorem DR(T:Txt K mg A)(D:Def K mg "answer_point" pX ["desk","numbers"])(oM:GoodC P w K mg base 3 "Reading" A.CR ["self","dose","response","weight","bound"] (ym A))(jU:Good P w K mg base 5 "is_reading" ["reading"] (wM A)):Good P w K mg base 6 "answer_point" ["desk","numbers"] (fk A 1):=by
 refine D.good u5 (fun _ _ _ _ h=>?_) (fun _ _ _ _ _ H _ Q _ hr h=>?_)
 ·exact h.len
 ·obtain⟨dk,nl,d,st,ns,c,rfl,hD,g,hnl,lF,hc,ht,k⟩:=h
  cases hc
  rename_i n x y w b
  obtain⟨l,hl⟩:=ht
  have gl:=Rc.eX g hl
  obtain⟨r,jm,dl,hr0,jV,hget,hlt,hR,hO⟩:=hD.open_ hl
  obtain⟨as,oj,pN⟩:=id hR
  have es:Vblaaf.step st (.point n x y w b)=if Vblaaf.okPoint ⟨x,y,w,b⟩=false then (st,[-3]) else if Vblaaf.POINTS≤l.points.length then (st,[-4]) else (Vblaaf.putLot st n { l with points:=l.points++[⟨x,y,w,b⟩] },[(l.points.length:Int)]):=d8 hl
  have nd:=u5.nd
  have hu:=iX hr
  refine⟨_,(cg (gi 2 nd (cH (fE hu (cH (pv 0) rfl) (dN cW (pv 1) cN (fun _ _=>rfl)) (fun _ _=>rfl)) rfl))
    (cg (gi 3 nd (jY oM hr (b9 (dN cW (pv 1) cN (fun _ _=>rfl)) (b9 (dN cW (pv 1) cN (fun _ _=>rfl)) (b9 (dN cW (pv 1) cN (fun _ _=>rfl)) (b9 (dN cW (pv 1) cN (fun _ _=>rfl)) cz))))))
    (cg (dU (gQ (gP (dF jU hr (b9 (pv 3) cz)))) (cE (cM (dc (b9 (dB rfl T.fH) cz)))) cY)
    (cg (dU (dw MV (dD cX (by rfl) T.len aG (b9 (pv 2) cz)) (dB rfl T.yF) (dQ _)) (cE (cM (dc (b9 (dB rfl T.SA) cz)))) cY)
    (cg (iL (nV aP PySem.F.slot_list_append PySem.F.type_list_append k8 (pv 2) (b9 (pv 3) cz)))
    (cE (cM (dc (b9 (dJ oS (dD cX (by rfl) T.len aG (b9 (pv 2) cz)) cN) cz))))))))),?_⟩
  refine⟨_,rfl,dk,A.CD,jm,_,_,rfl,jV,T.cD,T.fu,fc _,_,rfl,nl,_,0,V.int n,rfl,rfl,dG.of hnl,at_of (j:=0) rfl rfl,d.eV,V.ref r.lot,rfl,hget,r.lot,A.CL,dl,_,_,rfl,hlt,T.cL,T.dY,d7 _,?_⟩
  refine⟨_,rfl,nl,_,1,V.int x,rfl,rfl,dG.of hnl,at_of (j:=1) rfl rfl,_,rfl,nl,_,2,V.int y,rfl,rfl,dG.of hnl,at_of (j:=2) rfl rfl,_,rfl,nl,_,3,V.int w,rfl,rfl,dG.of hnl,at_of (j:=3) rfl rfl,_,rfl,nl,_,4,V.int b,rfl,rfl,dG.of hnl,at_of (j:=4) rfl rfl,fun q dq nq Wv _=>⟨q,dq,⟨x,y,w,b⟩,rfl,cA,fun H1 hq kp=>⟨rfl,?_⟩⟩⟩
  have s1:cK H H1:=cK.made nq Wv kp
  refine⟨_,rfl,q,_,rfl,hq,_,rfl,?_⟩
  cases hok:Vblaaf.okPoint ⟨x,y,w,b⟩with
  |false=>
   rw[hok,bA rfl]at es
   exact dI (dH fun p hp s=>k _ p d (.same hD (s1.trans s) hp es))
  |true=>
  rw[hok,bz (by decide)]at es
  have Jm:=s1 _ _ oj
  have al:(as.map V.ref).length=l.points.length:=by rw[aa,pN.len]
  refine dR ⟨_,rfl,r.cP,_,rfl,.inl (dG.of Jm),_,_,rfl,rfl,_,rfl,?_⟩
  rw[al]
  have hP:Vblaaf.POINTS=40:=rfl
  by_cases Le:Vblaaf.POINTS≤l.points.length
  ·rw[bA Le]at es
   rw[aX (by omega)]
   exact dI (dH fun p hp s=>k _ p d (.same hD (s1.trans s) hp es))
  ·rw[bz Le]at es
   rw[aW (by omega)]
   refine dR ⟨_,rfl,.inl ⟨rfl,_,dG.of Jm⟩,_,rfl,r.cP,_,_,rfl,rfl,Jm,dO (by rw[al];omega),?_⟩
   refine⟨_,rfl,r.cP,_,rfl,.inl (dG.of cA),_,_,rfl,rfl,eL (by show 1≤100000;decide),fun p hp=>?_⟩
   have MG:((((as.map V.ref)++[V.ref q]).length:Nat):Int)-1=(l.points.length:Int):=by rw[ao,al];simp
   show Q (.ref p) (L2.upd _ p (.lst [V.int (((as.map V.ref++[V.ref q]).length:Int)-1)]))
   rw[MG]
   have sp:=cK.upd (o:=.lst [V.int (l.points.length:Int)]) hp
   have b1:jn r.cP H1 (L2.upd H1 r.cP (.lst (as.map V.ref++[V.ref q]))):=jn.upd
   have bb:jn r.cP H (L2.upd (L2.upd H1 r.cP (.lst (as.map V.ref++[V.ref q]))) p (.lst [V.int (l.points.length:Int)])):=(cK.but s1 b1).kW sp
   have kR:∀{a:Addr}{z:Point},vn A H1 a z->vn A (L2.upd (L2.upd H1 r.cP (.lst (as.map V.ref++[V.ref q]))) p (.lst [V.int (l.points.length:Int)])) a z:=fun⟨dx,ez⟩=>⟨dx,sp _ _ (b1 _ _ ez (e9 ez Jm (by intro z;cases z)))⟩
   refine k _ p _ (.points T hD g hl hr0 bb ⟨as++[q],sp _ _ (by rw[cA,ay];rfl),(pN.imp fun _ _ h=>kR (h.same s1)).snoc (kR hq)⟩ es cA)
abbrev mF:Stmt:=top 106
theorem qJ:cT ["desk","numbers","readings"] ["desk","numbers"] (cJ mF):=gJ
theorem BC(T:Txt K mg A)(D:Def K mg "answer_unpoint" mF ["desk","numbers"]):Good P w K mg base 3 "answer_unpoint" ["desk","numbers"] (fk A 2):=by
 refine D.good qJ (fun _ _ _ _ h=>?_) (fun _ _ _ _ _ H _ Q _ hr h=>?_)
 ·exact h.len
 ·obtain⟨dk,nl,d,st,ns,c,rfl,hD,g,hnl,lF,hc,ht,k⟩:=h
  cases hc
  rename_i n i
  obtain⟨l,hl⟩:=ht
  have gl:=Rc.eX g hl
  obtain⟨r,jm,dl,hr0,jV,hget,hlt,hR,hO⟩:=hD.open_ hl
  obtain⟨as,oj,pN⟩:=id hR
  have es:Vblaaf.step st (.unpoint n i)=if inside i 0 ((l.points.length:Int)-1)=false then (st,[-3]) else (Vblaaf.putLot st n { l with points:=l.points.eraseIdx i.toNat },[(l.points.length:Int)-1]):=d8 hl
  have al:(as.map V.ref).length=l.points.length:=by rw[aa,pN.len]
  have Xu:=gl.ps.len
  have nd:=qJ.nd
  have hu:=iX hr
  refine⟨_,(cg (gi 2 nd (cH (fE hu (cH (pv 0) rfl) (dN cW (pv 1) cN (fun _ _=>rfl)) (fun _ _=>rfl)) rfl))
    (cg (dU (gQ (oU gU vA cN (dN cW (pv 1) cN (fun _ _=>rfl)) (dD cX (by rfl) T.len aG (b9 (pv 2) cz)))) (cE (cM (dc (b9 (dB rfl T.fH) cz)))) cY)
    (cg (iL (nV aP PySem.F.slot_list_pop PySem.F.type_list_pop Pr (pv 2) (b9 (dN cW (pv 1) cN (fun _ _=>rfl)) cz)))
    (cE (cM (dc (b9 (dD cX (by rfl) T.len aG (b9 (pv 2) cz)) cz))))))),?_⟩
  refine⟨_,rfl,dk,A.CD,jm,_,_,rfl,jV,T.cD,T.fu,fc _,_,rfl,nl,_,0,V.int n,rfl,rfl,dG.of hnl,at_of (j:=0) rfl rfl,d.eV,V.ref r.lot,rfl,hget,r.lot,A.CL,dl,_,_,rfl,hlt,T.cL,T.dY,d7 _,?_⟩
  refine⟨_,rfl,nl,_,1,V.int i,rfl,rfl,dG.of hnl,at_of (j:=1) rfl rfl,_,_,rfl,rfl,_,rfl,?_⟩
  by_cases h1:0≤i
  rotate_left
  ·have e:inside i 0 ((l.points.length:Int)-1)=false:=by unfold inside;rw[aW h1,Bool.false_and]
   rw[e,bA rfl]at es
   rw[aW h1]
   exact dR ⟨_,rfl,dI (dH fun p hp s=>k _ p d (.same hD s hp es))⟩
  rw[aX h1]
  refine dI ⟨_,rfl,r.cP,_,rfl,.inl (dG.of oj),_,_,rfl,rfl,_,rfl,?_⟩
  rw[al]
  by_cases h2:i<(l.points.length:Int)
  rotate_left
  ·have e:inside i 0 ((l.points.length:Int)-1)=false:=by unfold inside;rw[aW (show ¬i≤(l.points.length:Int)-1 by omega),Bool.and_false]
   rw[e,bA rfl]at es
   rw[aW h2]
   exact dI (dH fun p hp s=>k _ p d (.same hD s hp es))
  have e:inside i 0 ((l.points.length:Int)-1)=true:=(Rc.d9 _ _ _).mpr ⟨h1,by omega⟩
  rw[e,bz (by decide)]at es
  rw[aX h2]
  have hix:seqIndex? i (as.map V.ref).length=some i.toNat:=by
   unfold seqIndex?
   rw[al]
   simp only[bz (show ¬i<0 by omega)]
   rw[bA (by simp;omega)]
  have hat:(as.map V.ref)[i.toNat]?=some ((as.map V.ref)[i.toNat]'(by rw[al];omega)):=ah _
  refine dR ⟨_,rfl,.inl ⟨rfl,_,dG.of oj⟩,_,rfl,nl,_,1,V.int i,rfl,rfl,dG.of hnl,at_of (j:=1) rfl rfl,r.cP,_,i,i.toNat,_,rfl,rfl,oj,by omega,by omega,hix,hat,?_⟩
  refine⟨_,rfl,r.cP,_,rfl,.inl (dG.of cA),eL (by show 1≤100000;decide),fun p hp=>?_⟩
  have MG:((((as.map V.ref).eraseIdx i.toNat).length:Nat):Int)=(l.points.length:Int)-1:=by
   rw[List.length_eraseIdx,bA (by rw[al];omega),al];omega
  rw[MG]
  have sp:=cK.upd (o:=.lst [V.int ((l.points.length:Int)-1)]) hp
  have b1:jn r.cP H (L2.upd H r.cP (.lst ((as.map V.ref).eraseIdx i.toNat))):=jn.upd
  have kR:∀{a:Addr}{z:Point},vn A H a z->vn A (L2.upd (L2.upd H r.cP (.lst ((as.map V.ref).eraseIdx i.toNat))) p (.lst [V.int ((l.points.length:Int)-1)])) a z:=fun⟨dx,ez⟩=>⟨dx,sp _ _ (b1 _ _ ez (e9 ez oj (by intro z;cases z)))⟩
  refine k _ p _ (.points T hD g hl hr0 (b1.kW sp) ⟨as.eraseIdx i.toNat,sp _ _ (by rw[cA,OZ]),(pN.erase i.toNat).imp fun _ _ h=>kR h⟩ es cA)
abbrev nS:Stmt:=top 107
theorem sX:cT ["desk","numbers","readings","answer","reading"] ["desk","numbers"] (cJ nS):=gJ
theorem CI(T:Txt K mg A)(D:Def K mg "answer_points" nS ["desk","numbers"]):Good P w K mg base 3 "answer_points" ["desk","numbers"] (fk A 3):=by
 refine D.good sX (fun _ _ _ _ h=>?_) (fun _ _ _ _ _ H _ Q _ hr h=>?_)
 ·exact h.len
 ·obtain⟨dk,nl,d,st,ns,c,rfl,hD,g,hnl,lF,hc,ht,k⟩:=h
  cases hc
  rename_i n
  obtain⟨l,hl⟩:=ht
  have gl:=Rc.eX g hl
  obtain⟨r,jm,dl,hr0,jV,hget,hlt,hR,hO⟩:=hD.open_ hl
  obtain⟨as,oj,pN⟩:=id hR
  have es:Vblaaf.step st (.points n)=(st,[0,(l.points.length:Int)]++l.points.flatMap fun p=>[p.dose,p.response,p.weight,p.bound]):=d8 hl
  have al:(as.map V.ref).length=l.points.length:=by rw[aa,pN.len]
  have Xu:=gl.ps.len
  have nd:=sX.nd
  have hu:=iX hr
  refine⟨_,(cg (gi 2 nd (cH (fE hu (cH (pv 0) rfl) (dN cW (pv 1) cN (fun _ _=>rfl)) (fun _ _=>rfl)) rfl))
    (cg (gi 3 nd (dc (b9 cN (b9 (dD cX (by rfl) T.len aG (b9 (pv 2) cz)) cz))))
    (cg (iJ PassesOwn.never rfl (fL (pv 2)) (qu 4 nd) (cE (iL (nV aP PySem.F.slot_list_extend PySem.F.type_list_extend lW (pv 3) (b9 (dc (b9 (cH (pv 4) rfl) (b9 (cH (pv 4) rfl) (b9 (cH (pv 4) rfl) (b9 (cH (pv 4) rfl) cz))))) cz)))))
    (cE (cM (pv 3)))))),?_⟩
  refine⟨_,rfl,dk,A.CD,jm,_,_,rfl,jV,T.cD,T.fu,fc _,_,rfl,nl,_,0,V.int n,rfl,rfl,dG.of hnl,at_of (j:=0) rfl rfl,d.eV,V.ref r.lot,rfl,hget,r.lot,A.CL,dl,_,_,rfl,hlt,T.cL,T.dY,d7 _,?_⟩
  refine⟨_,rfl,r.cP,_,rfl,.inl (dG.of oj),eL (by show 2≤100000;decide),fun p hp=>?_⟩
  have sp:=cK.upd (o:=.lst [V.int 0,V.int (((as.map V.ref).length:Nat):Int)]) hp
  refine⟨_,rfl,r.cP,rfl,⟨_,dG.of (sp _ _ oj)⟩,j8 (K:=K) (a:=r.cP) (xs:=as.map V.ref) (fun i σ H'=>∃v4:Option V,σ=[some (.ref dk),some (.ref nl),some (.ref r.cP),some (.ref p),v4]/\cK H H'/\iw H' p ([0,(l.points.length:Int)]++(l.points.take i).flatMap fun p=>[p.dose,p.response,p.weight,p.bound]))
   ⟨none,rfl,sp,?_⟩ (fun i σ H' _ ⟨_,_,s,_⟩=>dG.of (s _ _ oj)) ?_ ?_⟩
  ·show (L2.upd H p _) p=_
   rw[cA,al]
   simp
  ·rintro i y σ H' hy ⟨v4,rfl,s,qP⟩
   obtain⟨a,ia,rfl⟩:=f7 hy
   obtain⟨x,ix,hx⟩:=pN.get' ia
   obtain⟨da,ha⟩:=hx.same s
   refine⟨_,rfl,.inl ⟨rfl,_,dG.of qP⟩,_,rfl,a,A.CR,da,_,_,rfl,ha,T.cR,T.jR,jJ x,_,rfl,a,A.CR,da,_,_,rfl,ha,T.cR,T.iF,i7 x,_,rfl,a,A.CR,da,_,_,rfl,ha,T.cR,T.lC,lY x,_,rfl,a,A.CR,da,_,_,rfl,ha,T.cR,T.pC,sF x,eL (by show 4≤100000;decide),fun q hq=>?_⟩
   have sq:=cK.upd (o:=.lst [V.int x.dose,V.int x.response,V.int x.weight,V.int x.bound]) hq
   refine⟨p,q,_,_,rfl,rfl,qP.same sq,cA,eL ?_,?_⟩
   ·rw[aa,ao]
    have:=jM (f:=fun p:Point=>[p.dose,p.response,p.weight,p.bound]) (m:=4) (fun x=>aA _) (l.points.take i)
    have:=w6 Xu i
    show 2+_+4≤100000
    omega
   ·refine⟨_,rfl,cK.fU (s.trans sq) hp,?_⟩
    rw[oO ix,<-bT]
    exact iw.upd (ms:=[x.dose,x.response,x.weight,x.bound])
  ·rintro σ H' ⟨v4,rfl,s,qP⟩
   rw[al,aK]at qP
   exact⟨_,rfl,k H' p d (.same hD s qP es)⟩
abbrev mG:Stmt:=top 108
theorem qK:cT ["desk","numbers","controls","control"] ["desk","numbers"] (cJ mG):=gJ
theorem BD(T:Txt K mg A)(D:Def K mg "answer_control" mG ["desk","numbers"])(oN:GoodC P w K mg base 3 "Control" A.CO ["self","dose","response","weight"] (yo A))(gR:Good P w K mg base 4 "is_control" ["control"] (qB A)):Good P w K mg base 5 "answer_control" ["desk","numbers"] (fk A 15):=by
 refine D.good qK (fun _ _ _ _ h=>?_) (fun _ _ _ _ _ H _ Q _ hr h=>?_)
 ·exact h.len
 ·obtain⟨dk,nl,d,st,ns,c,rfl,hD,g,hnl,lF,hc,ht,k⟩:=h
  cases hc
  rename_i n x y w
  obtain⟨l,hl⟩:=ht
  have gl:=Rc.eX g hl
  obtain⟨r,jm,dl,hr0,jV,hget,hlt,hR,hO⟩:=hD.open_ hl
  obtain⟨as,oj,pN⟩:=id hO
  have es:Vblaaf.step st (.control n x y w)=if Vblaaf.okControl ⟨x,y,w⟩=false then (st,[-3]) else if Vblaaf.CONTROLS≤l.controls.length then (st,[-4]) else (Vblaaf.putLot st n { l with controls:=l.controls++[⟨x,y,w⟩] },[(l.controls.length:Int)]):=d8 hl
  have nd:=qK.nd
  have hu:=iX hr
  refine⟨_,(cg (gi 2 nd (cH (fE hu (cH (pv 0) rfl) (dN cW (pv 1) cN (fun _ _=>rfl)) (fun _ _=>rfl)) rfl))
    (cg (gi 3 nd (jY oN hr (b9 (dN cW (pv 1) cN (fun _ _=>rfl)) (b9 (dN cW (pv 1) cN (fun _ _=>rfl)) (b9 (dN cW (pv 1) cN (fun _ _=>rfl)) cz)))))
    (cg (dU (gQ (gP (dF gR hr (b9 (pv 3) cz)))) (cE (cM (dc (b9 (dB rfl T.fH) cz)))) cY)
    (cg (dU (dw MV (dD cX (by rfl) T.len aG (b9 (pv 2) cz)) (dB rfl T.yG) (dQ _)) (cE (cM (dc (b9 (dB rfl T.SA) cz)))) cY)
    (cg (iL (nV aP PySem.F.slot_list_append PySem.F.type_list_append k8 (pv 2) (b9 (pv 3) cz)))
    (cE (cM (dc (b9 (dJ oS (dD cX (by rfl) T.len aG (b9 (pv 2) cz)) cN) cz))))))))),?_⟩
  refine⟨_,rfl,dk,A.CD,jm,_,_,rfl,jV,T.cD,T.fu,fc _,_,rfl,nl,_,0,V.int n,rfl,rfl,dG.of hnl,at_of (j:=0) rfl rfl,d.eV,V.ref r.lot,rfl,hget,r.lot,A.CL,dl,_,_,rfl,hlt,T.cL,T.fY,iE _,?_⟩
  refine⟨_,rfl,nl,_,1,V.int x,rfl,rfl,dG.of hnl,at_of (j:=1) rfl rfl,_,rfl,nl,_,2,V.int y,rfl,rfl,dG.of hnl,at_of (j:=2) rfl rfl,_,rfl,nl,_,3,V.int w,rfl,rfl,dG.of hnl,at_of (j:=3) rfl rfl,fun q dq nq Wv _=>⟨q,dq,⟨x,y,w⟩,rfl,cA,fun H1 hq kp=>⟨rfl,?_⟩⟩⟩
  have s1:cK H H1:=cK.made nq Wv kp
  refine⟨_,rfl,q,_,rfl,.inl hq,_,rfl,?_⟩
  cases hok:Vblaaf.okControl ⟨x,y,w⟩with
  |false=>
   rw[hok,bA rfl]at es
   exact dI (dH fun p hp s=>k _ p d (.same hD (s1.trans s) hp es))
  |true=>
  rw[hok,bz (by decide)]at es
  have Jm:=s1 _ _ oj
  have al:(as.map V.ref).length=l.controls.length:=by rw[aa,pN.len]
  refine dR ⟨_,rfl,r.controls,_,rfl,.inl (dG.of Jm),_,_,rfl,rfl,_,rfl,?_⟩
  rw[al]
  have hP:Vblaaf.CONTROLS=20:=rfl
  by_cases Le:Vblaaf.CONTROLS≤l.controls.length
  ·rw[bA Le]at es
   rw[aX (by omega)]
   exact dI (dH fun p hp s=>k _ p d (.same hD (s1.trans s) hp es))
  ·rw[bz Le]at es
   rw[aW (by omega)]
   refine dR ⟨_,rfl,.inl ⟨rfl,_,dG.of Jm⟩,_,rfl,r.controls,_,_,rfl,rfl,Jm,dO (by rw[al];omega),?_⟩
   refine⟨_,rfl,r.controls,_,rfl,.inl (dG.of cA),_,_,rfl,rfl,eL (by show 1≤100000;decide),fun p hp=>?_⟩
   have MG:((((as.map V.ref)++[V.ref q]).length:Nat):Int)-1=(l.controls.length:Int):=by rw[ao,al];simp
   show Q (.ref p) (L2.upd _ p (.lst [V.int (((as.map V.ref++[V.ref q]).length:Int)-1)]))
   rw[MG]
   have sp:=cK.upd (o:=.lst [V.int (l.controls.length:Int)]) hp
   have b1:jn r.controls H1 (L2.upd H1 r.controls (.lst (as.map V.ref++[V.ref q]))):=jn.upd
   have bb:jn r.controls H (L2.upd (L2.upd H1 r.controls (.lst (as.map V.ref++[V.ref q]))) p (.lst [V.int (l.controls.length:Int)])):=(cK.but s1 b1).kW sp
   have kR:∀{a:Addr}{z:Vblaaf.Control},Ce A H1 a z->Ce A (L2.upd (L2.upd H1 r.controls (.lst (as.map V.ref++[V.ref q]))) p (.lst [V.int (l.controls.length:Int)])) a z:=fun⟨dx,ez⟩=>⟨dx,sp _ _ (b1 _ _ ez (e9 ez Jm (by intro z;cases z)))⟩
   refine k _ p _ (.controls T hD g hl hr0 bb ⟨as++[q],sp _ _ (by rw[cA,ay];rfl),(pN.imp fun _ _ h=>kR (h.same s1)).snoc (kR hq)⟩ es cA)
abbrev pY:Stmt:=top 109
theorem u6:cT ["desk","numbers","lot"] ["desk","numbers"] (cJ pY):=gJ
theorem DS(T:Txt K mg A)(D:Def K mg "answer_clear" pY ["desk","numbers"]):Good P w K mg base 3 "answer_clear" ["desk","numbers"] (fk A 16):=by
 refine D.good u6 (fun _ _ _ _ h=>?_) (fun _ _ _ _ _ H _ Q _ hr h=>?_)
 ·exact h.len
 ·obtain⟨dk,nl,d,st,ns,c,rfl,hD,g,hnl,lF,hc,ht,k⟩:=h
  cases hc
  rename_i n
  obtain⟨l,hl⟩:=ht
  have gl:=Rc.eX g hl
  obtain⟨r,jm,dl,hr0,jV,hget,hlt,hR,hO⟩:=hD.open_ hl
  obtain⟨as,oj,pN⟩:=id hR
  have es:Vblaaf.step st (.clear n)=(Vblaaf.putLot st n { l with controls:=[] },[0]):=d8 hl
  have nd:=u6.nd
  have hu:=iX hr
  refine⟨_,(cg (gi 2 nd (fE hu (cH (pv 0) rfl) (dN cW (pv 1) cN (fun _ _=>rfl)) (fun _ _=>rfl)))
   (cg (e8 (pv 2) (dc cz) rfl)
   (cE (cM (dc (b9 cN cz)))))),?_⟩
  refine⟨_,rfl,dk,A.CD,jm,_,_,rfl,jV,T.cD,T.fu,fc _,_,rfl,nl,_,0,V.int n,rfl,rfl,dG.of hnl,at_of (j:=0) rfl rfl,d.eV,V.ref r.lot,rfl,hget,?_⟩
  refine⟨Nat.zero_le _,fun cc hcc=>?_⟩
  have s1:=cK.upd (o:=.lst []) hcc
  have Q8:=s1 _ _ hlt
  refine⟨_,rfl,r.lot,A.CL,dl,_,rfl,Q8,T.cL,T.fY,(by show 3<1000;decide),?_⟩
  refine⟨eL (by show 1≤100000;decide),fun p hp=>?_⟩
  have sp:=cK.upd (o:=.lst [V.int 0]) hp
  have b1:jn r.lot (L2.upd H cc (.lst [])) (L2.upd (L2.upd H cc (.lst [])) r.lot (.ins A.CL dl (dX "controls" (.ref cc) (QD ⟨l.expires,r.cP,r.controls⟩)))):=jn.upd
  have bb:=(cK.but s1 b1).kW sp
  have hc1:(L2.upd H cc (.lst [])) cc=some (.lst []):=cA
  refine k _ p _ (.lot (l2:={ l with controls:=[] }) T hD g hl hr0 bb ⟨⟨dl,sp _ _ cA⟩,?_,⟨[],sp _ _ (b1 _ _ hc1 (e9 hc1 Q8 (by intro z;cases z))),fq.nil⟩⟩ (.inr rfl) (.inl hcc) (dj oj hcc) es cA)
  exact⟨as,bb _ _ oj (e9 oj hlt (by intro z;cases z)),pN.imp fun _ _ ⟨dx,e⟩=>⟨dx,bb _ _ e (t9 e hlt T.Xr)⟩⟩
theorem vn.upd{H:Hp}{q c:Addr}{xs ys:List V}{f:Point}(h:vn A H c f)(hq:H q=some (.lst xs)):vn A (L2.upd H q (.lst ys)) c f:=by
 obtain⟨dx,e⟩:=h
 exact⟨dx,by rw[cV (e9 e hq (by intro z;cases z))];exact e⟩
theorem Ce.upd{H:Hp}{q c:Addr}{xs ys:List V}{f:Vblaaf.Control}(h:Ce A H c f)(hq:H q=some (.lst xs)):Ce A (L2.upd H q (.lst ys)) c f:=by
 obtain⟨dx,e⟩:=h
 exact⟨dx,by rw[cV (e9 e hq (by intro z;cases z))];exact e⟩
theorem fV.WZ{H:Hp}{q c:Addr}{as:List Addr}{xs:List Point}{x:Point}(h:H q=some (.lst (as.map V.ref)))(hs:fq (vn A H) as xs)(hc:vn A H c x):fV (vn A) (L2.upd H q (.lst (as.map V.ref++[V.ref c]))) q (xs++[x]):=
 ⟨as++[c],by rw[cA,ay];rfl,fq.snoc (hs.imp fun _ _ hx=>hx.upd h) (hc.upd h)⟩
theorem fV.W0{H:Hp}{q c:Addr}{as:List Addr}{xs:List Vblaaf.Control}{x:Vblaaf.Control}(h:H q=some (.lst (as.map V.ref)))(hs:fq (Ce A H) as xs)(hc:Ce A H c x):fV (Ce A) (L2.upd H q (.lst (as.map V.ref++[V.ref c]))) q (xs++[x]):=
 ⟨as++[c],by rw[cA,ay];rfl,fq.snoc (hs.imp fun _ _ hx=>hx.upd h) (hc.upd h)⟩
abbrev rE:Stmt:=top 110
theorem xo:cT ["desk","numbers","lot","factor","added","readings","controls","reading","control"] ["desk","numbers"] (cJ rE):=gJ
theorem FP(T:Txt K mg A)(D:Def K mg "answer_turn" rE ["desk","numbers"])(mH:Good P w K mg base 5 "turned_reading" ["reading","factor","added"] (NH A))(mJ:Good P w K mg base 5 "turned_control" ["control","factor","added"] (NI A))(jU:Good P w K mg base 5 "is_reading" ["reading"] (wM A))(gR:Good P w K mg base 4 "is_control" ["control"] (qB A)):Good P w K mg base 6 "answer_turn" ["desk","numbers"] (fk A 23):=by
 refine D.good xo (fun _ _ _ _ h=>?_) (fun _ _ _ _ _ H _ Q _ hr h=>?_)
 ·exact h.len
 ·obtain⟨dk,nl,d,st,ns,c,rfl,hD,g,hnl,lF,hc,ht,k⟩:=h
  cases hc
  rename_i n a b
  obtain⟨l,hl⟩:=ht
  have gl:=Rc.eX g hl
  obtain⟨r,jm,dl,hr0,jV,hget,hlt,hR,hO⟩:=hD.open_ hl
  obtain⟨as,oj,pN⟩:=id hR
  obtain⟨cs,XF,XG⟩:=id hO
  have es:Vblaaf.step st (.turn n a b)=if (inside a 1 1000&&dZ b)=false then (st,[-3]) else if ((l.points.map (Vblaaf.turnPoint a b)).all Vblaaf.okPoint&&(l.controls.map (Vblaaf.turnControl a b)).all Vblaaf.okControl)=false then (st,[-4])
   else (Vblaaf.putLot st n { l with points:=l.points.map (Vblaaf.turnPoint a b),controls:=l.controls.map (Vblaaf.turnControl a b) },[0]):=d8 hl
  have p40:=gl.ps.len
  have c20:=gl.cl
  have out:(inside a 1 1000&&dZ b)=false->Vblaaf.step st (.turn n a b)=(st,[-3]):=fun h=>by rw[es,bA h]
  have nd:=xo.nd
  have hu:=iX hr
  refine⟨_,(cg (gi 2 nd (fE hu (cH (pv 0) rfl) (dN cW (pv 1) cN (fun _ _=>rfl)) (fun _ _=>rfl)))
    (cg (tN (i:=3) nd rfl (Or.inr rfl) (dN cW (pv 1) cN (fun _ _=>rfl)))
    (cg (tN (i:=4) nd rfl (Or.inr rfl) (dN cW (pv 1) cN (fun _ _=>rfl)))
    (cg (dU (PW.pt (GK (gQ (oU gU gU cN (pv 3) (dB rfl T.C7))) (BX (gQ (oU gU gU (CP vz (dB rfl T.z9)) (pv 4) (dB rfl T.z9)))))) (cE (cM (dc (b9 (dB rfl T.fH) cz)))) cY)
    (cg (JL (i:=5) rfl nd rfl rfl rfl (fL (cH (pv 2) rfl)) (own:=[("reading",7)]) (gK (by kernel_rfl)) (fun _ _ _ _ _=>qu 7 nd) (fun _ _ _ _ _=>lG) (fun _ _ _ _ _=>(dF mH hr (b9 (pv 7) (b9 (pv 3) (b9 (pv 4) cz))))))
    (cg (JL (i:=6) rfl nd rfl rfl rfl (fL (cH (pv 2) rfl)) (own:=[("control",8)]) (gK (by kernel_rfl)) (fun _ _ _ _ _=>qu 8 nd) (fun _ _ _ _ _=>lG) (fun _ _ _ _ _=>(dF mJ hr (b9 (pv 8) (b9 (pv 3) (b9 (pv 4) cz))))))
    (cg (dU (gQ (gP (dD (Ig rfl) (by rfl) T.all boot_all (b9 (qm rfl nd (fL (pv 5)) (own:=[("reading",7)]) (gK (by kernel_rfl)) (fun _ _ _ _ _=>qu 7 nd) (fun _ _ _ _ _=>lG) (fun _ _ _ _ _=>(dF jU hr (b9 (pv 7) cz)))) cz)))) (cE (cM (dc (b9 (dB rfl T.jZ) cz)))) cY)
    (cg (dU (gQ (gP (dD (Ig rfl) (by rfl) T.all boot_all (b9 (qm rfl nd (fL (pv 6)) (own:=[("control",8)]) (gK (by kernel_rfl)) (fun _ _ _ _ _=>qu 8 nd) (fun _ _ _ _ _=>lG) (fun _ _ _ _ _=>(dF gR hr (b9 (pv 8) cz)))) cz)))) (cE (cM (dc (b9 (dB rfl T.jZ) cz)))) cY)
    (cg (e8 (pv 2) (pv 5) rfl)
    (cg (e8 (pv 2) (pv 6) rfl)
    (cE (cM (dc (b9 cN cz)))))))))))))),?_⟩
  refine⟨_,rfl,dk,A.CD,jm,_,_,rfl,jV,T.cD,T.fu,fc _,_,rfl,nl,_,0,V.int n,rfl,rfl,dG.of hnl,at_of (j:=0) rfl rfl,d.eV,V.ref r.lot,rfl,hget,?_⟩
  refine⟨_,rfl,nl,_,1,V.int a,rfl,rfl,dG.of hnl,at_of (j:=1) rfl rfl,?_⟩
  refine⟨_,rfl,nl,_,2,V.int b,rfl,rfl,dG.of hnl,at_of (j:=2) rfl rfl,?_⟩
  refine⟨_,rfl,_,_,rfl,rfl,_,rfl,?_⟩
  by_cases h1:1≤a
  rotate_left
  ·have hb:(inside a 1 1000&&dZ b)=false:=by unfold inside;rw[aW h1];rfl
   rw[aW h1]
   exact dR ⟨_,rfl,dI (dI (dH fun p hp s=>k _ p d (.same hD s hp (out hb))))⟩
  rw[aX h1]
  refine dI ⟨_,_,rfl,rfl,_,rfl,?_⟩
  by_cases h2:a≤1000
  rotate_left
  ·have hb:(inside a 1 1000&&dZ b)=false:=by unfold inside;rw[aW h2,Bool.and_false];rfl
   rw[aW h2]
   exact dI (dI (dH fun p hp s=>k _ p d (.same hD s hp (out hb))))
  rw[aX h2]
  refine dR ⟨_,rfl,_,rfl,_,_,rfl,rfl,_,rfl,?_⟩
  by_cases h3: -1000000≤b
  rotate_left
  ·have hb:(inside a 1 1000&&dZ b)=false:=by unfold dZ inside;rw[aW h3,Bool.false_and,Bool.and_false]
   rw[aW h3]
   exact dR ⟨_,rfl,dI (dH fun p hp s=>k _ p d (.same hD s hp (out hb)))⟩
  rw[aX h3]
  refine dI ⟨_,_,rfl,rfl,_,rfl,?_⟩
  by_cases h4:b≤1000000
  rotate_left
  ·have hb:(inside a 1 1000&&dZ b)=false:=by unfold dZ inside;rw[aW h4,Bool.and_false,Bool.and_false]
   rw[aW h4]
   exact dI (dH fun p hp s=>k _ p d (.same hD s hp (out hb)))
  rw[aX h4]
  have hb:(inside a 1 1000&&dZ b)=true:=by
   have e1:inside a 1 1000=true:=(Rc.d9 _ _ _).mpr ⟨h1,h2⟩
   have e2:dZ b=true:=(Rc.d9 _ _ _).mpr ⟨h3,h4⟩
   rw[e1,e2];rfl
  rw[hb,bz (by decide)]at es
  refine dR ?_
  refine⟨_,rfl,r.lot,A.CL,dl,_,_,rfl,hlt,T.cL,T.dY,d7 _,r.cP,rfl,⟨_,dG.of oj⟩,fun D wR=>iM (K:=K) (a:=r.cP) (xs:=as.map V.ref) (fun i H'=>cK H H'/\fV (vn A) H' D ((l.points.take i).map (Vblaaf.turnPoint a b)))
   ⟨cK.upd wR,[],cA,fq.nil⟩ (fun i H' _ ⟨s,_⟩=>dG.of (s _ _ oj)) ?_ ?_⟩
  ·rintro i y H' hy ⟨s,da,ZA,hda⟩
   obtain⟨x,ix,rfl⟩:=f7 hy
   obtain⟨p,ip,hp⟩:=pN.get' ix
   refine⟨rfl,o8 ?_⟩
   refine⟨_,rfl,_,rfl,_,rfl,x,p,a,b,rfl,hp.same s,gl.ps.all p (ak ip),h1,h2,fun H2 q hq s2=>?_⟩
   have yY:=s2 _ _ ZA
   refine⟨_,yY,dO (by rw[aa,hda.len,aa,aJ];omega),cK.fU (s.trans s2) wR,?_⟩
   obtain⟨SM,e1,e2⟩:=fV.WZ yY (hda.imp fun _ _ h=>h.same s2) hq
   refine⟨SM,e1,?_⟩
   rw[Rc.di ip,ay]
   exact e2
  rintro H1 ⟨s1,O4⟩
  rw[aa,pN.len,aK]at O4
  refine⟨_,rfl,r.lot,A.CL,dl,_,_,rfl,s1 _ _ hlt,T.cL,T.fY,iE _,r.controls,rfl,⟨_,dG.of (s1 _ _ XF)⟩,fun E XH=>iM (K:=K) (a:=r.controls) (xs:=cs.map V.ref) (fun i H'=>cK H1 H'/\fV (Ce A) H' E ((l.controls.take i).map (Vblaaf.turnControl a b)))
   ⟨cK.upd XH,[],cA,fq.nil⟩ (fun i H' _ ⟨s,_⟩=>dG.of (s _ _ (s1 _ _ XF))) ?_ ?_⟩
  ·rintro i y H' hy ⟨s,da,ZA,hda⟩
   obtain⟨x,ix,rfl⟩:=f7 hy
   obtain⟨p,ip,hp⟩:=XG.get' ix
   refine⟨rfl,o8 ?_⟩
   refine⟨_,rfl,_,rfl,_,rfl,x,p,a,b,rfl,(hp.same s1).same s,gl.cs p (ak ip),h1,h2,fun H2 q hq s2=>?_⟩
   have yY:=s2 _ _ ZA
   refine⟨_,yY,dO (by rw[aa,hda.len,aa,aJ];omega),cK.fU (s.trans s2) XH,?_⟩
   obtain⟨SM,e1,e2⟩:=fV.W0 yY (hda.imp fun _ _ h=>h.same s2) hq
   refine⟨SM,e1,?_⟩
   rw[Rc.di ip,ay]
   exact e2
  rintro H2 ⟨s2,ZC⟩
  rw[aa,XG.len,aK]at ZC
  have wF:=s1.trans s2
  have hE0:H E=none:=s1.free XH
  have yY:=O4.same s2 fun _ _ h=>h.same s2
  obtain⟨das,SO,hDs⟩:=id yY
  obtain⟨eas,hEl,hEs⟩:=id ZC
  have ZD:D≠E:=by
   obtain⟨q,e,_⟩:=O4
   exact dj e XH
  refine⟨_,rfl,D,rfl,⟨_,dG.of SO⟩,fun F hF=>iM (K:=K) (a:=D) (xs:=das.map V.ref) (fun i H'=>cK H2 H'/\H' F=some (.lst ((((l.points.map (Vblaaf.turnPoint a b)).take i).map Vblaaf.okPoint).map V.bl)))
   ⟨cK.upd hF,cA⟩ (fun i H' _ ⟨s,_⟩=>dG.of (s _ _ SO)) ?_ ?_⟩
  ·rintro i y H' hy ⟨s,WS⟩
   obtain⟨x,ix,rfl⟩:=f7 hy
   obtain⟨p,ip,hp⟩:=hDs.get' ix
   refine⟨rfl,o8 ?_⟩
   refine⟨_,rfl,x,p,rfl,hp.same s,_,WS,dO (by rw[aa,aa,aJ,aa];omega),cK.fU s hF,?_⟩
   rw[cA,Rc.di ip,ay,ay];rfl
  rintro H3 ⟨s3,WU⟩
  rw[aa,hDs.len,aK]at WU
  have yl:=wF.trans s3
  refine⟨F,_,rfl,dG.of WU,_,rfl,?_⟩
  have ea:((l.points.map (Vblaaf.turnPoint a b)).map Vblaaf.okPoint).all id=(l.points.map (Vblaaf.turnPoint a b)).all Vblaaf.okPoint:=by rw[List.all_map];rfl
  rw[ea]
  cases hall:(l.points.map (Vblaaf.turnPoint a b)).all Vblaaf.okPoint with
  |false=>
   rw[hall,Bool.false_and,bA rfl]at es
   exact dI (dH fun p hp s=>k _ p d (.same hD (yl.trans s) hp es))
  |true=>
  rw[hall,Bool.true_and]at es
  have W2:=s3 _ _ hEl
  refine dR ⟨_,rfl,E,rfl,⟨_,dG.of W2⟩,fun F2 hF2=>iM (K:=K) (a:=E) (xs:=eas.map V.ref) (fun i H'=>cK H3 H'/\H' F2=some (.lst ((((l.controls.map (Vblaaf.turnControl a b)).take i).map Vblaaf.okControl).map V.bl)))
   ⟨cK.upd hF2,cA⟩ (fun i H' _ ⟨s,_⟩=>dG.of (s _ _ W2)) ?_ ?_⟩
  ·rintro i y H' hy ⟨s,WS⟩
   obtain⟨x,ix,rfl⟩:=f7 hy
   obtain⟨p,ip,hp⟩:=hEs.get' ix
   refine⟨rfl,o8 ?_⟩
   refine⟨_,rfl,x,p,rfl,.inl ((hp.same s3).same s),_,WS,dO (by rw[aa,aa,aJ,aa];omega),cK.fU s hF2,?_⟩
   rw[cA,Rc.di ip,ay,ay];rfl
  rintro H4 ⟨s4,WT⟩
  rw[aa,hEs.len,aK]at WT
  have RE:=yl.trans s4
  refine⟨F2,_,rfl,dG.of WT,_,rfl,?_⟩
  have eb:((l.controls.map (Vblaaf.turnControl a b)).map Vblaaf.okControl).all id=(l.controls.map (Vblaaf.turnControl a b)).all Vblaaf.okControl:=by rw[List.all_map];rfl
  rw[eb]
  cases TX:(l.controls.map (Vblaaf.turnControl a b)).all Vblaaf.okControl with
  |false=>
   rw[TX,bA rfl]at es
   exact dI (dH fun p hp s=>k _ p d (.same hD (RE.trans s) hp es))
  |true=>
  rw[TX,bz (by decide)]at es
  have RG:=s3.trans s4
  have Rb:=RE _ _ hlt
  refine dR ⟨_,rfl,_,rfl,r.lot,A.CL,dl,_,rfl,Rb,T.cL,T.dY,(by show 3<1000;decide),?_⟩
  refine⟨_,rfl,_,rfl,r.lot,A.CL,dl,_,rfl,cA,T.cL,T.fY,(by show 3<1000;decide),?_⟩
  refine⟨eL (by show 1≤100000;decide),fun p hp=>?_⟩
  have sp:=cK.upd (o:=.lst [V.int 0]) hp
  have b5:jn r.lot H4 (L2.upd (L2.upd H4 r.lot (.ins A.CL dl (dX "readings" (.ref D) (QD ⟨l.expires,r.cP,r.controls⟩)))) r.lot (.ins A.CL dl (dX "controls" (.ref E) (dX "readings" (.ref D) (QD ⟨l.expires,r.cP,r.controls⟩))))):=fun x o e hx=>by rw[cV hx,cV hx];exact e
  have b6:=b5.kW sp
  refine k _ p _ (.lot (l2:={ l with points:=l.points.map (Vblaaf.turnPoint a b),controls:=l.controls.map (Vblaaf.turnControl a b) }) T hD g hl hr0 (cK.but RE b6) ⟨⟨dl,sp _ _ cA⟩,?_,?_⟩ (.inl wR) (.inl hE0) ZD es cA)
  ·exact(yY.same RG fun _ _ h=>h.same RG).but Rb b6 fun _ _ h=>h.but Rb T.Xr b6
  ·exact(ZC.same RG fun _ _ h=>h.same RG).but Rb b6 fun _ _ h=>h.but Rb T.YS b6
def CJ:Option Vblaaf.Lot->List Int
 |none=>[0,0,0,0]
 |some l=>[1,l.expires,(l.points.length:Int),(l.controls.length:Int)]
theorem FQ(x:Option Vblaaf.Lot):(CJ x).length≤4:=by cases x <;> exact aA _
theorem Lf(st:Vblaaf.State):Vblaaf.step st .lots=(st,[0,st.now]++st.lots.flatMap CJ):=by
 show (st,0::st.now::st.lots.flatMap _)=_
 congr 3
theorem Vd{st:Vblaaf.State}(g:Rc.je st){i:Nat}(hi:i<4):st.lots[i]?=some (Vblaaf.lotAt st (i:Int)):=by
 unfold Vblaaf.lotAt Vblaaf.isLot
 rw[bA ((Rc.d9 _ _ _).mpr (by omega)),bw,List.getD_eq_getElem?_getD]
 have hl:i<st.lots.length:=by rw[g.len];exact hi
 rw[ah hl];rfl
abbrev rF:Stmt:=top 111
theorem xq:cT ["desk","numbers","answer","number","lot"] ["desk","numbers"] (cJ rF):=gJ
theorem FT(T:Txt K mg A)(D:Def K mg "answer_lots" rF ["desk","numbers"]):Good P w K mg base 3 "answer_lots" ["desk","numbers"] (fk A 24):=by
 refine D.good xq (fun _ _ _ _ h=>?_) (fun _ _ _ _ _ H _ Q _ hr h=>?_)
 ·exact h.len
 ·obtain⟨dk,nl,d,st,ns,c,rfl,hD,g,hnl,lF,hc,ht,k⟩:=h
  cases hc
  obtain⟨jm,jV⟩:=hD.yw
  have es:=Lf st
  have nd:=xq.nd
  have hu:=iX hr
  refine⟨_,(cg (gi 2 nd (dc (b9 cN (b9 (cH (pv 0) rfl) cz))))
    (cg (iJ PassesOwn.never rfl (GN rfl T.range (b9 (dB rfl T.Cj) cz)) (qu 3 nd) (cE (dU (O8 (Uw hu (pv 3) (cH (pv 0) rfl))) (cg (gi 4 nd (fE hu (cH (pv 0) rfl) (pv 3) (fun _ _=>rfl)))
     (cE (iL (nV aP PySem.F.slot_list_extend PySem.F.type_list_extend lW (pv 2) (b9 (dc (b9 cN (b9 (cH (pv 4) rfl) (b9 (dD cX (by rfl) T.len aG (b9 (cH (pv 4) rfl) cz)) (b9 (dD cX (by rfl) T.len aG (b9 (cH (pv 4) rfl) cz)) cz))))) cz))))) (cE (iL (nV aP PySem.F.slot_list_extend PySem.F.type_list_extend lW (pv 2) (b9 (dc (b9 cN (b9 cN (b9 cN (b9 cN cz))))) cz)))))))
    (cE (cM (pv 2))))),?_⟩
  refine⟨_,rfl,dk,A.CD,jm,_,_,rfl,jV,T.cD,T.t6,yf _,eL (by show 2≤100000;decide),fun p hp=>?_⟩
  have sp:=cK.upd (o:=.lst [V.int 0,V.int st.now]) hp
  refine⟨4,rfl,by decide,by decide,BY (n:=4) (fun i σ H'=>∃v3 v4:Option V,σ=[some (.ref dk),some (.ref nl),some (.ref p),v3,v4]/\cK H H'/\iw H' p ([0,st.now]++(st.lots.take i).flatMap CJ)) ⟨none,none,rfl,sp,?_⟩ ?_ ?_⟩
  ·show (L2.upd H p _) p=_
   rw[cA];simp
  ·rintro i σ H' hi ⟨v3,v4,rfl,s,qP⟩
   have hi4:i<4:=hi
   have hat:=Vd g hi4
   have O4:=hD.same s
   have SY:=s _ _ jV
   obtain⟨kvs,ns,ed,_,_,_,ev⟩:=O4.dict.ex
   have e0:(0:Int)+(i:Int)=(i:Int):=by omega
   rw[e0]
   have size:∀m:Nat,m≤4->([0,st.now]++(st.lots.take i).flatMap CJ).length+m≤100000:=by
    intro m hm
    rw[ao]
    have:=jM (f:=CJ) (m:=4) FQ (st.lots.take i)
    have:=w6 (m:=4) (by rw[g.len];exact aA _:st.lots.length≤4) i
    show 2+_+m≤100000
    omega
   refine⟨_,rfl,_,rfl,dk,A.CD,jm,_,_,rfl,SY,T.cD,T.fu,fc _,d.eV,_,rfl,nE.k (k:=Sum.inl (i:Int)) ed,_,rfl,?_⟩
   rw[ev]
   rcases O4.lots (i:Int)with ⟨e1,e2⟩ | ⟨r,l,e1,e2,hL⟩
   ·rw[e1]
    rw[e2]at hat
    refine dR ⟨_,rfl,.inl ⟨rfl,_,dG.of qP⟩,eL (by show 4≤100000;decide),fun q hq=>?_⟩
    have sq:=cK.upd (o:=.lst [V.int 0,V.int 0,V.int 0,V.int 0]) hq
    refine⟨p,q,_,_,rfl,rfl,qP.same sq,cA,eL (by rw[aa];exact size 4 (aA _)),?_⟩
    refine⟨_,_,rfl,cK.fU (s.trans sq) hp,?_⟩
    rw[oO hat,<-bT]
    exact iw.upd (ms:=[0,0,0,0])
   ·rw[e1]
    rw[e2]at hat
    obtain⟨⟨dl,hlt⟩,⟨as,oj,pN⟩,⟨cs,XF,XG⟩⟩:=hL
    have hv:iY kvs (Sum.inl (i:Int))=some (V.ref r.lot):=by rw[ev,e1];rfl
    have al:(as.map V.ref).length=l.points.length:=by rw[aa,pN.len]
    have cl:(cs.map V.ref).length=l.controls.length:=by rw[aa,XG.len]
    refine dI ⟨_,rfl,dk,A.CD,jm,_,_,rfl,SY,T.cD,T.fu,fc _,_,rfl,d.eV,V.ref r.lot,rfl,(by rw[<-hv];exact nE.k (k:=Sum.inl (i:Int)) ed),?_⟩
    refine⟨_,rfl,.inl ⟨rfl,_,dG.of qP⟩,_,rfl,r.lot,A.CL,dl,_,_,rfl,hlt,T.cL,T.kF,pA _,_,rfl,r.lot,A.CL,dl,_,_,rfl,hlt,T.cL,T.dY,d7 _,r.cP,_,rfl,.inl (dG.of oj),_,rfl,r.lot,A.CL,dl,_,_,rfl,hlt,T.cL,T.fY,iE _,r.controls,_,rfl,.inl (dG.of XF),eL (by show 4≤100000;decide),fun q hq=>?_⟩
    rw[al,cl]
    have sq:=cK.upd (o:=.lst [V.int 1,V.int l.expires,V.int (l.points.length:Int),V.int (l.controls.length:Int)]) hq
    refine⟨p,q,_,_,rfl,rfl,qP.same sq,cA,eL (by rw[aa];exact size 4 (aA _)),?_⟩
    refine⟨_,_,rfl,cK.fU (s.trans sq) hp,?_⟩
    rw[oO hat,<-bT]
    exact iw.upd (ms:=[1,l.expires,(l.points.length:Int),(l.controls.length:Int)])
  ·rintro σ H' ⟨v3,v4,rfl,s,qP⟩
   have e4:st.lots.take 4=st.lots:=List.take_of_length_le (by rw[g.len];exact aA _)
   rw[e4]at qP
   exact⟨_,rfl,k H' p d (.same hD s qP es)⟩
theorem qG.but{S:Addr->Prop}{H H':Hp}{a p C d:Addr}{fs:List (Str×V)}{r:Vblaaf.Result}(h:qG A S H a r)(hp:H p=some (.ins C d fs))(ne:A.CU≠C)(s:jn p H H'):qG A S H' a r:=by
 obtain⟨q,h0,⟨dx,e⟩,hq⟩:=h
 exact⟨q,h0,⟨dx,s _ _ e (t9 e hp ne)⟩,s _ _ hq (e9 hq hp (by intro z;cases z))⟩
theorem Left.now(T:Txt K mg A){H H':Hp}{dk p dx:Addr}{d:fT}{st:Vblaaf.State}{now:Int}{o:Vblaaf.State×List Int}{lU:List Int}(h:fJ A H dk d st)(b:jn dk H H')(hd:H' dk=some (.ins A.CD dx (Sy ⟨now,d.eV,d.results⟩)))(e:o=({ st with now:=now },lU))(hp:H' p=some (.lst (lU.map V.int))):Left A H dk d o H' p d:=by
 subst e
 obtain⟨jm,jV⟩:=h.yw
 refine⟨⟨⟨dx,hd⟩,?_,fun n=>?_,?_,h.FH,h.FI,h.Jj⟩,hp,fun x u ex hx=>b x u ex fun z=>hx (.inl z),fun x hx=>.inl hx⟩
 ·obtain⟨kvs,ns,e1,e2⟩:=h.dict.ex
  exact⟨kvs,ns,b _ _ e1 (e9 e1 jV (by intro z;cases z)),e2⟩
 ·rcases h.lots n with q | ⟨r,l,e1,e2,hl⟩
  ·exact .inl q
  ·exact .inr ⟨r,l,e1,e2,hl.but jV T.YU T.Z0 T.Z1 b⟩
 ·exact h.results.but jV b fun _ _ q=>q.but jV (Ne.symm T.Z3) b
def fT.more(d:fT)(q:Addr):fT:={ d with doses:=fun b=>d.doses b∨b=q }
theorem Left.res{H H':Hp}{dk p q:Addr}{d:fT}{st:Vblaaf.State}{rs:List Vblaaf.Result}{o:Vblaaf.State×List Int}{lU:List Int}(h:fJ A H dk d st)(b:jn d.results H H')(nq:H q=none)(hr:fV (qG A (d.more q).doses) H' d.results rs)(e:o=({ st with results:=rs },lU))(hp:H' p=some (.lst (lU.map V.int))):Left A H dk d o H' p (d.more q):=by
 subst e
 obtain⟨as,hrl,hrs⟩:=h.results
 refine⟨⟨?_,?_,fun n=>?_,hr,h.FH,h.FI,h.Jj⟩,hp,fun x u ex hx=>b x u ex fun z=>hx (.inr (.inr (.inl z))),fun x hx=>?_⟩
 rotate_right
 ·rcases hx with e | e | e | e | e | e
  ·exact .inl (.inl e)
  ·exact .inl (.inr (.inl e))
  ·exact .inl (.inr (.inr (.inl e)))
  ·exact .inl (.inr (.inr (.inr (.inl e))))
  ·exact .inl (.inr (.inr (.inr (.inr e))))
  ·subst e;exact .inr nq
 ·obtain⟨dx,e⟩:=h.yw
  exact⟨dx,b _ _ e (e9 e hrl (by intro z;cases z))⟩
 ·obtain⟨kvs,ns,e1,e2⟩:=h.dict.ex
  exact⟨kvs,ns,b _ _ e1 (e9 e1 hrl (by intro z;cases z)),e2⟩
 ·rcases h.lots n with q | ⟨r,l,e1,e2,⟨dx,e3⟩,⟨rs,e4,e5⟩,⟨cs,e6,e7⟩⟩
  ·exact .inl q
  ·have hs:=h.Jj n r e1
   exact .inr ⟨r,l,e1,e2,⟨dx,b _ _ e3 (e9 e3 hrl (by intro z;cases z))⟩,⟨rs,b _ _ e4 hs.1,e5.imp fun _ _ ⟨dx,q⟩=>⟨dx,b _ _ q (e9 q hrl (by intro z;cases z))⟩⟩,⟨cs,b _ _ e6 hs.2,e7.imp fun _ _ ⟨dx,q⟩=>⟨dx,b _ _ q (e9 q hrl (by intro z;cases z))⟩⟩⟩
abbrev rG:Stmt:=top 122
theorem xr:cT ["desk","numbers"] ["desk","numbers"] (cJ rG):=gJ
theorem FU(T:Txt K mg A)(D:Def K mg "answer_tick" rG ["desk","numbers"])(oQ:Good P w K mg base 3 "is_time" ["number"] (pH Di)):Good P w K mg base 4 "answer_tick" ["desk","numbers"] (fk A 19):=by
 refine D.good xr (fun _ _ _ _ h=>?_) (fun _ _ _ _ _ H _ Q _ hr h=>?_)
 ·exact h.len
 ·obtain⟨dk,nl,d,st,ns,c,rfl,hD,g,hnl,lF,hc,ht,k⟩:=h
  cases hc
  rename_i n
  obtain⟨jm,jV⟩:=hD.yw
  have es:Vblaaf.step st (.tick n)=if inside n 1 1000000000=false then (st,[-1]) else if Vblaaf.END<st.now+n then (st,[-4]) else ({ st with now:=st.now+n },[0]):=rfl
  have hE:Vblaaf.END=4611686018427387904:=rfl
  have nd:=xr.nd
  refine⟨_,(cg (dU (gQ (oU gU gU cN (dN cW (pv 1) cN (fun _ _=>rfl)) (dB rfl T.HB))) (cE (cM (dc (b9 (dB rfl T.Bb) cz)))) cY)
    (cg (dU (gQ (gP (dF oQ hr (b9 (dJ iN (cH (pv 0) rfl) (dN cW (pv 1) cN (fun _ _=>rfl))) cz)))) (cE (cM (dc (b9 (dB rfl T.Kz) cz)))) cY)
    (cg (e8 (pv 0) (dJ iN (cH (pv 0) rfl) (dN cW (pv 1) cN (fun _ _=>rfl))) rfl)
    (cE (cM (dc (b9 cN cz))))))),?_⟩
  refine⟨_,rfl,nl,_,0,V.int n,rfl,rfl,dG.of hnl,at_of (j:=0) rfl rfl,_,_,rfl,rfl,_,rfl,?_⟩
  by_cases h1:1≤n
  rotate_left
  ·have hb:inside n 1 1000000000=false:=by unfold inside;rw[aW h1];rfl
   rw[hb,bA rfl]at es
   rw[aW h1]
   exact dR ⟨_,rfl,dI (dH fun p hp s=>k _ p d (.same hD s hp es))⟩
  rw[aX h1]
  refine dI ⟨_,_,rfl,rfl,_,rfl,?_⟩
  by_cases h2:n≤1000000000
  rotate_left
  ·have hb:inside n 1 1000000000=false:=by unfold inside;rw[aW h2,Bool.and_false]
   rw[hb,bA rfl]at es
   rw[aW h2]
   exact dI (dH fun p hp s=>k _ p d (.same hD s hp es))
  rw[aX h2]
  have hb:inside n 1 1000000000=true:=(Rc.d9 _ _ _).mpr ⟨h1,h2⟩
  rw[hb,bz (by decide)]at es
  refine dR ⟨_,rfl,dk,A.CD,jm,_,_,rfl,jV,T.cD,T.t6,yf _,_,rfl,nl,_,0,V.int n,rfl,rfl,dG.of hnl,at_of (j:=0) rfl rfl,_,_,rfl,rfl,st.now+n,rfl,_,rfl,?_⟩
  have n0:=g.n0
  by_cases h3:Vblaaf.END<st.now+n
  ·rw[bA h3]at es
   have hb:Di (st.now+n)=false:=by unfold Di inside;rw[aW (show ¬st.now+n≤4611686018427387904 by omega),Bool.and_false]
   rw[hb]
   exact dI (dH fun p hp s=>k _ p d (.same hD s hp es))
  ·rw[bz h3]at es
   have hb:Di (st.now+n)=true:=(Rc.d9 _ _ _).mpr ⟨by omega,by omega⟩
   rw[hb]
   refine dR ⟨_,rfl,dk,A.CD,jm,_,_,rfl,jV,T.cD,T.t6,yf _,_,rfl,nl,_,0,V.int n,rfl,rfl,dG.of hnl,at_of (j:=0) rfl rfl,_,_,rfl,rfl,_,rfl,dk,A.CD,jm,_,rfl,jV,T.cD,T.t6,(by show 3<1000;decide),?_⟩
   refine⟨eL (by show 1≤100000;decide),fun p hp=>?_⟩
   have sp:=cK.upd (o:=.lst [V.int 0]) hp
   exact k _ p d (.now T (now:=st.now+n) (dx:=jm) hD (jn.upd.kW sp) (sp _ _ cA) es cA)
def yr(st:Vblaaf.State)(l:Vblaaf.Lot)(off:Int):Option Int:=if l.points.isEmpty=true then some (-5) else match (if off=1 then Rc.refusal l.points l.controls else none)with
 |some e=>some e
 |none=>if l.expires<st.now then some (-9) else if 100≤st.results.length then some (-4) else none
def HN(A:gY):Sp:=fun vs H Q _=>∃(dk s:Addr)(d:fT)(st:Vblaaf.State)(r:jl)(l:Vblaaf.Lot)(off:Int),vs=[.ref dk,.ref r.lot,.ref s,.int off]/\fJ A H dk d st/\kH A H r l/\lP A H s l/\Rc.EO l/\ ∀H':Hp,cK H H'->Q (oV (yr st l off)) H'
abbrev pZ:Stmt:=top 123
theorem u7:cT ["desk","lot","standing","off","refusal"] ["desk","lot","standing","off"] (cJ pZ):=gJ
theorem DT(T:Txt K mg A)(D:Def K mg "read_refusal" pZ ["desk","lot","standing","off"])(fR:Good P w K mg base 4 "shift_refusal" ["curve","controls"] (yq A)):Good P w K mg base 5 "read_refusal" ["desk","lot","standing","off"] (HN A):=by
 refine D.good u7 (fun _ _ _ _ h=>?_) (fun _ _ _ _ _ H _ Q _ hr h=>?_)
 ·obtain⟨dk,s,d,st,r,l,off,rfl,_⟩:=h;rfl
 ·obtain⟨dk,a,d,st,r,l,off,rfl,hD,hL,hS,gl,k⟩:=h
  obtain⟨jm,jV⟩:=hD.yw
  obtain⟨rs,hrl,hrs⟩:=hD.results
  obtain⟨⟨dl,hlt⟩,hR,hO⟩:=hL
  obtain⟨f,⟨da,ha⟩,h1,h2⟩:=hS.ex
  unfold yr at k
  have nd:=u7.nd
  refine⟨_,(cg (dU (dw nD (cH (pv 2) rfl) fK (dQ _)) (cE (cM (dB rfl T.fD))) cY)
    (cg (dU (dw kZ (pv 3) cN (dQ _)) (cg (gi 4 nd (dF fR hr (b9 (cH (pv 2) rfl) (b9 (cH (pv 1) rfl) cz))))
     (cE (dU (dw xV (pv 4) fK (dQ _)) (cE (cM (pv 4))) cY))) cY)
    (cg (dU (dw MU (cH (pv 0) rfl) (cH (pv 1) rfl) (dQ _)) (cE (cM (dB rfl T.Bd))) cY)
    (cg (dU (dw MV (dD cX (by rfl) T.len aG (b9 (cH (pv 0) rfl) cz)) (dB rfl T.Be) (dQ _)) (cE (cM (dB rfl T.SA))) cY)
    (cE (cM fK)))))),?_⟩
  refine⟨_,rfl,a,A.CS,da,_,_,rfl,ha,T.cS,T.kG,lZ f,rfl,_,rfl,?_⟩
  by_cases hne:l.points=[]
  ·rw[h1 hne]
   rw[bA (by rw[hne];rfl)]at k
   exact dI (k H (cK.refl _))
  ·obtain⟨cu,ec,hcu,_⟩:=h2 hne
   rw[bz (by intro q;exact hne (List.isEmpty_iff.mp q))]at k
   rw[ec]
   have fin:∀H':Hp,cK H H'->(if off=1 then Rc.refusal l.points l.controls else none)=none->(∃i j,V.int st.now=V.int i/\V.int l.expires=V.int j/\ ∃k',V.bl (decide (j<i))=V.bl k'/\(if k'=true then Q (.int (-9)) H' else ∃i j,V.int (((rs.map V.ref).length:Nat):Int)=V.int i/\V.int 100=V.int j/\ ∃k',V.bl (decide (j≤i))=V.bl k'/\(if k'=true then Q (.int (-4)) H' else Q .f6 H'))):=by
    intro H' s' hn
    rw[hn]at k
    refine⟨_,_,rfl,rfl,_,rfl,?_⟩
    by_cases h3:l.expires<st.now
    ·rw[aX h3,bA rfl]
     dsimp only at k
     rw[bA h3]at k
     exact k H' s'
    ·rw[aW h3,bz (by decide)]
     dsimp only at k
     rw[bz h3]at k
     refine⟨_,_,rfl,rfl,_,rfl,?_⟩
     rw[aa,hrs.len]
     by_cases h4:100≤st.results.length
     ·rw[aX (by omega),bA rfl]
      rw[bA h4]at k
      exact k H' s'
     ·rw[aW (by omega),bz (by decide)]
      rw[bz h4]at k
      exact k H' s'
   refine dR ⟨_,rfl,rfl,_,rfl,?_⟩
   by_cases ho:off=1
   ·subst ho
    refine dI ⟨_,rfl,a,A.CS,da,_,_,rfl,ha,T.cS,T.kG,lZ f,?_⟩
    rw[ec]
    refine⟨_,rfl,r.lot,A.CL,dl,_,_,rfl,hlt,T.cL,T.fY,iE _,cu,r.controls,l.points,l.controls,rfl,hcu,gl.ps,hne,hO,gl.cl,fun H1 s1=>?_⟩
    cases href:Rc.refusal l.points l.controls with
    |some e=>
     rw[bA rfl,href]at k
     exact⟨_,rfl,rfl,_,rfl,dI ⟨_,rfl,k H1 s1⟩⟩
    |none=>
     refine⟨_,rfl,rfl,_,rfl,dR ?_⟩
     obtain⟨i,j,e1,e2,k1,e3,q1⟩:=fin H1 s1 (by rw[bA rfl];exact href)
     refine⟨_,rfl,dk,A.CD,jm,_,_,rfl,s1 _ _ jV,T.cD,T.t6,yf _,_,rfl,r.lot,A.CL,dl,_,_,rfl,s1 _ _ hlt,T.cL,T.kF,pA _,i,j,e1,e2,k1,e3,?_⟩
     cases k1 with
     |true=>(have q:Q (.int (-9)) _:=(by simpa using q1);exact dI q)
     |false=>
      obtain⟨i',j',e4,e5,k2,e6,q2⟩:=(by simpa only[bq,if_false] using q1:∃i j,_)
      refine dR ⟨_,rfl,dk,A.CD,jm,_,_,rfl,s1 _ _ jV,T.cD,T.i8,jK _,d.results,_,rfl,.inl (dG.of (s1 _ _ hrl)),i',j',e4,e5,k2,e6,?_⟩
      cases k2 with
      |true=>(have q:Q (.int (-4)) _:=(by simpa using q2);exact dI q)
      |false=>(have q:Q .f6 _:=(by simpa using q2);exact dR q)
   ·have e1:decide (V.int off=V.int 1)=false:=aW (by intro q;injection q with q;exact ho q)
    rw[e1]
    refine dR ?_
    obtain⟨i,j,e1,e2,k1,e3,q1⟩:=fin H (cK.refl _) (by rw[bz ho])
    refine⟨_,rfl,dk,A.CD,jm,_,_,rfl,jV,T.cD,T.t6,yf _,_,rfl,r.lot,A.CL,dl,_,_,rfl,hlt,T.cL,T.kF,pA _,i,j,e1,e2,k1,e3,?_⟩
    cases k1 with
    |true=>(have q:Q (.int (-9)) _:=(by simpa using q1);exact dI q)
    |false=>
     obtain⟨i',j',e4,e5,k2,e6,q2⟩:=(by simpa only[bq,if_false] using q1:∃i j,_)
     refine dR ⟨_,rfl,dk,A.CD,jm,_,_,rfl,jV,T.cD,T.i8,jK _,d.results,_,rfl,.inl (dG.of hrl),i',j',e4,e5,k2,e6,?_⟩
     cases k2 with
     |true=>(have q:Q (.int (-4)) _:=(by simpa using q2);exact dI q)
     |false=>(have q:Q .f6 _:=(by simpa using q2);exact dR q)
theorem O0{st:Vblaaf.State}{n x c:Int}{l:Vblaaf.Lot}(hl:Vblaaf.lotAt st n=some l)(hok:(dZ x&&inside c 0 1)=true):
  (∀e,yr st l c=some e->Vblaaf.step st (.read n x c)=(st,[e]))/\(yr st l c=none-> ∃f,Vblaaf.tellBy l x (c==1)= .ok f/\Vblaaf.step st (.read n x c)=({ st with results:=st.results++[⟨st.now,n.toNat,x,c==1,f⟩] },(st.results.length:Int)::Vblaaf.foundRow f)):=by
 have es:Vblaaf.step st (.read n x c)=if (dZ x&&inside c 0 1)=false then (st,[-3]) else match Vblaaf.tellBy l x (c==1)with
    |.error e=>(st,[e])
    |.ok f=>
     if l.expires<st.now then (st,[-9])
     else if Vblaaf.RESULTS≤st.results.length then (st,[-4])
     else ({ st with results:=st.results++[⟨st.now,n.toNat,x,c==1,f⟩] },(st.results.length:Int)::Vblaaf.foundRow f):=d8 hl
 rw[hok,bz (by decide)]at es
 have hR:Vblaaf.RESULTS=100:=rfl
 rw[hR]at es
 unfold yr
 unfold Vblaaf.tellBy Vblaaf.noPoints at es ⊢
 cases hne:l.points.isEmpty with
 |true=>
  rw[hne,bA rfl]at es
  refine⟨fun e h=>?_,fun h=>?_⟩
  ·rw[bA rfl]at h
   cases h;exact es
  ·rw[bA rfl]at h;cases h
 |false=>
  rw[hne,bz (by decide)]at es
  simp only[bq,if_false]
  have tail:∀f,(Vblaaf.step st (.read n x c)=if l.expires<st.now then (st,[-9]) else if 100≤st.results.length then (st,[-4]) else ({ st with results:=st.results++[⟨st.now,n.toNat,x,c==1,f⟩] },(st.results.length:Int)::Vblaaf.foundRow f))->
    (∀e,(if l.expires<st.now then some (-9:Int) else if 100≤st.results.length then some (-4) else none)=some e->Vblaaf.step st (.read n x c)=(st,[e]))/\((if l.expires<st.now then some (-9:Int) else if 100≤st.results.length then some (-4) else none)=none->Vblaaf.step st (.read n x c)=({ st with results:=st.results++[⟨st.now,n.toNat,x,c==1,f⟩] },(st.results.length:Int)::Vblaaf.foundRow f)):=by
   intro f es
   by_cases h1:l.expires<st.now
   ·rw[bA h1]at es
    rw[bA h1]
    exact⟨fun e h=>by cases h;exact es,fun h=>by cases h⟩
   ·rw[bz h1]at es
    rw[bz h1]
    by_cases h2:100≤st.results.length
    ·rw[bA h2]at es
     rw[bA h2]
     exact⟨fun e h=>by cases h;exact es,fun h=>by cases h⟩
    ·rw[bz h2]at es
     rw[bz h2]
     exact⟨fun e h=>by(cases h),fun h=>es⟩
  by_cases hc:c=1
  ·subst hc
   rw[bz (show ¬((1:Int)==1)=false by decide)]at es ⊢
   rw[bA rfl]
   cases href:Rc.refusal l.points l.controls with
   |some e=>
    rw[Rc.vQ href]at es
    exact⟨fun e' h=>by cases h;exact es,fun h=>by cases h⟩
   |none=>
    obtain⟨NZ,m,hm⟩:=Rc.n8 href
    have hin:=Rc.z6 NZ (Rc.z5 hm)
    rw[hin]at es ⊢
    obtain⟨t1,t2⟩:=tail _ es
    exact⟨t1,fun h=>⟨_,rfl,t2 h⟩⟩
  ·have hc':(c==1)=false:=by simpa using hc
   rw[bA hc']at es ⊢
   rw[bz hc]
   obtain⟨t1,t2⟩:=tail _ es
   exact⟨t1,fun h=>⟨_,rfl,t2 h⟩⟩
abbrev rH:Stmt:=top 124
theorem xu:cT ["desk","numbers","lot","response","off","standing","refusal","doses"] ["desk","numbers"] (cJ rH):=gJ
theorem FW(T:Txt K mg A)(D:Def K mg "answer_read" rH ["desk","numbers"])(mC:GoodC P w K mg base 10 "Standing" A.CS ["self","lot"] (Aw A))(p7:Good P w K mg base 5 "read_refusal" ["desk","lot","standing","off"] (HN A))(jj:Good P w K mg base 9 "told_result" ["standing","response","off"] (Ji A))(FY:GoodC P w K mg base 3 "Result" A.CU ["self","time","lot_number","response","off","doses"] (La A))(gj:Good P w K mg base 3 "is_response" ["number"] (pH dZ)):Good P w K mg base 12 "answer_read" ["desk","numbers"] (fk A 20):=by
 refine D.good xu (fun _ _ _ _ h=>?_) (fun _ _ _ _ _ H _ Q _ hr h=>?_)
 ·exact h.len
 ·obtain⟨dk,nl,d,st,ns,c,rfl,hD,g,hnl,lF,hc,ht,k⟩:=h
  cases hc
  rename_i n x c
  obtain⟨l,hl⟩:=ht
  have gl:=Rc.eX g hl
  obtain⟨r,jm,dl,hr0,jV,hget,hlt,hR,hO⟩:=hD.open_ hl
  have hn:=Rc.iZ hl
  have out:(dZ x&&inside c 0 1)=false->Vblaaf.step st (.read n x c)=(st,[-3]):=fun h=>(d8 hl).trans (bA h)
  have nd:=xu.nd
  have hu:=iX hr
  refine⟨_,(cg (gi 2 nd (fE hu (cH (pv 0) rfl) (dN cW (pv 1) cN (fun _ _=>rfl)) (fun _ _=>rfl)))
    (cg (gi 3 nd (dN cW (pv 1) cN (fun _ _=>rfl)))
    (cg (gi 4 nd (dN cW (pv 1) cN (fun _ _=>rfl)))
    (cg (dU (PW.pt (GK (gQ (gP (dF gj hr (b9 (pv 3) cz)))) (BX (gQ (oU gU gU cN (pv 4) cN))))) (cE (cM (dc (b9 (dB rfl T.fH) cz)))) cY)
    (cg (gi 5 nd (jY mC hr (b9 (pv 2) cz)))
    (cg (gi 6 nd (dF p7 hr (b9 (pv 0) (b9 (pv 2) (b9 (pv 5) (b9 (pv 4) cz))))))
    (cg (dU (dw xV (pv 6) fK (dQ _)) (cE (cM (dc (b9 (pv 6) cz)))) cY)
    (cg (gi 7 nd (dF jj hr (b9 (pv 5) (b9 (pv 3) (b9 (pv 4) cz)))))
    (cg (iL (nV aP PySem.F.slot_list_append PySem.F.type_list_append k8 (cH (pv 0) rfl) (b9 (jY FY hr (b9 (cH (pv 0) rfl) (b9 (dN cW (pv 1) cN (fun _ _=>rfl)) (b9 (pv 3) (b9 (pv 4) (b9 (pv 7) cz)))))) cz)))
    (cE (cM (dJ jo (dc (b9 (dJ oS (dD cX (by rfl) T.len aG (b9 (cH (pv 0) rfl) cz)) cN) cz)) (pv 7))))))))))))),?_⟩
  refine⟨_,rfl,dk,A.CD,jm,_,_,rfl,jV,T.cD,T.fu,fc _,_,rfl,nl,_,0,V.int n,rfl,rfl,dG.of hnl,at_of (j:=0) rfl rfl,d.eV,V.ref r.lot,rfl,hget,?_⟩
  refine⟨_,rfl,nl,_,1,V.int x,rfl,rfl,dG.of hnl,at_of (j:=1) rfl rfl,?_⟩
  refine⟨_,rfl,nl,_,2,V.int c,rfl,rfl,dG.of hnl,at_of (j:=2) rfl rfl,?_⟩
  refine⟨_,rfl,x,rfl,_,rfl,?_⟩
  cases h1:dZ x with
  |false=>
   have hb:(dZ x&&inside c 0 1)=false:=by rw[h1];rfl
   exact dI (dI (dH fun p hp s=>k _ p d (.same hD s hp (out hb))))
  |true=>
  refine dR ⟨_,rfl,_,_,rfl,rfl,_,rfl,?_⟩
  by_cases h2:0≤c
  rotate_left
  ·have hb:(dZ x&&inside c 0 1)=false:=by unfold inside;rw[aW h2,Bool.false_and,Bool.and_false]
   rw[aW h2]
   exact dR ⟨_,rfl,dI (dH fun p hp s=>k _ p d (.same hD s hp (out hb)))⟩
  rw[aX h2]
  refine dI ⟨_,_,rfl,rfl,_,rfl,?_⟩
  by_cases h3:c≤1
  rotate_left
  ·have hb:(dZ x&&inside c 0 1)=false:=by unfold inside;rw[aW h3,Bool.and_false,Bool.and_false]
   rw[aW h3]
   exact dI (dH fun p hp s=>k _ p d (.same hD s hp (out hb)))
  rw[aX h3]
  have hok:(dZ x&&inside c 0 1)=true:=by rw[h1,(Rc.d9 _ _ _).mpr ⟨h2,h3⟩];rfl
  have hx:=(Rc.d9 _ _ _).mp h1
  obtain⟨no,yes⟩:=O0 hl hok
  have hL:kH A H r l:=⟨⟨dl,hlt⟩,hR,hO⟩
  refine dR ⟨_,rfl,fun z dz nz ndz _=>⟨z,dz,r,l,rfl,cA,hL.same (iH nz ndz),gl,fun H1 hS kp=>⟨rfl,?_⟩⟩⟩
  have s1:cK H H1:=cK.made nz ndz kp
  refine⟨_,rfl,_,rfl,_,rfl,_,rfl,dk,z,d,st,r,l,c,rfl,hD.same s1,hL.same s1,hS,gl,fun H2 s2=>?_⟩
  have wF:=s1.trans s2
  cases href:yr st l c with
  |some e=>exact⟨_,rfl,rfl,_,rfl,dI ⟨_,rfl,dH fun p hp s=>k _ p d (.same hD (wF.trans s) hp (no e href))⟩⟩
  |none=>
   obtain⟨f,hf,es⟩:=yes href
   refine⟨_,rfl,rfl,_,rfl,dR ⟨_,rfl,_,rfl,_,rfl,z,l,x,c,rfl,hS.same s2,gl,hx.1,hx.2,by omega,fun H3 v hv s3=>?_⟩⟩
   rw[hf]at hv
   obtain⟨q,rfl,nq,hq⟩:=hv
   have nq0:H q=none:=wF.free nq
   have yl:=wF.trans s3
   obtain⟨rs,hrl,hrs⟩:=hD.results
   have Ve:=yl _ _ jV
   replace hnl:=hnl.same yl
   have W3:=yl _ _ hrl
   refine⟨_,rfl,dk,A.CD,jm,_,_,rfl,Ve,T.cD,T.i8,jK _,.inl ⟨rfl,_,dG.of W3⟩,_,rfl,dk,A.CD,jm,_,_,rfl,Ve,T.cD,T.t6,yf _,_,rfl,nl,_,0,V.int n,rfl,rfl,dG.of hnl,at_of (j:=0) rfl rfl,_,rfl,_,rfl,_,rfl,fun u du nu ndu _=>⟨u,du,⟨st.now,n,x,c,q⟩,rfl,cA,fun H4 hU kp4=>⟨rfl,?_⟩⟩⟩
   have s4:cK H3 H4:=cK.made nu ndu kp4
   have RE:=yl.trans s4
   have S0:=s4 _ _ W3
   have W4:=s4 _ _ Ve
   have rl:(rs.map V.ref).length=st.results.length:=by rw[aa,hrs.len]
   have ZE:=g.rl
   refine⟨d.results,_,_,rfl,rfl,S0,dO (by rw[rl];omega),?_⟩
   have b5:jn d.results H4 (L2.upd H4 d.results (.lst (rs.map V.ref++[V.ref u]))):=jn.upd
   have Vy:(L2.upd H4 d.results (.lst (rs.map V.ref++[V.ref u]))) d.results=some (.lst (rs.map V.ref++[V.ref u])):=cA
   have Vf:=b5 _ _ W4 (e9 W4 S0 (by intro z;cases z))
   have fne:Vblaaf.foundRow f≠[]:=by cases f <;> (intro z;cases z)
   have kI:∀{a:Addr}{ms:List Int},iw H4 a ms->ms≠[]->iw (L2.upd H4 d.results (.lst (rs.map V.ref++[V.ref u]))) a ms:=fun h hne=>b5 _ _ h (uw h hne S0)
   have Vb:=kI (hq.same s4) fne
   have kU:∀{a:Addr}{z:Vblaaf.Result},qG A (d.more q).doses H4 a z->qG A (d.more q).doses (L2.upd H4 d.results (.lst (rs.map V.ref++[V.ref u]))) a z:=by
    rintro a z ⟨w,h0,⟨dx,e⟩,hw⟩
    have zne:Vblaaf.foundRow z.told≠[]:=by cases z.told <;> (intro z;cases z)
    exact⟨w,h0,⟨dx,b5 _ _ e (e9 e S0 (by intro z;cases z))⟩,kI hw zne⟩
   have hnew:qG A (d.more q).doses H4 u ⟨st.now,n.toNat,x,c==1,f⟩:=by
    refine⟨q,.inr rfl,?_,hq.same s4⟩
    have e1:((n.toNat:Nat):Int)=n:=by omega
    have e2:(if (c==1)=true then (1:Int) else 0)=c:=by
     have:c=0∨c=1:=by omega
     rcases this with rfl | rfl <;> rfl
    show Vt A H4 u ⟨st.now,((n.toNat:Nat):Int),x,if (c==1)=true then 1 else 0,q⟩
    rw[e1,e2]
    exact hU
   have hall:fV (qG A (d.more q).doses) (L2.upd H4 d.results (.lst (rs.map V.ref++[V.ref u]))) d.results (st.results++[⟨st.now,n.toNat,x,c==1,f⟩]):=⟨rs++[u],by rw[cA,ay];rfl,fq.snoc (hrs.imp fun _ _ h=>kU (let ⟨w,h0,h1⟩:=h.same RE;⟨w,.inl h0,h1⟩)) (kU hnew)⟩
   have VA:=cK.but RE b5
   revert Vy Vf Vb hall VA
   clear b5 kI kU
   generalize L2.upd H4 d.results (.lst (rs.map V.ref++[V.ref u]))=H5
   intro Vy Vf Vb hall VA
   refine⟨_,rfl,dk,A.CD,jm,_,_,rfl,Vf,T.cD,T.i8,jK _,d.results,_,rfl,.inl (dG.of Vy),_,_,rfl,rfl,eL (by show 1≤100000;decide),fun p hp=>?_⟩
   have MG:((((rs.map V.ref)++[V.ref u]).length:Nat):Int)-1=(st.results.length:Int):=by rw[ao,rl];simp
   have sp:=cK.upd (o:=.lst [V.int (((((rs.map V.ref)++[V.ref u]).length:Nat):Int)-1)]) hp
   have hp1:iw (L2.upd H5 p (.lst [V.int (((((rs.map V.ref)++[V.ref u]).length:Nat):Int)-1)])) p [(st.results.length:Int)]:=by
    show (L2.upd H5 p _) p=_
    rw[cA,MG];rfl
   refine⟨_,rfl,gz hp1 (Vb.same sp) (by
    show 1+(Vblaaf.foundRow f).length≤100000
    have:(Vblaaf.foundRow f).length≤5:=by cases f <;> (simp[Vblaaf.foundRow,Vblaaf.pair])
    omega) fun t ht=>?_⟩
   have s7:=sp.trans (cK.upd (o:=.lst (([(st.results.length:Int)]++Vblaaf.foundRow f).map V.int)) ht)
   exact k _ t _ (.res hD (VA.kW s7) nq0 (hall.same s7 fun _ _ h=>h.same s7) es cA)
abbrev p8:Stmt:=top 125
theorem u9:cT ["desk","numbers","result"] ["desk","numbers"] (cJ p8):=gJ
theorem DU(T:Txt K mg A)(D:Def K mg "answer_shown" p8 ["desk","numbers"]):Good P w K mg base 3 "answer_shown" ["desk","numbers"] (fk A 21):=by
 refine D.good u9 (fun _ _ _ _ h=>?_) (fun _ _ _ _ _ H _ Q _ hr h=>?_)
 ·exact h.len
 ·obtain⟨dk,nl,d,st,ns,c,rfl,hD,g,hnl,lF,hc,ht,k⟩:=h
  cases hc
  rename_i i
  obtain⟨jm,jV⟩:=hD.yw
  obtain⟨rs,hrl,hrs⟩:=hD.results
  have rl:(rs.map V.ref).length=st.results.length:=by rw[aa,hrs.len]
  have es:Vblaaf.step st (.shown i)=match (if 0≤i then st.results[i.toNat]? else none)with
   |none=>(st,[-1])
   |some r=>(st,[r.time,(r.lot:Int),r.response,if r.shifted=true then 1 else 0]++Vblaaf.foundRow r.told):=rfl
  have nd:=u9.nd
  refine⟨_,(cg (dU (gQ (oU gU vA cN (dN cW (pv 1) cN (fun _ _=>rfl)) (dD cX (by rfl) T.len aG (b9 (cH (pv 0) rfl) cz)))) (cE (cM (dc (b9 (dB rfl T.v8) cz)))) cY)
    (cg (gi 2 nd (dN cW (cH (pv 0) rfl) (dN cW (pv 1) cN (fun _ _=>rfl)) (fun _ _=>rfl)))
    (cE (cM (dJ jo (dc (b9 (cH (pv 2) rfl) (b9 (cH (pv 2) rfl) (b9 (cH (pv 2) rfl) (b9 (cH (pv 2) rfl) cz))))) (cH (pv 2) rfl)))))),?_⟩
  refine⟨_,rfl,nl,_,0,V.int i,rfl,rfl,dG.of hnl,at_of (j:=0) rfl rfl,_,_,rfl,rfl,_,rfl,?_⟩
  by_cases h1:0≤i
  rotate_left
  ·rw[bz h1]at es
   rw[aW h1]
   exact dR ⟨_,rfl,dI (dH fun p hp s=>k _ p d (.same hD s hp es))⟩
  rw[bA h1]at es
  rw[aX h1]
  refine dI ⟨_,rfl,dk,A.CD,jm,_,_,rfl,jV,T.cD,T.i8,jK _,d.results,_,rfl,.inl (dG.of hrl),_,_,rfl,rfl,_,rfl,?_⟩
  rw[rl]
  by_cases h2:i<(st.results.length:Int)
  rotate_left
  ·rw[bf (by omega)]at es
   rw[aW h2]
   exact dI (dH fun p hp s=>k _ p d (.same hD s hp es))
  rw[aX h2]
  have hi:st.results[i.toNat]?=some (st.results[i.toNat]'(by omega)):=ah _
  generalize (st.results[i.toNat]'(by omega))=r at hi
  rw[hi]at es
  obtain⟨a,ia,q,_,⟨da,ha⟩,hq⟩:=hrs.get hi
  have hat:=QC ia
  have ei:i=((i.toNat:Nat):Int):=by omega
  refine dR ⟨_,rfl,dk,A.CD,jm,_,_,rfl,jV,T.cD,T.i8,jK _,_,rfl,nl,_,0,V.int i,rfl,rfl,dG.of hnl,at_of (j:=0) rfl rfl,d.results,_,i,V.ref a,rfl,rfl,dG.of hrl,at_of ei hat,?_⟩
  refine⟨_,rfl,a,A.CU,da,_,_,rfl,ha,T.cU,T.IL,QH _,_,rfl,a,A.CU,da,_,_,rfl,ha,T.cU,T.mV,vY _,_,rfl,a,A.CU,da,_,_,rfl,ha,T.cU,T.qw,A8 _,_,rfl,a,A.CU,da,_,_,rfl,ha,T.cU,T.IM,Nr _,eL (by show 4≤100000;decide),fun p hp=>?_⟩
  have sp:=cK.upd (o:=.lst [V.int r.time,V.int (r.lot:Nat),V.int r.response,V.int (if r.shifted=true then 1 else 0)]) hp
  have ha2:=sp _ _ ha
  refine⟨_,rfl,a,A.CU,da,_,_,rfl,ha2,T.cU,T.Ba,Hv _,gz (ns:=[r.time,(r.lot:Int),r.response,if r.shifted=true then 1 else 0]) cA (hq.same sp) (by
   show 4+(Vblaaf.foundRow r.told).length≤100000
   have:(Vblaaf.foundRow r.told).length≤5:=by cases r.told <;> (simp[Vblaaf.foundRow,Vblaaf.pair])
   omega) fun t ht=>k _ t d (.same' hD (sp.trans (cK.upd ht)) es cA)⟩
abbrev mK:Stmt:=top 126
theorem qL:cT ["desk","numbers","changed"] ["desk","numbers"] (cJ mK):=gJ
theorem BE(T:Txt K mg A)(D:Def K mg "answer_changed" mK ["desk","numbers"])(lR:Good P w K mg base 12 "changed_results" ["lots","results"] (HM A)):Good P w K mg base 13 "answer_changed" ["desk","numbers"] (fk A 22):=by
 refine D.good qL (fun _ _ _ _ h=>?_) (fun _ _ _ _ _ H _ Q _ hr h=>?_)
 ·exact h.len
 ·obtain⟨dk,nl,d,st,ns,c,rfl,hD,g,hnl,lF,hc,ht,k⟩:=h
  cases hc
  obtain⟨jm,jV⟩:=hD.yw
  have es:Vblaaf.step st .changed=(st,[0,((fO st st.results).length:Int)]++fO st st.results):=by
   show (st,0::Vblaaf.row _)=_
   unfold Vblaaf.row fO
   simp only[aa]
   rfl
  have cl:=mz st st.results
  have ZE:=g.rl
  have nd:=qL.nd
  refine⟨_,(cg (gi 2 nd (dF lR hr (b9 (cH (pv 0) rfl) (b9 (cH (pv 0) rfl) cz))))
    (cE (cM (dJ jo (dc (b9 cN (b9 (dD cX (by rfl) T.len aG (b9 (pv 2) cz)) cz))) (pv 2))))),?_⟩
  refine⟨_,rfl,dk,A.CD,jm,_,_,rfl,jV,T.cD,T.fu,fc _,_,rfl,dk,A.CD,jm,_,_,rfl,jV,T.cD,T.i8,jK _,dk,d,st,rfl,hD,g,fun H1 q hq s1=>?_⟩
  refine⟨_,rfl,q,_,rfl,.inl (dG.of hq),eL (by show 2≤100000;decide),fun p hp=>?_⟩
  have sp:=cK.upd (o:=.lst [V.int 0,V.int ((((fO st st.results).map V.int).length:Nat):Int)]) hp
  have hp1:iw (L2.upd H1 p (.lst [V.int 0,V.int ((((fO st st.results).map V.int).length:Nat):Int)])) p [0,((fO st st.results).length:Int)]:=by
   show (L2.upd H1 p _) p=_
   rw[cA,aa];rfl
  exact⟨_,rfl,gz hp1 (hq.same sp) (by show 2+_≤100000;omega) fun t ht=>k _ t d (.same' hD ((s1.trans sp).trans (cK.upd ht)) es cA)⟩
end
end Rv
namespace Rv
open PySem PySem.Spec PyProof.Rows L2
open Vblaaf (Frac Point Block Knot lowest whole plus minus times over less mean)
open Rc (Ok Sz)
section
variable {P:Program} {w:World} {K:PySem.W.Frag} {mg:Str->Option Value} {base:Heap} {A:gY}
def zl(A:gY)(ks:List Int):Sp:=fun vs H Q _=>∃(dk nl:Addr)(d:fT)(st:Vblaaf.State)(k:Int)(ns:List Int)(c:Vblaaf.Call),vs=[.ref dk,.int k,.ref nl]/\k∈ks/\fJ A H dk d st/\Rc.je st/\iw H nl ns/\ns.length≤16000/\fS k ns c/\Q5 st c/\
 ∀(H':Hp)(p:Addr)(d':fT),Left A H dk d (Vblaaf.step st c) H' p d'->Q (.ref p) H'
theorem fm{m:Nat}{x:Str}{ps:List Str}{sp:Sp}{f:Addr}(G:Good P w K mg base m x ps sp)(h:mg x=some (.ref f)):∃fd,PySem.W.keepIn K (.ref f)=true/\Binds K fd ps []/\yu P w K mg base Js m f fd ps sp:=by
 obtain⟨f',fd,e1,e2,b,F⟩:=G.ex
 rw[h]at e1
 cases e1
 exact⟨fd,e2,b,F⟩
abbrev j4:Stmt:=top 86
theorem nj:cT ["desk","number","numbers","answer"] ["desk","number","numbers"] (cJ j4):=gJ
theorem xw(T:Txt K mg A)(D:Def K mg "answer_curve_call" j4 ["desk","number","numbers"])(uA:Good P w K mg base 10 "answer_fit" ["desk","numbers"] (fk A 4))(nT:Good P w K mg base 10 "answer_blocks" ["desk","numbers"] (fk A 5))(rJ:Good P w K mg base 10 "answer_sums" ["desk","numbers"] (fk A 6))(mL:Good P w K mg base 10 "answer_squares" ["desk","numbers"] (fk A 7))(p9:Good P w K mg base 10 "answer_trial" ["desk","numbers"] (fk A 8)):Good P w K mg base 11 "answer_curve_call" ["desk","number","numbers"] (zl A [4,5,6,7,8]):=by
 refine D.good nj (fun _ _ _ _ h=>?_) (fun _ _ _ _ _ H _ Q _ hr h=>?_)
 ·obtain⟨dk,nl,d,st,k,ns,c,rfl,_⟩:=h;rfl
 ·obtain⟨dk,nl,d,st,kk,ns,c,rfl,hk,hD,g,hnl,lF,hc,ht,k⟩:=h
  have nd:=nj.nd
  refine⟨_,(cg (gi 3 nd (Cc T.uI rfl T.uH (pv 1) (fun _ _=>rfl)))
    (cE (cM (vV (pv 3) (b9 (pv 0) (b9 (pv 2) cz)))))),?_⟩
  simp only[aB,bR,or_false]at hk
  rcases hk with rfl | rfl | rfl | rfl | rfl
  ·obtain⟨fd,e2,b,F⟩:=fm uA T.Bf
   exact⟨_,rfl,4,V.ref A.lM,rfl,rfl,A.lM,fd,_,_,_,rfl,e2,b,F,hr.mono (by decide),_,rfl,_,rfl,dk,nl,d,st,ns,c,rfl,hD,g,hnl,lF,hc,ht,k⟩
  ·obtain⟨fd,e2,b,F⟩:=fm nT T.uJ
   exact⟨_,rfl,5,V.ref A.jg,rfl,rfl,A.jg,fd,_,_,_,rfl,e2,b,F,hr.mono (by decide),_,rfl,_,rfl,dk,nl,d,st,ns,c,rfl,hD,g,hnl,lF,hc,ht,k⟩
  ·obtain⟨fd,e2,b,F⟩:=fm rJ T.yI
   exact⟨_,rfl,6,V.ref A.kj,rfl,rfl,A.kj,fd,_,_,_,rfl,e2,b,F,hr.mono (by decide),_,rfl,_,rfl,dk,nl,d,st,ns,c,rfl,hD,g,hnl,lF,hc,ht,k⟩
  ·obtain⟨fd,e2,b,F⟩:=fm mL T.sH
   exact⟨_,rfl,7,V.ref A.iR,rfl,rfl,A.iR,fd,_,_,_,rfl,e2,b,F,hr.mono (by decide),_,rfl,_,rfl,dk,nl,d,st,ns,c,rfl,hD,g,hnl,lF,hc,ht,k⟩
  ·obtain⟨fd,e2,b,F⟩:=fm p9 T.wc
   exact⟨_,rfl,8,V.ref A.jA,rfl,rfl,A.jA,fd,_,_,_,rfl,e2,b,F,hr.mono (by decide),_,rfl,_,rfl,dk,nl,d,st,ns,c,rfl,hD,g,hnl,lF,hc,ht,k⟩
abbrev kX:Stmt:=top 100
theorem nX:cT ["desk","number","numbers","answer"] ["desk","number","numbers"] (cJ kX):=gJ
theorem yx(T:Txt K mg A)(D:Def K mg "answer_line_call" kX ["desk","number","numbers"])(qa:Good P w K mg base 10 "answer_value" ["desk","numbers"] (fk A 9))(rK:Good P w K mg base 10 "answer_dose" ["desk","numbers"] (fk A 10))(rL:Good P w K mg base 10 "answer_step" ["desk","numbers"] (fk A 11))(qb:Good P w K mg base 10 "answer_shift" ["desk","numbers"] (fk A 17))(uB:Good P w K mg base 10 "answer_gap" ["desk","numbers"] (fk A 18)):Good P w K mg base 11 "answer_line_call" ["desk","number","numbers"] (zl A [9,10,11,17,18]):=by
 refine D.good nX (fun _ _ _ _ h=>?_) (fun _ _ _ _ _ H _ Q _ hr h=>?_)
 ·obtain⟨dk,nl,d,st,k,ns,c,rfl,_⟩:=h;rfl
 ·obtain⟨dk,nl,d,st,kk,ns,c,rfl,hk,hD,g,hnl,lF,hc,ht,k⟩:=h
  have nd:=nX.nd
  refine⟨_,(cg (gi 3 nd (Cc T.wg rfl T.we (pv 1) (fun _ _=>rfl)))
    (cE (cM (vV (pv 3) (b9 (pv 0) (b9 (pv 2) cz)))))),?_⟩
  simp only[aB,bR,or_false]at hk
  rcases hk with rfl | rfl | rfl | rfl | rfl
  ·obtain⟨fd,e2,b,F⟩:=fm qa T.wj
   exact⟨_,rfl,9,V.ref A.jB,rfl,rfl,A.jB,fd,_,_,_,rfl,e2,b,F,hr.mono (by decide),_,rfl,_,rfl,dk,nl,d,st,ns,c,rfl,hD,g,hnl,lF,hc,ht,k⟩
  ·obtain⟨fd,e2,b,F⟩:=fm rK T.yJ
   exact⟨_,rfl,10,V.ref A.ko,rfl,rfl,A.ko,fd,_,_,_,rfl,e2,b,F,hr.mono (by decide),_,rfl,_,rfl,dk,nl,d,st,ns,c,rfl,hD,g,hnl,lF,hc,ht,k⟩
  ·obtain⟨fd,e2,b,F⟩:=fm rL T.yK
   exact⟨_,rfl,11,V.ref A.kq,rfl,rfl,A.kq,fd,_,_,_,rfl,e2,b,F,hr.mono (by decide),_,rfl,_,rfl,dk,nl,d,st,ns,c,rfl,hD,g,hnl,lF,hc,ht,k⟩
  ·obtain⟨fd,e2,b,F⟩:=fm qb T.wk
   exact⟨_,rfl,17,V.ref A.jC,rfl,rfl,A.jC,fd,_,_,_,rfl,e2,b,F,hr.mono (by decide),_,rfl,_,rfl,dk,nl,d,st,ns,c,rfl,hD,g,hnl,lF,hc,ht,k⟩
  ·obtain⟨fd,e2,b,F⟩:=fm uB T.Bg
   exact⟨_,rfl,18,V.ref A.lN,rfl,rfl,A.lN,fd,_,_,_,rfl,e2,b,F,hr.mono (by decide),_,rfl,_,rfl,dk,nl,d,st,ns,c,rfl,hD,g,hnl,lF,hc,ht,k⟩
abbrev lS:Stmt:=top 113
theorem qc:cT ["desk","number","numbers","answer"] ["desk","number","numbers"] (cJ lS):=gJ
theorem AA(T:Txt K mg A)(D:Def K mg "answer_lot_call" lS ["desk","number","numbers"])(uC:Good P w K mg base 5 "answer_lot" ["desk","numbers"] (fk A 0))(qd:Good P w K mg base 6 "answer_point" ["desk","numbers"] (fk A 1))(mO:Good P w K mg base 3 "answer_unpoint" ["desk","numbers"] (fk A 2))(nU:Good P w K mg base 3 "answer_points" ["desk","numbers"] (fk A 3))(mP:Good P w K mg base 5 "answer_control" ["desk","numbers"] (fk A 15))(qe:Good P w K mg base 3 "answer_clear" ["desk","numbers"] (fk A 16))(rM:Good P w K mg base 6 "answer_turn" ["desk","numbers"] (fk A 23))(rN:Good P w K mg base 3 "answer_lots" ["desk","numbers"] (fk A 24)):Good P w K mg base 7 "answer_lot_call" ["desk","number","numbers"] (zl A [0,1,2,3,15,16,23,24]):=by
 refine D.good qc (fun _ _ _ _ h=>?_) (fun _ _ _ _ _ H _ Q _ hr h=>?_)
 ·obtain⟨dk,nl,d,st,k,ns,c,rfl,_⟩:=h;rfl
 ·obtain⟨dk,nl,d,st,kk,ns,c,rfl,hk,hD,g,hnl,lF,hc,ht,k⟩:=h
  have nd:=qc.nd
  refine⟨_,(cg (gi 3 nd (Cc T.yM rfl T.yL (pv 1) (fun _ _=>rfl)))
    (cE (cM (vV (pv 3) (b9 (pv 0) (b9 (pv 2) cz)))))),?_⟩
  simp only[aB,bR,or_false]at hk
  rcases hk with rfl | rfl | rfl | rfl | rfl | rfl | rfl | rfl
  ·obtain⟨fd,e2,b,F⟩:=fm uC T.Bh
   exact⟨_,rfl,0,V.ref A.lO,rfl,rfl,A.lO,fd,_,_,_,rfl,e2,b,F,hr.mono (by decide),_,rfl,_,rfl,dk,nl,d,st,ns,c,rfl,hD,g,hnl,lF,hc,ht,k⟩
  ·obtain⟨fd,e2,b,F⟩:=fm qd T.wm
   exact⟨_,rfl,1,V.ref A.jD,rfl,rfl,A.jD,fd,_,_,_,rfl,e2,b,F,hr.mono (by decide),_,rfl,_,rfl,dk,nl,d,st,ns,c,rfl,hD,g,hnl,lF,hc,ht,k⟩
  ·obtain⟨fd,e2,b,F⟩:=fm mO T.sI
   exact⟨_,rfl,2,V.ref A.iS,rfl,rfl,A.iS,fd,_,_,_,rfl,e2,b,F,hr.mono (by decide),_,rfl,_,rfl,dk,nl,d,st,ns,c,rfl,hD,g,hnl,lF,hc,ht,k⟩
  ·obtain⟨fd,e2,b,F⟩:=fm nU T.uK
   exact⟨_,rfl,3,V.ref A.jh,rfl,rfl,A.jh,fd,_,_,_,rfl,e2,b,F,hr.mono (by decide),_,rfl,_,rfl,dk,nl,d,st,ns,c,rfl,hD,g,hnl,lF,hc,ht,k⟩
  ·obtain⟨fd,e2,b,F⟩:=fm mP T.sJ
   exact⟨_,rfl,15,V.ref A.iT,rfl,rfl,A.iT,fd,_,_,_,rfl,e2,b,F,hr.mono (by decide),_,rfl,_,rfl,dk,nl,d,st,ns,c,rfl,hD,g,hnl,lF,hc,ht,k⟩
  ·obtain⟨fd,e2,b,F⟩:=fm qe T.wo
   exact⟨_,rfl,16,V.ref A.jE,rfl,rfl,A.jE,fd,_,_,_,rfl,e2,b,F,hr.mono (by decide),_,rfl,_,rfl,dk,nl,d,st,ns,c,rfl,hD,g,hnl,lF,hc,ht,k⟩
  ·obtain⟨fd,e2,b,F⟩:=fm rM T.yN
   exact⟨_,rfl,23,V.ref A.ku,rfl,rfl,A.ku,fd,_,_,_,rfl,e2,b,F,hr.mono (by decide),_,rfl,_,rfl,dk,nl,d,st,ns,c,rfl,hD,g,hnl,lF,hc,ht,k⟩
  ·obtain⟨fd,e2,b,F⟩:=fm rN T.yO
   exact⟨_,rfl,24,V.ref A.kC,rfl,rfl,A.kC,fd,_,_,_,rfl,e2,b,F,hr.mono (by decide),_,rfl,_,rfl,dk,nl,d,st,ns,c,rfl,hD,g,hnl,lF,hc,ht,k⟩
abbrev jN:Stmt:=top 128
theorem lV:cT ["desk","number","numbers","answer"] ["desk","number","numbers"] (cJ jN):=gJ
theorem vo(T:Txt K mg A)(D:Def K mg "answer_result_call" jN ["desk","number","numbers"])(rO:Good P w K mg base 4 "answer_tick" ["desk","numbers"] (fk A 19))(rP:Good P w K mg base 12 "answer_read" ["desk","numbers"] (fk A 20))(qf:Good P w K mg base 3 "answer_shown" ["desk","numbers"] (fk A 21))(mQ:Good P w K mg base 13 "answer_changed" ["desk","numbers"] (fk A 22)):Good P w K mg base 14 "answer_result_call" ["desk","number","numbers"] (zl A [19,20,21,22]):=by
 refine D.good lV (fun _ _ _ _ h=>?_) (fun _ _ _ _ _ H _ Q _ hr h=>?_)
 ·obtain⟨dk,nl,d,st,k,ns,c,rfl,_⟩:=h;rfl
 ·obtain⟨dk,nl,d,st,kk,ns,c,rfl,hk,hD,g,hnl,lF,hc,ht,k⟩:=h
  have nd:=lV.nd
  refine⟨_,(cg (gi 3 nd (Cc T.sM rfl T.sL (pv 1) (fun _ _=>rfl)))
    (cE (cM (vV (pv 3) (b9 (pv 0) (b9 (pv 2) cz)))))),?_⟩
  simp only[aB,bR,or_false]at hk
  rcases hk with rfl | rfl | rfl | rfl
  ·obtain⟨fd,e2,b,F⟩:=fm rO T.yP
   exact⟨_,rfl,19,V.ref A.kD,rfl,rfl,A.kD,fd,_,_,_,rfl,e2,b,F,hr.mono (by decide),_,rfl,_,rfl,dk,nl,d,st,ns,c,rfl,hD,g,hnl,lF,hc,ht,k⟩
  ·obtain⟨fd,e2,b,F⟩:=fm rP T.yQ
   exact⟨_,rfl,20,V.ref A.kE,rfl,rfl,A.kE,fd,_,_,_,rfl,e2,b,F,hr.mono (by decide),_,rfl,_,rfl,dk,nl,d,st,ns,c,rfl,hD,g,hnl,lF,hc,ht,k⟩
  ·obtain⟨fd,e2,b,F⟩:=fm qf T.wu
   exact⟨_,rfl,21,V.ref A.jF,rfl,rfl,A.jF,fd,_,_,_,rfl,e2,b,F,hr.mono (by decide),_,rfl,_,rfl,dk,nl,d,st,ns,c,rfl,hD,g,hnl,lF,hc,ht,k⟩
  ·obtain⟨fd,e2,b,F⟩:=fm mQ T.sN
   exact⟨_,rfl,22,V.ref A.iU,rfl,rfl,A.iU,fd,_,_,_,rfl,e2,b,F,hr.mono (by decide),_,rfl,_,rfl,dk,nl,d,st,ns,c,rfl,hD,g,hnl,lF,hc,ht,k⟩
abbrev j5:Stmt:=top 144
theorem ny:cT ["desk","number","numbers","answer"] ["desk","number","numbers"] (cJ j5):=gJ
theorem xx(T:Txt K mg A)(D:Def K mg "answer_truth_call" j5 ["desk","number","numbers"])(qg:Good P w K mg base 6 "answer_truth" ["desk","numbers"] (fk A 12))(qh:Good P w K mg base 6 "answer_clash" ["desk","numbers"] (fk A 13))(qi:Good P w K mg base 6 "answer_range" ["desk","numbers"] (fk A 14)):Good P w K mg base 7 "answer_truth_call" ["desk","number","numbers"] (zl A [12,13,14]):=by
 refine D.good ny (fun _ _ _ _ h=>?_) (fun _ _ _ _ _ H _ Q _ hr h=>?_)
 ·obtain⟨dk,nl,d,st,k,ns,c,rfl,_⟩:=h;rfl
 ·obtain⟨dk,nl,d,st,kk,ns,c,rfl,hk,hD,g,hnl,lF,hc,ht,k⟩:=h
  have nd:=ny.nd
  refine⟨_,(cg (gi 3 nd (Cc T.uM rfl T.uL (pv 1) (fun _ _=>rfl)))
    (cE (cM (vV (pv 3) (b9 (pv 0) (b9 (pv 2) cz)))))),?_⟩
  simp only[aB,bR,or_false]at hk
  rcases hk with rfl | rfl | rfl
  ·obtain⟨fd,e2,b,F⟩:=fm qg T.wz
   exact⟨_,rfl,12,V.ref A.jG,rfl,rfl,A.jG,fd,_,_,_,rfl,e2,b,F,hr.mono (by decide),_,rfl,_,rfl,dk,nl,d,st,ns,c,rfl,hD,g,hnl,lF,hc,ht,k⟩
  ·obtain⟨fd,e2,b,F⟩:=fm qh T.wA
   exact⟨_,rfl,13,V.ref A.jH,rfl,rfl,A.jH,fd,_,_,_,rfl,e2,b,F,hr.mono (by decide),_,rfl,_,rfl,dk,nl,d,st,ns,c,rfl,hD,g,hnl,lF,hc,ht,k⟩
  ·obtain⟨fd,e2,b,F⟩:=fm qi T.wB
   exact⟨_,rfl,14,V.ref A.jI,rfl,rfl,A.jI,fd,_,_,_,rfl,e2,b,F,hr.mono (by decide),_,rfl,_,rfl,dk,nl,d,st,ns,c,rfl,hD,g,hnl,lF,hc,ht,k⟩
structure Rf(l:List Int)(p:Int)(c:List (List Int))(t:List Int)(ns:List Int)(vc:Vblaaf.Call):Prop where
 is:fS p ns vc
 call:VblaafNeutral.call c=some vc
 cut:l=p::(ns++t)
 width:(p≠8/\Hx.lookup p=some (V.int (ns.length:Nat)))∨(p=8/\ ∃a m r,ns=a::m::r/\m=(r.length:Nat))
theorem fN{r:List Int}(h:1≤r.length):∃a t,r=a::t:=match r,h with | a::t,_=>⟨a,t,rfl⟩
theorem S1{l:List Int}{p:Int}{c:List (List Int)}{t:List Int}(h:Rc.Head l p c t):∃ns vc,Rf l p c t ns vc:=by
 cases h with
 |@trial a m r h0 h1=>
  refine⟨a::m::r.take m.toNat,.trial a (r.take m.toNat),.trial a m _,rfl,?_,.inr ⟨rfl,a,m,_,rfl,?_⟩⟩
  ·show _=8::a::m::(r.take m.toNat++r.drop m.toNat)
   rw[List.take_append_drop]
  ·rw[aJ];omega
 |@plain p n r hs hn=>
  unfold PyVblaaf.shape at hs
  rcases Rc.dM hs with ⟨e,h'⟩ | ⟨_,hs⟩
  ·have e2:n=2:=by injection h' with h';injection h' with h1 h2;exact h1.symm
   subst e e2
   obtain⟨a,r0,rfl⟩:=fN (r:=r) (by(try simp only[aj]at hn);omega)
   obtain⟨b,r1,rfl⟩:=fN (r:=r0) (by(try simp only[aj]at hn);omega)
   exact⟨[a,b],_,.lot a b,rfl,rfl,.inl ⟨by decide,rfl⟩⟩
  rcases Rc.dM hs with ⟨e,h'⟩ | ⟨_,hs⟩
  ·have e2:n=5:=by injection h' with h';injection h' with h1 h2;exact h1.symm
   subst e e2
   obtain⟨a,r0,rfl⟩:=fN (r:=r) (by(try simp only[aj]at hn);omega)
   obtain⟨b,r1,rfl⟩:=fN (r:=r0) (by(try simp only[aj]at hn);omega)
   obtain⟨c,r2,rfl⟩:=fN (r:=r1) (by(try simp only[aj]at hn);omega)
   obtain⟨d,r3,rfl⟩:=fN (r:=r2) (by(try simp only[aj]at hn);omega)
   obtain⟨e,r4,rfl⟩:=fN (r:=r3) (by(try simp only[aj]at hn);omega)
   exact⟨[a,b,c,d,e],_,.point a b c d e,rfl,rfl,.inl ⟨by decide,rfl⟩⟩
  rcases Rc.dM hs with ⟨e,h'⟩ | ⟨_,hs⟩
  ·have e2:n=2:=by injection h' with h';injection h' with h1 h2;exact h1.symm
   subst e e2
   obtain⟨a,r0,rfl⟩:=fN (r:=r) (by(try simp only[aj]at hn);omega)
   obtain⟨b,r1,rfl⟩:=fN (r:=r0) (by(try simp only[aj]at hn);omega)
   exact⟨[a,b],_,.unpoint a b,rfl,rfl,.inl ⟨by decide,rfl⟩⟩
  rcases Rc.dM hs with ⟨e,h'⟩ | ⟨_,hs⟩
  ·have e2:n=1:=by injection h' with h';injection h' with h1 h2;exact h1.symm
   subst e e2
   obtain⟨a,r0,rfl⟩:=fN (r:=r) (by(try simp only[aj]at hn);omega)
   exact⟨[a],_,.points a,rfl,rfl,.inl ⟨by decide,rfl⟩⟩
  rcases Rc.dM hs with ⟨e,h'⟩ | ⟨_,hs⟩
  ·have e2:n=1:=by injection h' with h';injection h' with h1 h2;exact h1.symm
   subst e e2
   obtain⟨a,r0,rfl⟩:=fN (r:=r) (by(try simp only[aj]at hn);omega)
   exact⟨[a],_,.fit a,rfl,rfl,.inl ⟨by decide,rfl⟩⟩
  rcases Rc.dM hs with ⟨e,h'⟩ | ⟨_,hs⟩
  ·have e2:n=1:=by injection h' with h';injection h' with h1 h2;exact h1.symm
   subst e e2
   obtain⟨a,r0,rfl⟩:=fN (r:=r) (by(try simp only[aj]at hn);omega)
   exact⟨[a],_,.blocks a,rfl,rfl,.inl ⟨by decide,rfl⟩⟩
  rcases Rc.dM hs with ⟨e,h'⟩ | ⟨_,hs⟩
  ·have e2:n=1:=by injection h' with h';injection h' with h1 h2;exact h1.symm
   subst e e2
   obtain⟨a,r0,rfl⟩:=fN (r:=r) (by(try simp only[aj]at hn);omega)
   exact⟨[a],_,.sums a,rfl,rfl,.inl ⟨by decide,rfl⟩⟩
  rcases Rc.dM hs with ⟨e,h'⟩ | ⟨_,hs⟩
  ·have e2:n=1:=by injection h' with h';injection h' with h1 h2;exact h1.symm
   subst e e2
   obtain⟨a,r0,rfl⟩:=fN (r:=r) (by(try simp only[aj]at hn);omega)
   exact⟨[a],_,.squares a,rfl,rfl,.inl ⟨by decide,rfl⟩⟩
  rcases Rc.dM hs with ⟨e,h'⟩ | ⟨_,hs⟩
  ·exact absurd (az h') (by intro z;injection z with z1 z2;omega)
  rcases Rc.dM hs with ⟨e,h'⟩ | ⟨_,hs⟩
  ·have e2:n=3:=by injection h' with h';injection h' with h1 h2;exact h1.symm
   subst e e2
   obtain⟨a,r0,rfl⟩:=fN (r:=r) (by(try simp only[aj]at hn);omega)
   obtain⟨b,r1,rfl⟩:=fN (r:=r0) (by(try simp only[aj]at hn);omega)
   obtain⟨c,r2,rfl⟩:=fN (r:=r1) (by(try simp only[aj]at hn);omega)
   exact⟨[a,b,c],_,.value a b c,rfl,rfl,.inl ⟨by decide,rfl⟩⟩
  rcases Rc.dM hs with ⟨e,h'⟩ | ⟨_,hs⟩
  ·have e2:n=3:=by injection h' with h';injection h' with h1 h2;exact h1.symm
   subst e e2
   obtain⟨a,r0,rfl⟩:=fN (r:=r) (by(try simp only[aj]at hn);omega)
   obtain⟨b,r1,rfl⟩:=fN (r:=r0) (by(try simp only[aj]at hn);omega)
   obtain⟨c,r2,rfl⟩:=fN (r:=r1) (by(try simp only[aj]at hn);omega)
   exact⟨[a,b,c],_,.dose a b c,rfl,rfl,.inl ⟨by decide,rfl⟩⟩
  rcases Rc.dM hs with ⟨e,h'⟩ | ⟨_,hs⟩
  ·have e2:n=2:=by injection h' with h';injection h' with h1 h2;exact h1.symm
   subst e e2
   obtain⟨a,r0,rfl⟩:=fN (r:=r) (by(try simp only[aj]at hn);omega)
   obtain⟨b,r1,rfl⟩:=fN (r:=r0) (by(try simp only[aj]at hn);omega)
   exact⟨[a,b],_,.step a b,rfl,rfl,.inl ⟨by decide,rfl⟩⟩
  rcases Rc.dM hs with ⟨e,h'⟩ | ⟨_,hs⟩
  ·have e2:n=2:=by injection h' with h';injection h' with h1 h2;exact h1.symm
   subst e e2
   obtain⟨a,r0,rfl⟩:=fN (r:=r) (by(try simp only[aj]at hn);omega)
   obtain⟨b,r1,rfl⟩:=fN (r:=r0) (by(try simp only[aj]at hn);omega)
   exact⟨[a,b],_,.truth a b,rfl,rfl,.inl ⟨by decide,rfl⟩⟩
  rcases Rc.dM hs with ⟨e,h'⟩ | ⟨_,hs⟩
  ·have e2:n=1:=by injection h' with h';injection h' with h1 h2;exact h1.symm
   subst e e2
   obtain⟨a,r0,rfl⟩:=fN (r:=r) (by(try simp only[aj]at hn);omega)
   exact⟨[a],_,.clash a,rfl,rfl,.inl ⟨by decide,rfl⟩⟩
  rcases Rc.dM hs with ⟨e,h'⟩ | ⟨_,hs⟩
  ·have e2:n=3:=by injection h' with h';injection h' with h1 h2;exact h1.symm
   subst e e2
   obtain⟨a,r0,rfl⟩:=fN (r:=r) (by(try simp only[aj]at hn);omega)
   obtain⟨b,r1,rfl⟩:=fN (r:=r0) (by(try simp only[aj]at hn);omega)
   obtain⟨c,r2,rfl⟩:=fN (r:=r1) (by(try simp only[aj]at hn);omega)
   exact⟨[a,b,c],_,.range a b c,rfl,rfl,.inl ⟨by decide,rfl⟩⟩
  rcases Rc.dM hs with ⟨e,h'⟩ | ⟨_,hs⟩
  ·have e2:n=4:=by injection h' with h';injection h' with h1 h2;exact h1.symm
   subst e e2
   obtain⟨a,r0,rfl⟩:=fN (r:=r) (by(try simp only[aj]at hn);omega)
   obtain⟨b,r1,rfl⟩:=fN (r:=r0) (by(try simp only[aj]at hn);omega)
   obtain⟨c,r2,rfl⟩:=fN (r:=r1) (by(try simp only[aj]at hn);omega)
   obtain⟨d,r3,rfl⟩:=fN (r:=r2) (by(try simp only[aj]at hn);omega)
   exact⟨[a,b,c,d],_,.control a b c d,rfl,rfl,.inl ⟨by decide,rfl⟩⟩
  rcases Rc.dM hs with ⟨e,h'⟩ | ⟨_,hs⟩
  ·have e2:n=1:=by injection h' with h';injection h' with h1 h2;exact h1.symm
   subst e e2
   obtain⟨a,r0,rfl⟩:=fN (r:=r) (by(try simp only[aj]at hn);omega)
   exact⟨[a],_,.clear a,rfl,rfl,.inl ⟨by decide,rfl⟩⟩
  rcases Rc.dM hs with ⟨e,h'⟩ | ⟨_,hs⟩
  ·have e2:n=1:=by injection h' with h';injection h' with h1 h2;exact h1.symm
   subst e e2
   obtain⟨a,r0,rfl⟩:=fN (r:=r) (by(try simp only[aj]at hn);omega)
   exact⟨[a],_,.shift a,rfl,rfl,.inl ⟨by decide,rfl⟩⟩
  rcases Rc.dM hs with ⟨e,h'⟩ | ⟨_,hs⟩
  ·have e2:n=2:=by injection h' with h';injection h' with h1 h2;exact h1.symm
   subst e e2
   obtain⟨a,r0,rfl⟩:=fN (r:=r) (by(try simp only[aj]at hn);omega)
   obtain⟨b,r1,rfl⟩:=fN (r:=r0) (by(try simp only[aj]at hn);omega)
   exact⟨[a,b],_,.gap a b,rfl,rfl,.inl ⟨by decide,rfl⟩⟩
  rcases Rc.dM hs with ⟨e,h'⟩ | ⟨_,hs⟩
  ·have e2:n=1:=by injection h' with h';injection h' with h1 h2;exact h1.symm
   subst e e2
   obtain⟨a,r0,rfl⟩:=fN (r:=r) (by(try simp only[aj]at hn);omega)
   exact⟨[a],_,.tick a,rfl,rfl,.inl ⟨by decide,rfl⟩⟩
  rcases Rc.dM hs with ⟨e,h'⟩ | ⟨_,hs⟩
  ·have e2:n=3:=by injection h' with h';injection h' with h1 h2;exact h1.symm
   subst e e2
   obtain⟨a,r0,rfl⟩:=fN (r:=r) (by(try simp only[aj]at hn);omega)
   obtain⟨b,r1,rfl⟩:=fN (r:=r0) (by(try simp only[aj]at hn);omega)
   obtain⟨c,r2,rfl⟩:=fN (r:=r1) (by(try simp only[aj]at hn);omega)
   exact⟨[a,b,c],_,.read a b c,rfl,rfl,.inl ⟨by decide,rfl⟩⟩
  rcases Rc.dM hs with ⟨e,h'⟩ | ⟨_,hs⟩
  ·have e2:n=1:=by injection h' with h';injection h' with h1 h2;exact h1.symm
   subst e e2
   obtain⟨a,r0,rfl⟩:=fN (r:=r) (by(try simp only[aj]at hn);omega)
   exact⟨[a],_,.shown a,rfl,rfl,.inl ⟨by decide,rfl⟩⟩
  rcases Rc.dM hs with ⟨e,h'⟩ | ⟨_,hs⟩
  ·have e2:n=0:=by injection h' with h';injection h' with h1 h2;exact h1.symm
   subst e e2
   exact⟨[],_,.changed,rfl,rfl,.inl ⟨by decide,rfl⟩⟩
  rcases Rc.dM hs with ⟨e,h'⟩ | ⟨_,hs⟩
  ·have e2:n=3:=by injection h' with h';injection h' with h1 h2;exact h1.symm
   subst e e2
   obtain⟨a,r0,rfl⟩:=fN (r:=r) (by(try simp only[aj]at hn);omega)
   obtain⟨b,r1,rfl⟩:=fN (r:=r0) (by(try simp only[aj]at hn);omega)
   obtain⟨c,r2,rfl⟩:=fN (r:=r1) (by(try simp only[aj]at hn);omega)
   exact⟨[a,b,c],_,.turn a b c,rfl,rfl,.inl ⟨by decide,rfl⟩⟩
  rcases Rc.dM hs with ⟨e,h'⟩ | ⟨_,hs⟩
  ·have e2:n=0:=by injection h' with h';injection h' with h1 h2;exact h1.symm
   subst e e2
   exact⟨[],_,.lots,rfl,rfl,.inl ⟨by decide,rfl⟩⟩
  cases hs
theorem MH{n:Int}:(0≤n/\n<4)↔Vblaaf.isLot n=true:=by
 unfold Vblaaf.isLot
 rw[Rc.d9]
 omega
def named(k:Int)(ns:List Int):List Int:=if k∈[19,21,22,24] then [] else if k=18 then ns.take 2 else ns.take 1
def iB(st:Vblaaf.State)(k:Int):List Int->Option Int
 |[]=>none
 |n::r=>if Vblaaf.isLot n=false then some (-1) else if k≠0/\Vblaaf.lotAt st n=none then some (-2) else iB st k r
theorem gF{st:Vblaaf.State}{k n:Int}(hk:k≠0)(f:Vblaaf.Lot->Vblaaf.State×List Int):(∀e,iB st k [n]=some e->Vblaaf.withLot st n f=(st,[e]))/\(iB st k [n]=none-> ∃l,Vblaaf.lotAt st n=some l):=by
 unfold iB Vblaaf.withLot
 by_cases h1:Vblaaf.isLot n=false
 ·rw[bA h1,bA h1]
  exact⟨fun e h=>by cases h;rfl,fun h=>by cases h⟩
 ·rw[bz h1,bz h1]
  cases h2:Vblaaf.lotAt st n with
  |none=>
   rw[bA ⟨hk,rfl⟩]
   exact⟨fun e h=>by cases h;rfl,fun h=>by cases h⟩
  |some l=>
   rw[bz (by rintro⟨_,z⟩;cases z)]
   exact⟨fun e h=>(by unfold iB at h;cases h),fun _=>⟨l,rfl⟩⟩
theorem Rg{st:Vblaaf.State}{k n m:Int}(hk:k≠0)(f:Vblaaf.Lot->Vblaaf.Lot->Vblaaf.State×List Int):(∀e,iB st k [n,m]=some e->Vblaaf.withLot st n (fun a=>Vblaaf.withLot st m (f a))=(st,[e]))/\(iB st k [n,m]=none->(∃l,Vblaaf.lotAt st n=some l)/\ ∃l,Vblaaf.lotAt st m=some l):=by
 have key:iB st k [n,m]=if Vblaaf.isLot n=false then some (-1) else if k≠0/\Vblaaf.lotAt st n=none then some (-2) else iB st k [m]:=by rw[iB]
 rw[key]
 unfold Vblaaf.withLot
 by_cases h1:Vblaaf.isLot n=false
 ·rw[bA h1,bA h1]
  exact⟨fun e h=>by cases h;rfl,fun h=>by cases h⟩
 ·rw[bz h1,bz h1]
  cases h2:Vblaaf.lotAt st n with
  |none=>
   rw[bA ⟨hk,rfl⟩]
   exact⟨fun e h=>by cases h;rfl,fun h=>by cases h⟩
  |some l=>
   rw[bz (by rintro⟨_,z⟩;cases z)]
   obtain⟨q1,q2⟩:=gF (st:=st) (n:=m) hk (f l)
   exact⟨fun e h=>q1 e h,fun h=>⟨⟨l,rfl⟩,q2 h⟩⟩
theorem Rh{st:Vblaaf.State}{k:Int}{ns:List Int}{c:Vblaaf.Call}(hc:fS k ns c):(∀e,iB st k (named k ns)=some e->Vblaaf.step st c=(st,[e]))/\(iB st k (named k ns)=none->Q5 st c):=by
 cases hc with
 |lot a b=>
  show (∀e,iB st 0 [a]=some e->_)/\(iB st 0 [a]=none->_)
  unfold iB
  show (∀e,_->(if Vblaaf.isLot a=false then (st,[-1]) else _)=_)/\_
  by_cases h1:Vblaaf.isLot a=false
  ·rw[bA h1,bA h1]
   exact⟨fun e h=>by cases h;rfl,fun h=>by cases h⟩
  ·rw[bz h1,bz h1,bz (by rintro⟨z,_⟩;exact z rfl)]
   refine⟨fun e h=>(by unfold iB at h;cases h),fun _=>?_⟩
   have h2:Vblaaf.isLot a=true:=by simpa using h1
   have:=(Rc.d9 _ _ _).mp h2
   exact⟨this.1,this.2⟩
 |point a b c d e=>exact gF (k:=1) (n:=a) (by decide) _
 |unpoint a b=>exact gF (k:=2) (n:=a) (by decide) _
 |points a=>exact gF (k:=3) (n:=a) (by decide) _
 |fit a=>exact gF (k:=4) (n:=a) (by decide) _
 |blocks a=>exact gF (k:=5) (n:=a) (by decide) _
 |sums a=>exact gF (k:=6) (n:=a) (by decide) _
 |squares a=>exact gF (k:=7) (n:=a) (by decide) _
 |trial a m l=>exact gF (k:=8) (n:=a) (by decide) _
 |value a b c=>exact gF (k:=9) (n:=a) (by decide) _
 |dose a b c=>exact gF (k:=10) (n:=a) (by decide) _
 |step a b=>exact gF (k:=11) (n:=a) (by decide) _
 |truth a b=>exact gF (k:=12) (n:=a) (by decide) _
 |clash a=>exact gF (k:=13) (n:=a) (by decide) _
 |range a b c=>exact gF (k:=14) (n:=a) (by decide) _
 |control a b c d=>exact gF (k:=15) (n:=a) (by decide) _
 |clear a=>exact gF (k:=16) (n:=a) (by decide) _
 |shift a=>exact gF (k:=17) (n:=a) (by decide) _
 |gap a b=>exact Rg (k:=18) (n:=a) (m:=b) (by decide) _
 |tick a=>exact⟨fun e h=>(by cases h),fun _=>trivial⟩
 |read a b c=>exact gF (k:=20) (n:=a) (by decide) _
 |shown a=>exact⟨fun e h=>(by cases h),fun _=>trivial⟩
 |changed=>exact⟨fun e h=>(by cases h),fun _=>trivial⟩
 |turn a b c=>exact gF (k:=23) (n:=a) (by decide) _
 |lots=>exact⟨fun e h=>(by cases h),fun _=>trivial⟩
def Ri(A:gY):Sp:=fun vs H Q _=>∃(p dx:Addr),vs=[.ref p]/\H p=some (.ins A.CD dx [])/\ ∀(H':Hp)(d:fT),fJ A H' p d Vblaaf.start->(∀b,Ax p d b->(b=p∨H b=none)/\ ∃o,H' b=some o)->jn p H H'->Q .f6 H'
abbrev xy:Stmt:=inClass (top 155) 0
theorem BF:cT ["self"] ["self"] (cJ xy):=gJ
theorem Jo(T:Txt K mg A)(D:o7 K mg "Desk" "Desk.__init__" A.CD xy ["self"]):GoodC P w K mg base 3 "Desk" A.CD ["self"] (Ri A):=by
 refine D.good BF (fun _ _ _ _ h=>?_) (fun _ _ _ _ _ H _ Q _ hr h=>?_)
 ·obtain⟨p,dx,rfl,_⟩:=h;rfl
 ·obtain⟨p,dx,rfl,hp,k⟩:=h
  have nd:=BF.nd
  refine⟨_,(cg (e8 (pv 0) cN rfl)
    (cg (e8 (pv 0) AS rfl)
    (cE (e8 (pv 0) (dc cz) rfl)))),?_⟩
  refine⟨_,rfl,p,A.CD,dx,_,rfl,hp,T.cD,T.t6,(by show 0<1000;decide),?_⟩
  intro r hr1
  have pr:p≠r:=dj (H:=L2.upd H p (.ins A.CD dx (dX "now" (.int 0) []))) cA hr1
  have hr0:H r=none:=by rw[<-hr1,cV pr.symm]
  refine⟨_,rfl,p,A.CD,dx,_,rfl,(by rw[cV pr];exact cA),T.cD,T.fu,(by show 1<1000;decide),?_⟩
  refine⟨Nat.zero_le _,fun c hc1=>?_⟩
  generalize Rw:L2.upd (L2.upd (L2.upd H p (.ins A.CD dx (dX "now" (.int 0) []))) r (.dK [])) p (.ins A.CD dx (dX "lots" (.ref r) (dX "now" (.int 0) [])))=H3 at*
  have p3:H3 p=some (.ins A.CD dx (dX "lots" (.ref r) (dX "now" (.int 0) []))):=by rw[<-Rw];exact cA
  have r3:H3 r=some (.dK []):=by rw[<-Rw,cV pr.symm];exact cA
  have pc:p≠c:=dj p3 hc1
  have rc:r≠c:=dj r3 hc1
  have hc0:H c=none:=by rw[<-hc1,<-Rw,cV pc.symm,cV rc.symm,cV pc.symm]
  refine⟨_,rfl,p,A.CD,dx,_,rfl,(by rw[cV pc];exact p3),T.cD,T.i8,(by show 2<1000;decide),?_⟩
  refine k _ ⟨r,c,fun _=>none,fun _=>False⟩ ⟨⟨dx,cA⟩,⟨[],[],?_,rfl,List.nodup_nil,by simp,fun n=>rfl⟩,fun n=>.inl ⟨rfl,?_⟩,⟨[],?_,fq.nil⟩,(by intro _ _ _ _ z;cases z),(by intro _ _ _ _ z;cases z),(by intro _ _ z;cases z)⟩ ?_ fun x o ex hx=>?_
  ·show (L2.upd (L2.upd H3 c (.lst [])) p _) r=_
   rw[cV pr.symm,cV rc];exact r3
  ·unfold Vblaaf.lotAt Vblaaf.isLot
   split
   ·rename_i hi
    have:=(Rc.d9 _ _ _).mp hi
    have:n.toNat=0∨n.toNat=1∨n.toNat=2∨n.toNat=3:=by omega
    rcases this with e | e | e | e <;> (rw[e];rfl)
   ·rfl
  ·show (L2.upd (L2.upd H3 c (.lst [])) p _) c=_
   rw[cV pc.symm];exact cA
  ·rintro b (e | e | e | ⟨_,_,e,_⟩ | e)
   ·subst e
    exact⟨.inl rfl,_,cA⟩
   ·have e:b=r:=e
    rw[e]
    refine⟨.inr hr0,.dK [],?_⟩
    show (L2.upd (L2.upd H3 c (.lst [])) p _) r=_
    rw[cV pr.symm,cV rc];exact r3
   ·have e:b=c:=e
    rw[e]
    refine⟨.inr hc0,.lst [],?_⟩
    show (L2.upd (L2.upd H3 c (.lst [])) p _) c=_
    rw[cV pc.symm];exact cA
   ·cases e
   ·exact e.elim
  ·rw[cV hx,cV (dj ex hc0),<-Rw,cV hx,cV (dj ex hr0),cV hx];exact ex
def TY(K:PySem.W.Frag):Sp:=fun vs H Q _=>∃(cl:Addr)(s:Nat)(l:List Int)(p:Int)(c:List (List Int))(t ns:List Int)(vc:Vblaaf.Call),vs=[.ref cl,.int (s:Nat)]/\dG K H cl (l.map V.int)/\Rf (l.drop s) p c t ns vc/\Q (.int ((s+1+ns.length:Nat):Int)) H
theorem Jp{l:List Int}{s i:Nat}{x:Int}(h:(l.drop s)[i]?=some x):(l.map V.int)[s+i]?=some (V.int x):=by
 rw[List.getElem?_drop]at h
 exact E1 h
abbrev AB:Stmt:=top 156
theorem Dq:cT ["calls","start","end"] ["calls","start"] (cJ AB):=gJ
theorem Lg(T:Txt K mg A)(D:Def K mg "call_end" AB ["calls","start"]):Good P w K mg base 3 "call_end" ["calls","start"] (TY K):=by
 refine D.good Dq (fun _ _ _ _ h=>?_) (fun _ _ _ _ _ H _ Q _ hr h=>?_)
 ·obtain⟨cl,s,l,p,c,t,ns,vc,rfl,_⟩:=h;rfl
 ·obtain⟨cl,s,l,p,c,t,ns,vc,rfl,hcl,hh,k⟩:=h
  have e0:(l.drop s)[0]?=some p:=by rw[hh.cut];rfl
  have h0:=Jp e0
  have nd:=Dq.nd
  refine⟨_,(cg (gi 2 nd (dJ iN (dJ iN (pv 1) cN) (Cc T.KG rfl T.KD (dN cW (pv 0) (pv 1) (fun _ _=>rfl)) (fun _ _=>rfl))))
    (cg (dU (dw kZ (dN cW (pv 0) (pv 1) (fun _ _=>rfl)) (dB rfl T.E6) (dQ _)) (cE (gi 2 nd (dJ iN (dJ iN (pv 2) cN) (dN cW (pv 0) (pv 2) (fun _ _=>rfl))))) cY)
    (cE (cM (pv 2))))),?_⟩
  rcases hh.width with ⟨hne,hw⟩ | ⟨rfl,a,m,r,rfl,rfl⟩
  ·refine⟨_,rfl,_,_,rfl,rfl,_,rfl,_,rfl,cl,_,(s:Int),V.int p,rfl,rfl,hcl,kJ h0,p,_,rfl,hw,_,_,rfl,rfl,?_⟩
   have e1:decide (V.int p=V.int 8)=false:=aW (by intro q;injection q with q;exact hne q)
   refine⟨_,rfl,_,rfl,cl,_,(s:Int),V.int p,rfl,rfl,hcl,kJ h0,rfl,_,rfl,?_⟩
   rw[e1]
   refine dR ⟨_,rfl,?_⟩
   have e:((s+1+ns.length:Nat):Int)=(s:Int)+1+((ns.length:Nat):Int):=by omega
   rw[e]at k
   exact k
  ·refine⟨_,rfl,_,_,rfl,rfl,_,rfl,_,rfl,cl,_,(s:Int),V.int 8,rfl,rfl,hcl,kJ h0,8,V.int 1,rfl,rfl,_,_,rfl,rfl,?_⟩
   refine⟨_,rfl,_,rfl,cl,_,(s:Int),V.int 8,rfl,rfl,hcl,kJ h0,rfl,_,rfl,dI ?_⟩
   have e2:(l.drop s)[2]?=some ((r.length:Nat):Int):=by rw[hh.cut];rfl
   have h2:=Jp e2
   have ei:(s:Int)+1+1=((s+2:Nat):Int):=by omega
   refine⟨_,rfl,_,_,rfl,rfl,_,rfl,_,rfl,cl,_,(s:Int)+1+1,V.int ((r.length:Nat):Int),rfl,rfl,hcl,at_of ei h2,_,_,rfl,rfl,?_⟩
   refine⟨_,rfl,?_⟩
   have e:((s+1+(a::((r.length:Nat):Int)::r).length:Nat):Int)=(s:Int)+1+1+1+((r.length:Nat):Int):=by simp only[aj];omega
   rw[e]at k
   exact k
def NP:Sp:=fun vs H Q _=>∃(nl:Addr)(k:Int)(ns:List Int),vs=[.int k,.ref nl]/\iw H nl ns/\ ∀(H':Hp)(p:Addr),iw H' p (named k ns)->cK H H'->Q (.ref p) H'
theorem Lh(ns:List Int)(i:Nat):Em (ns.map V.int) none (some (i:Int))=(ns.take i).map V.int:=by
 rw[Jl,HT.DW,HT.Pn]
 congr 1
 rw[List.drop_zero,Nat.sub_zero]
 by_cases h:i≤ns.length
 ·rw[Nat.min_eq_left h]
 ·rw[Nat.min_eq_right (by omega),aK,List.take_of_length_le (by omega)]
abbrev uD:Stmt:=top 157
theorem zp:cT ["number","numbers"] ["number","numbers"] (cJ uD):=gJ
theorem GH(T:Txt K mg A)(D:Def K mg "lots_named" uD ["number","numbers"]):Good P w K mg base 3 "lots_named" ["number","numbers"] NP:=by
 refine D.good zp (fun _ _ _ _ h=>?_) (fun _ _ _ _ _ H _ Q _ hr h=>?_)
 ·obtain⟨nl,k,ns,rfl,_⟩:=h;rfl
 ·obtain⟨nl,kk,ns,rfl,hnl,k⟩:=h
  unfold named at k
  have nd:=zp.nd
  refine⟨_,(cg (dU (dw rX (pv 0) (dB rfl T.qx) rfl) (cE (cM (dc cz))) cY)
    (cg (dU (dw kZ (pv 0) (dB rfl T.KC) (dQ _)) (cE (cM (AL DX (pv 1) Ia (AK cN)))) cY)
    (cE (cM (AL DX (pv 1) Ia (AK cN)))))),?_⟩
  refine⟨_,rfl,A.i6,_,rfl,.inr (T.nW.sq _),rfl,sE _,_,rfl,?_⟩
  show if R0 (V.int kk) _=true then _ else _
  rw[A4]
  by_cases h1:kk∈([19,21,22,24]:List Int)
  ·rw[aX h1]
   rw[bA h1]at k
   exact dI ⟨Nat.zero_le _,fun p hp=>k _ p cA (cK.upd hp)⟩
  ·rw[aW h1]
   rw[bz h1]at k
   refine dR ⟨_,rfl,rfl,_,rfl,?_⟩
   by_cases h2:kk=18
   ·subst h2
    rw[bA rfl]at k
    refine dI ⟨_,rfl,2,rfl,nl,_,rfl,dG.of hnl,fun p hp=>?_⟩
    have e:=Lh ns 2
    have e:Em (ns.map V.int) none (some 2)=(ns.take 2).map V.int:=e
    rw[e]
    exact k _ p cA (cK.upd hp)
   ·have e1:decide (V.int kk=V.int 18)=false:=aW (by intro q;injection q with q;exact h2 q)
    rw[e1]
    rw[bz h2]at k
    refine dR ⟨_,rfl,1,rfl,nl,_,rfl,dG.of hnl,fun p hp=>?_⟩
    have e:=Lh ns 1
    have e:Em (ns.map V.int) none (some 1)=(ns.take 1).map V.int:=e
    rw[e]
    exact k _ p cA (cK.upd hp)
def Li(A:gY):Sp:=fun vs H Q _=>∃(dk nl:Addr)(d:fT)(st:Vblaaf.State)(k:Int)(ns:List Int),vs=[.ref dk,.int k,.ref nl]/\fJ A H dk d st/\iw H nl ns/\ ∀H':Hp,cK H H'->Q (oV (iB st k (named k ns))) H'
abbrev rQ:Stmt:=top 158
theorem xA:cT ["desk","number","numbers","lot_number"] ["desk","number","numbers"] (cJ rQ):=gJ
theorem FZ(T:Txt K mg A)(D:Def K mg "lot_refusal" rQ ["desk","number","numbers"])(uE:Good P w K mg base 3 "lots_named" ["number","numbers"] NP):Good P w K mg base 4 "lot_refusal" ["desk","number","numbers"] (Li A):=by
 refine D.good xA (fun _ _ _ _ h=>?_) (fun _ _ _ _ _ H _ Q _ hr h=>?_)
 ·obtain⟨dk,nl,d,st,k,ns,rfl,_⟩:=h;rfl
 ·obtain⟨dk,nl,d,st,kk,ns,rfl,hD,hnl,k⟩:=h
  obtain⟨jm,jV⟩:=hD.yw
  have nd:=xA.nd
  have hu:=iX hr
  refine⟨_,(cg (iJ PassesOwn.never rfl (fL (dF uE hr (b9 (pv 1) (b9 (pv 2) cz)))) (qu 3 nd) (cg (dU (gQ (oU gU vA cN (pv 3) (dB rfl T.Cj))) (cE (cM (dB rfl T.yH))) cY)
     (cE (dU (PW.pt (Lr (dw Pc (pv 1) (dB rfl T.KA) (dQ _)) (HY (O8 (Od hu (pv 3) (cH (pv 0) rfl)))))) (cE (cM (dB rfl T.Hz))) cY))))
    (cE (cM fK))),?_⟩
  refine⟨_,rfl,_,rfl,nl,kk,ns,rfl,hnl,fun H1 S hS s1=>?_⟩
  generalize hms:named kk ns=ms at*
  refine⟨S,rfl,⟨_,dG.of hS⟩,j8 (K:=K) (a:=S) (xs:=ms.map V.int) (fun i σ H'=>∃v3:Option V,σ=[some (.ref dk),some (.int kk),some (.ref nl),v3]/\H'=H1/\iB st kk ms=iB st kk (ms.drop i)) ⟨none,rfl,rfl,rfl⟩ (fun i σ H' _ ⟨_,_,e,_⟩=>by rw[e];exact dG.of hS) ?_ ?_⟩
  ·rintro i y σ H' hy ⟨v3,rfl,rfl,hrest⟩
   obtain⟨n,hn,rfl⟩:=int_at hy
   have hd:ms.drop i=n::ms.drop (i+1):=by
    obtain⟨h1,h2⟩:=af.mp hn
    rw[List.drop_eq_getElem_cons h1,h2]
   rw[hd,iB]at hrest
   refine⟨_,rfl,_,_,rfl,rfl,_,rfl,?_⟩
   by_cases h1:0≤n
   rotate_left
   ·have hb:Vblaaf.isLot n=false:=by
     cases e:Vblaaf.isLot n with
     |false=>rfl
     |true=>exact absurd (MH.mpr e).1 h1
    rw[bA hb]at hrest
    rw[hrest]at k
    rw[aW h1]
    exact dR ⟨_,rfl,dI (k H' s1)⟩
   rw[aX h1]
   refine dI ⟨_,_,rfl,rfl,_,rfl,?_⟩
   by_cases h2:n<4
   rotate_left
   ·have hb:Vblaaf.isLot n=false:=by
     cases e:Vblaaf.isLot n with
     |false=>rfl
     |true=>exact absurd (MH.mpr e).2 h2
    rw[bA hb]at hrest
    rw[hrest]at k
    rw[aW h2]
    exact dI (k H' s1)
   rw[aX h2]
   have hb:¬Vblaaf.isLot n=false:=by rw[MH.mp ⟨h1,h2⟩];decide
   rw[bz hb]at hrest
   refine dR ⟨_,rfl,rfl,_,rfl,?_⟩
   by_cases h3:kk=0
   ·subst h3
    rw[bz (by rintro⟨z,_⟩;exact z rfl)]at hrest
    exact dR (dR ⟨_,rfl,rfl,hrest⟩)
   ·have e1:(!decide (V.int kk=V.int 0))=true:=by rw[aW (by intro q;injection q with q;exact h3 q)];rfl
    rw[e1]
    obtain⟨kvs,ns',ed,_,_,_,ev⟩:=(hD.same s1).dict.ex
    refine dI ⟨_,rfl,_,rfl,dk,A.CD,jm,_,_,rfl,s1 _ _ jV,T.cD,T.fu,fc _,d.eV,_,rfl,nE.k (k:=Sum.inl n) ed,_,rfl,?_⟩
    rw[ev]
    rcases hD.lots n with ⟨e2,e3⟩ | ⟨r,l,e2,e3,_⟩
    ·rw[e2]
     rw[bA ⟨h3,e3⟩]at hrest
     rw[hrest]at k
     exact dI (k H' s1)
    ·rw[e2]
     rw[bz (by rintro⟨_,z⟩;rw[e3]at z;cases z)]at hrest
     exact dR ⟨_,rfl,rfl,hrest⟩
  ·rintro σ H' ⟨v3,rfl,rfl,hrest⟩
   rw[aa,List.drop_length,iB]at hrest
   rw[hrest]at k
   exact k H' s1
def Rj(A:gY):Sp:=fun vs H Q _=>∃(dk nl:Addr)(d:fT)(st:Vblaaf.State)(k:Int)(ns:List Int)(c:Vblaaf.Call),vs=[.ref dk,.int k,.ref nl]/\fJ A H dk d st/\Rc.je st/\iw H nl ns/\ns.length≤16000/\fS k ns c/\
 ∀(H':Hp)(p:Addr)(d':fT),Left A H dk d (Vblaaf.step st c) H' p d'->Q (.ref p) H'
theorem call_k{k:Int}{ns:List Int}{c:Vblaaf.Call}(h:fS k ns c):0≤k/\k≤24:=by cases h <;> decide
theorem Left.from{H H1 H':Hp}{dk p:Addr}{d d':fT}{o:Vblaaf.State×List Int}(s:cK H H1)(h:Left A H1 dk d o H' p d'):Left A H dk d o H' p d':=
 ⟨h.yw,h.told,fun b u e hb=>h.keep b u (s _ _ e) hb,fun b hb=>(h.new b hb).imp id fun e=>s.free e⟩
abbrev rR:Stmt:=top 159
theorem xB:cT ["desk","number","numbers","refusal"] ["desk","number","numbers"] (cJ rR):=gJ
theorem F0(T:Txt K mg A)(D:Def K mg "answer_call" rR ["desk","number","numbers"])(rS:Good P w K mg base 4 "lot_refusal" ["desk","number","numbers"] (Li A))(lT:Good P w K mg base 7 "answer_lot_call" ["desk","number","numbers"] (zl A [0,1,2,3,15,16,23,24]))(j6:Good P w K mg base 11 "answer_curve_call" ["desk","number","numbers"] (zl A [4,5,6,7,8]))(kY:Good P w K mg base 11 "answer_line_call" ["desk","number","numbers"] (zl A [9,10,11,17,18]))(j7:Good P w K mg base 7 "answer_truth_call" ["desk","number","numbers"] (zl A [12,13,14]))(jO:Good P w K mg base 14 "answer_result_call" ["desk","number","numbers"] (zl A [19,20,21,22])):Good P w K mg base 15 "answer_call" ["desk","number","numbers"] (Rj A):=by
 refine D.good xB (fun _ _ _ _ h=>?_) (fun _ _ _ _ _ H _ Q _ hr h=>?_)
 ·obtain⟨dk,nl,d,st,k,ns,c,rfl,_⟩:=h;rfl
 ·obtain⟨dk,nl,d,st,kk,ns,c,rfl,hD,g,hnl,lF,hc,k⟩:=h
  obtain⟨no,yes⟩:=Rh (st:=st) hc
  obtain⟨k0,k24⟩:=call_k hc
  have nd:=xB.nd
  refine⟨_,(cg (gi 3 nd (dF rS hr (b9 (pv 0) (b9 (pv 1) (b9 (pv 2) cz)))))
    (cg (dU (dw xV (pv 3) fK (dQ _)) (cE (cM (dc (b9 (pv 3) cz)))) cY)
    (cg (dU (dw rX (pv 1) (dB rfl T.C8) rfl) (cE (cM (dF j6 hr (b9 (pv 0) (b9 (pv 1) (b9 (pv 2) cz)))))) cY)
    (cg (dU (dw rX (pv 1) (dB rfl T.E7) rfl) (cE (cM (dF kY hr (b9 (pv 0) (b9 (pv 1) (b9 (pv 2) cz)))))) cY)
    (cg (dU (dw rX (pv 1) (dB rfl T.C9) rfl) (cE (cM (dF j7 hr (b9 (pv 0) (b9 (pv 1) (b9 (pv 2) cz)))))) cY)
    (cg (dU (dw rX (pv 1) (dB rfl T.Bk) rfl) (cE (cM (dF jO hr (b9 (pv 0) (b9 (pv 1) (b9 (pv 2) cz)))))) cY)
    (cE (cM (dF lT hr (b9 (pv 0) (b9 (pv 1) (b9 (pv 2) cz)))))))))))),?_⟩
  refine⟨_,rfl,_,rfl,_,rfl,dk,nl,d,st,kk,ns,rfl,hD,hnl,fun H1 s1=>?_⟩
  cases href:iB st kk (named kk ns)with
  |some e=>exact⟨_,rfl,rfl,_,rfl,dI ⟨_,rfl,dH fun p hp s=>k _ p d (.same hD (s1.trans s) hp (no e href))⟩⟩
  |none=>
  have ht:=yes href
  have O4:=hD.same s1
  have MF:=hnl.same s1
  have k1:∀(H':Hp)(p:Addr)(d':fT),Left A H1 dk d (Vblaaf.step st c) H' p d'->Q (.ref p) H':=fun H' p d' h=>k H' p d' (.from s1 h)
  refine⟨_,rfl,rfl,_,rfl,dR ?_⟩
  refine⟨_,rfl,A.n9,_,rfl,.inr (T.yR.sq _),rfl,sE _,_,rfl,?_⟩
  show if R0 (V.int kk) _=true then _ else _
  rw[A4]
  by_cases MI:kk∈([4,5,6,7,8]:List Int)
  ·rw[aX MI]
   exact dI ⟨_,rfl,_,rfl,_,rfl,dk,nl,d,st,kk,ns,c,rfl,MI,O4,g,MF,lF,hc,ht,k1⟩
  rw[aW MI]
  refine dR ?_
  refine⟨_,rfl,A.qv,_,rfl,.inr (T.Bj.sq _),rfl,sE _,_,rfl,?_⟩
  show if R0 (V.int kk) _=true then _ else _
  rw[A4]
  by_cases hline:kk∈([9,10,11,17,18]:List Int)
  ·rw[aX hline]
   exact dI ⟨_,rfl,_,rfl,_,rfl,dk,nl,d,st,kk,ns,c,rfl,hline,O4,g,MF,lF,hc,ht,k1⟩
  rw[aW hline]
  refine dR ?_
  refine⟨_,rfl,A.oh,_,rfl,.inr (T.yS.sq _),rfl,sE _,_,rfl,?_⟩
  show if R0 (V.int kk) _=true then _ else _
  rw[A4]
  by_cases MJ:kk∈([12,13,14]:List Int)
  ·rw[aX MJ]
   exact dI ⟨_,rfl,_,rfl,_,rfl,dk,nl,d,st,kk,ns,c,rfl,MJ,O4,g,MF,lF,hc,ht,k1⟩
  rw[aW MJ]
  refine dR ?_
  refine⟨_,rfl,A.mT,_,rfl,.inr (T.wC.sq _),rfl,sE _,_,rfl,?_⟩
  show if R0 (V.int kk) _=true then _ else _
  rw[A4]
  by_cases Jq:kk∈([19,20,21,22]:List Int)
  ·rw[aX Jq]
   exact dI ⟨_,rfl,_,rfl,_,rfl,dk,nl,d,st,kk,ns,c,rfl,Jq,O4,g,MF,lF,hc,ht,k1⟩
  rw[aW Jq]
  refine dR ?_
  refine⟨_,rfl,_,rfl,_,rfl,dk,nl,d,st,kk,ns,c,rfl,?_,O4,g,MF,lF,hc,ht,k1⟩
  simp only[aB,bR,or_false]at*
  omega
theorem fJ.off{H H':Hp}{dk x:Addr}{d:fT}{st:Vblaaf.State}{u:HO}(h:fJ A H dk d st)(nf:¬Ax dk d x)(hx:H x=some u)(b:jn x H H')(u1:∀C dx fs,u≠ .ins C dx fs:=by intro _ _ _ z;cases z):fJ A H' dk d st:=by
 have kI:∀{a C dx:Addr}{fs:List (Str×V)},H a=some (.ins C dx fs)->H' a=some (.ins C dx fs):=fun e=>b _ _ e (e9 e hx (fun z=>u1 _ _ _ z.symm))
 refine⟨?_,?_,fun n=>?_,?_,h.FH,h.FI,h.Jj⟩
 ·obtain⟨dx,e⟩:=h.yw
  exact⟨dx,kI e⟩
 ·obtain⟨kvs,ns,e1,e2⟩:=h.dict.ex
  exact⟨kvs,ns,b _ _ e1 (fun z=>nf (.inr (.inl z.symm))),e2⟩
 ·rcases h.lots n with q | ⟨r,l,e1,e2,⟨dx,e3⟩,⟨rs,e4,e5⟩,⟨cs,e6,e7⟩⟩
  ·exact .inl q
  ·refine .inr ⟨r,l,e1,e2,⟨dx,kI e3⟩,⟨rs,b _ _ e4 ?_,e5.imp fun _ _ ⟨dx,q⟩=>⟨dx,kI q⟩⟩,⟨cs,b _ _ e6 ?_,e7.imp fun _ _ ⟨dx,q⟩=>⟨dx,kI q⟩⟩⟩
   ·intro z;exact nf (.inr (.inr (.inr (.inl ⟨n,r,e1,.inr (.inl z.symm)⟩))))
   ·intro z;exact nf (.inr (.inr (.inr (.inl ⟨n,r,e1,.inr (.inr z.symm)⟩))))
 ·obtain⟨as,e1,e2⟩:=h.results
  refine⟨as,b _ _ e1 ?_,e2.imp fun _ _ ⟨q,h0,⟨dx,e⟩,hq⟩=>⟨q,h0,⟨dx,kI e⟩,b _ _ hq ?_⟩⟩
  ·intro z;exact nf (.inr (.inr (.inl z.symm)))
  ·intro z;exact nf (.inr (.inr (.inr (.inr (z▸h0)))))
theorem eK{st:Vblaaf.State}{n:Int}{f:Vblaaf.Lot->Vblaaf.State×List Int}{m:Nat}(hm:1≤m)(h:∀l,Vblaaf.lotAt st n=some l->(f l).2.length≤m):(Vblaaf.withLot st n f).2.length≤m:=by
 unfold Vblaaf.withLot
 split
 ·exact hm
 ·split
  ·exact hm
  ·rename_i l hl;exact h l hl
theorem CK(f:Vblaaf.Found):(Vblaaf.foundRow f).length≤5:=by cases f <;> (simp[Vblaaf.foundRow,Vblaaf.pair])
theorem Rk{st:Vblaaf.State}(g:Rc.je st)(c:Vblaaf.Call):(Vblaaf.step st c).2.length≤242:=by
 have one:∀{s:Vblaaf.State}{n:Int},(s,[n]).2.length≤242:=fun{s n}=>(by show 1≤242;decide)
 have fl:∀o,(Vblaaf.flagged o).length=3:=fun o=>by cases o <;> rfl
 have fi:∀o,(Vblaaf.flagInt o).length=2:=fun o=>by cases o <;> rfl
 cases c with
 |lot n e=>dsimp only[Vblaaf.step];split;exact one;split <;> exact one
 |point n x y w d=>exact eK (by decide) fun l hl=>by(try dsimp only);split;exact one;split <;> exact one
 |unpoint n k=>exact eK (by decide) fun l hl=>by(try dsimp only);split <;> exact one
 |points n=>
  refine eK (by decide) fun l hl=>?_
  have:=jM (f:=fun p:Point=>[p.dose,p.response,p.weight,p.bound]) (m:=4) (fun x=>aA _) l.points
  have:=(Rc.eX g hl).ps.len
  show ([0,(l.points.length:Int)]++_).length≤242
  rw[ao]
  show 2+_≤242
  omega
 |fit n=>
  refine eK (by decide) fun l hl=>?_
  try dsimp only
  split
  ·exact one
  ·have:=jM (f:=fun k:Knot=>k.1::Vblaaf.pair k.2) (m:=3) (fun x=>aA _) (Vblaaf.curve l.points)
   have h1:=Rc.fF l.points
   have h2:=Rc.fh l.points
   have:=(Rc.eX g hl).ps.len
   show ([0,((Vblaaf.curve l.points).length:Int)]++_).length≤242
   rw[ao]
   show 2+_≤242
   omega
 |blocks n=>
  refine eK (by decide) fun l hl=>?_
  try dsimp only
  split
  ·exact one
  ·have:=jM (f:=fun x:Block=>[x.first,x.last,(x.doses:Int),x.weight]++Vblaaf.pair (mean x)) (m:=6) BA (Vblaaf.blocks l.points)
   have:=Cp (Rc.eX g hl).ps
   show ([0,((Vblaaf.blocks l.points).length:Int)]++_).length≤242
   rw[ao]
   show 2+_≤242
   omega
 |sums n=>
  refine eK (by decide) fun l hl=>?_
  try dsimp only
  split
  ·exact one
  ·have:=jM (f:=Vblaaf.pair) (m:=2) (fun x=>aA _) (Vblaaf.above l.points)
   have:(Vblaaf.above l.points).length≤40:=by rw[Rc.EJ,aa,List.length_range];exact aS (Rc.fh _) (Rc.eX g hl).ps.len
   show ([0,((Vblaaf.above l.points).length:Int)]++_).length≤242
   rw[ao]
   show 2+_≤242
   omega
 |squares n=>exact eK (by decide) fun l hl=>by(try dsimp only);split;exact one;exact(by show 2≤242;decide)
 |trial n v=>exact eK (by decide) fun l hl=>by(try dsimp only);split;exact one;split;exact one;exact(by show 2≤242;decide)
 |value n a b=>exact eK (by decide) fun l hl=>by(try dsimp only);split;exact one;split;exact one;split;exact one;exact(by show 3≤242;decide)
 |dose n a b=>exact eK (by decide) fun l hl=>by(try dsimp only);split;exact one;split;exact one;exact aS (CK _) (by decide)
 |step n x=>
  refine eK (by decide) fun l hl=>?_
  try dsimp only
  split
  ·exact one
  ·split
   ·exact one
   ·show (0::(_++_)).length≤242
    rw[aj,ao,fl,fl];decide
 |truth n x=>
  refine eK (by decide) fun l hl=>?_
  try dsimp only
  split
  ·exact one
  ·split
   ·exact one
   ·split
    ·exact one
    ·show (0::(_++_)).length≤242
     rw[aj,ao,fi,fi];decide
 |clash n=>exact eK (by decide) fun l hl=>by(try dsimp only);split;exact one;split;exact one;exact(by show 3≤242;decide)
 |range n lo hi=>exact eK (by decide) fun l hl=>by(try dsimp only);split;exact one;split;exact one;split;exact one;split;exact one;exact(by show 2≤242;decide)
 |control n x y w=>exact eK (by decide) fun l hl=>by(try dsimp only);split;exact one;split <;> exact one
 |clear n=>exact eK (by decide) fun l hl=>one
 |shift n=>exact eK (by decide) fun l hl=>by(try dsimp only);split;exact one;split;exact one;exact(by show 3≤242;decide)
 |gap n m=>exact eK (by decide) fun l hl=>eK (by decide) fun l' hl'=>by(try dsimp only);split;exact one;split;exact one;exact(by show 3≤242;decide)
 |tick k=>dsimp only[Vblaaf.step];split;exact one;split <;> exact one
 |read n r c=>
  refine eK (by decide) fun l hl=>?_
  try dsimp only
  split
  ·exact one
  ·split
   ·exact one
   ·split
    ·exact one
    ·split
     ·exact one
     ·rename_i f _ _ _
      have:=CK f
      show (_::Vblaaf.foundRow f).length≤242
      rw[aj];omega
 |shown i=>
  dsimp only[Vblaaf.step]
  split
  ·exact one
  ·rename_i r _
   have:=CK r.told
   show ([r.time,(r.lot:Int),r.response,if r.shifted=true then 1 else 0]++_).length≤242
   rw[ao]
   show 4+_≤242
   omega
 |changed=>
  have h1:=mz st st.results
  have h2:=g.rl
  unfold fO at h1
  rw[aa]at h1
  show (0::Vblaaf.row _).length≤242
  unfold Vblaaf.row
  rw[aj,aj,aa]
  omega
 |turn n a b=>exact eK (by decide) fun l hl=>by(try dsimp only);split;exact one;split <;> exact one
 |lots=>
  rw[Lf]
  have:=jM (f:=CJ) (m:=4) FQ st.lots
  have:=g.len
  show ([0,st.now]++_).length≤242
  rw[ao]
  show 2+_≤242
  omega
def yt(K:PySem.W.Frag):Sp:=fun vs H Q _=>∃(a:Addr)(l:List Int),vs=[.ref a]/\dG K H a (l.map V.int)/\l.length≤16000/\PyVblaaf.answers_asked l=true/\ ∀(H':Hp)(p:Addr),iw H' p (PyVblaaf.answers l)->Q (.ref p) H'
def W5(i:Nat)(σ:L2.St):Nat:=match σ[i]? with | some (some (V.int y))=>y.toNat | _=>0
theorem Lj{H H':Hp}{a:Addr}{xs:List V}(s:cK H H')(h:dG K H a xs):dG K H' a xs:=s.seq h
abbrev CM:Stmt:=top 160
theorem F1:cT ["calls","desk","answered","start","end","answer"] ["calls"] (cJ CM):=gJ
theorem MK(T:Txt K mg A){f:Addr}{fd:FuncData}(F:Ti K "answers" "answers" CM f fd)(ML:GoodC P w K mg base 3 "Desk" A.CD ["self"] (Ri A))(AD:Good P w K mg base 3 "call_end" ["calls","start"] (TY K))(rT:Good P w K mg base 15 "answer_call" ["desk","number","numbers"] (Rj A)):yu P w K mg base Js 16 f fd ["calls"] (yt K):=by
 refine F.ok F1 (fun _ _ _ _ h=>?_) (fun _ _ _ _ H _ Q _ hr h=>?_)
 ·obtain⟨a,l,rfl,_⟩:=h;rfl
 ·obtain⟨a,l,rfl,hsq,l16,Vg,k⟩:=h
  obtain⟨cs,hcs,aas,hall⟩:=Rc.P1 Vg
  rw[Rc.LO hcs]at k
  have nd:=F1.nd
  refine⟨_,(cg (gi 1 nd (OD ML (hr.mono (by decide)) rfl))
    (cg (gi 2 nd (dc cz))
    (cg (tN (i:=3) nd rfl (Or.inl rfl) cN)
    (cg (Ek PassesOwn.never (dw vA (pv 3) (dD cX (by rfl) T.len aG (b9 (pv 0) cz)) (dQ _)) (cg (gi 4 nd (dF AD hr (b9 (pv 0) (b9 (pv 3) cz))))
     (cg (M1 (gi 5 nd (dF rT hr (b9 (pv 1) (b9 (dN cW (pv 0) (pv 3) (fun _ _=>rfl)) (b9 (AL DX (pv 0) (AK (dJ iN (pv 3) cN)) (AK (pv 4))) cz))))))
     (cg (iL (nV aP PySem.F.slot_list_append PySem.F.type_list_append k8 (pv 2) (b9 (dD cX (by rfl) T.len aG (b9 (pv 5) cz)) cz)))
     (cg (iL (nV aP PySem.F.slot_list_extend PySem.F.type_list_extend lW (pv 2) (b9 (pv 5) cz)))
     (cE (gi 3 nd (pv 4))))))))
    (cE (cM (pv 2))))))),?_⟩
  intro dk jm nx kK _
  refine⟨dk,jm,rfl,cA,fun H1 d hD hf kp=>⟨rfl,?_⟩⟩
  have s1:cK H H1:=cK.made nx kK kp
  have SN:∀b,Ax dk d b->H b=none:=fun b hb=>(hf b hb).1.elim (fun e=>e▸nx) fun e=>(iH nx kK).free e
  refine⟨Nat.zero_le _,fun lU S2=>?_⟩
  have s2:cK H1 (L2.upd H1 lU (.lst [])):=cK.upd S2
  have Rm:H lU=none:=s1.free S2
  have W6:¬Ax dk d lU:=fun hb=>by
   obtain⟨_,o,e⟩:=hf lU hb
   rw[e]at S2;cases S2
  refine ES (fun σ H'=>∃(v4 v5:Option V)(s f:Nat)(st:Vblaaf.State)(d:fT)(rest:List (List (List Int)))(done:List Int),σ=[some (.ref a),some (.ref dk),some (.ref lU),some (.int (s:Nat)),v4,v5]/\cK H H'/\fJ A H' dk d st/\Rc.je st/\(∀b,Ax dk d b->H b=none)/\ ¬Ax dk d lU/\iw H' lU done/\s≤l.length/\
    PyFlat.calls PyVblaaf.shape f (l.drop s)=some rest/\done++PyFlat.told (PyFlat.played VblaafNeutral.step st rest)=PyFlat.told (PyFlat.played VblaafNeutral.step VblaafNeutral.start cs)/\done.length+243*rest.length≤97200) (fun σ _=>l.length-W5 3 σ)
   ⟨none,none,0,l.length,Vblaaf.start,d,cs,[],rfl,s1.trans s2,hD.same s2,Rc.LX,SN,W6,cA,Nat.zero_le _,hcs,rfl,by simp only[List.length_nil];omega⟩ ?_
  rintro σ H' ⟨v4,v5,s,f,st,d,rest,done,rfl,s0,hD,g,hf,nf,Rn,hsl,hrest,Vh,hsz⟩
  have W7:=Lj s0 hsq
  refine⟨_,rfl,_,rfl,a,_,rfl,.inl W7,_,_,rfl,rfl,_,rfl,?_⟩
  rw[aa]
  by_cases hlt:s<l.length
  rotate_left
  ·rw[aW (by omega)]
   have e0:l.drop s=[]:=List.drop_of_length_le (by omega)
   rw[e0]at hrest
   have e1:=Rc.Ow hrest
   subst e1
   have e2:PyFlat.told (PyFlat.played VblaafNeutral.step st [])=[]:=rfl
   rw[e2,List.append_nil]at Vh
   rw[<-Vh]at k
   exact dR ⟨_,rfl,k H' lU Rn⟩
  rw[aX (by omega)]
  refine dI (ID ?_)
  obtain⟨p,r,Ww⟩:∃p r,l.drop s=p::r:=by
   cases h:l.drop s with
   |nil=>have:=congrArg List.length h;rw[List.length_drop]at this;simp at this;omega
   |cons p r=>exact⟨p,r,rfl⟩
  rw[Ww]at hrest
  obtain⟨f',c,t,cs',hcall,UW,rfl⟩:=Rc.LN hrest
  obtain⟨ns,vc,hh⟩:=S1 (Rc.Sg hcall)
  rw[<-Ww]at hh
  have W8:l.drop (s+1)=ns++t:=by
   rw[<-List.drop_drop,hh.cut];rfl
  have hlen:l.length=s+1+ns.length+t.length:=by
   have:=congrArg List.length hh.cut
   rw[List.length_drop,aj,ao]at this
   omega
  have h0:(l.map V.int)[s]?=some (V.int p):=by
   have:=Jp (l:=l) (s:=s) (i:=0) (x:=p) (by rw[hh.cut];rfl)
   exact this
  refine⟨_,rfl,_,rfl,a,s,l,p,c,t,ns,vc,rfl,W7,hh,?_⟩
  refine⟨lU,.lst (done.map V.int),Rn,trivial,fun od=>?_⟩
  have bl:jn lU H' (L2.upd H' lU (.oR od (.lst (done.map V.int)))):=jn.upd
  have SO:=hD.off nf Rn bl
  have sl:cK H (L2.upd H' lU (.oR od (.lst (done.map V.int)))):=fun b o e=>bl _ _ (s0 _ _ e) (dj e Rm)
  have hal:(L2.upd H' lU (.oR od (.lst (done.map V.int)))) lU=some (.oR od (.lst (done.map V.int))):=cA
  revert SO sl hal
  generalize L2.upd H' lU (.oR od (.lst (done.map V.int)))=Hl
  intro SO sl hal
  have W9:=Lj sl hsq
  refine⟨_,rfl,_,rfl,_,rfl,a,_,(s:Int),V.int p,rfl,rfl,W9,kJ h0,_,rfl,_,rfl,_,_,rfl,rfl,_,rfl,_,rfl,_,rfl,a,_,rfl,W9,fun nl hnl=>?_⟩
  have Va:Em (l.map V.int) (some ((s:Int)+1)) (some ((s+1+ns.length:Nat):Int))=ns.map V.int:=by
   have e1:(s:Int)+1=((s+1:Nat):Int):=by omega
   rw[Jl,e1,HT.DW,HT.DW,Nat.min_eq_left (by omega),Nat.min_eq_left (by omega),W8]
   congr 1
   have e2:s+1+ns.length-(s+1)=ns.length:=by omega
   rw[e2,List.take_left']
   rfl
  rw[Va]
  have sn:=cK.upd (o:=.lst (ns.map V.int)) hnl
  refine⟨dk,nl,d,st,p,ns,vc,rfl,SO.same sn,g,cA,by omega,hh.is,fun VB q d' hL=>?_⟩
  have Xa:VblaafNeutral.step st c=Vblaaf.step st vc:=by
   unfold VblaafNeutral.step
   rw[hh.call]
  have hdn:=sn _ _ hal
  have Vi:=hL.keep _ _ hdn nf
  have s2a:cK H VB:=fun b o e=>hL.keep _ _ (sn _ _ (sl _ _ e)) fun hb=>by rw[hf b hb]at e;cases e
  have XI:¬Ax dk d' lU:=fun hb=>(hL.new lU hb).elim nf fun e=>by rw[hdn]at e;cases e
  have hf':∀b,Ax dk d' b->H b=none:=fun b hb=>(hL.new b hb).elim (hf b) fun e=>(sl.trans sn).free e
  have neq:q≠lU:=e9 hL.told Vi (by intro z;cases z)
  refine⟨Vi,?_⟩
  have b2:jn lU VB (L2.upd VB lU (.lst (done.map V.int))):=jn.upd
  have yY:=hL.yw.off XI Vi b2
  have hq:=b2 _ _ hL.told neq
  have s2':cK H (L2.upd VB lU (.lst (done.map V.int))):=fun b o e=>b2 _ _ (s2a _ _ e) (dj e Rm)
  have hd2:iw (L2.upd VB lU (.lst (done.map V.int))) lU done:=cA
  revert yY hq s2' hd2
  generalize L2.upd VB lU (.lst (done.map V.int))=H2
  intro yY hq s2' hd2
  have hle:=Rk g vc
  have hcl:(c::cs').length=cs'.length+1:=rfl
  rw[hcl]at hsz
  refine⟨_,rfl,.inl ⟨rfl,_,dG.of hd2⟩,_,rfl,q,_,rfl,.inl (dG.of hq),lU,_,_,rfl,rfl,hd2,dO (by rw[aa];omega),?_⟩
  have b3:jn lU H2 (L2.upd H2 lU (.lst (done.map V.int++[.int ((((Vblaaf.step st vc).2.map V.int).length:Nat):Int)]))):=jn.upd
  have UX:=yY.off XI hd2 b3
  have RA:=b3 _ _ hq neq
  refine⟨_,rfl,.inl ⟨rfl,_,dG.of cA⟩,_,rfl,lU,q,_,_,rfl,rfl,cA,RA,eL (by simp only[ao,aa,List.length_singleton];omega),?_⟩
  have b4:=jn.upd (p:=lU) (H:=L2.upd H2 lU (.lst (done.map V.int++[.int ((((Vblaaf.step st vc).2.map V.int).length:Nat):Int)]))) (o:=.lst (done.map V.int++[.int ((((Vblaaf.step st vc).2.map V.int).length:Nat):Int)]++(Vblaaf.step st vc).2.map V.int))
  have RB:=UX.off XI cA b4
  refine⟨_,rfl,?_⟩
  refine⟨⟨_,_,s+1+ns.length,f',(Vblaaf.step st vc).1,d',cs',done++(((Vblaaf.step st vc).2.length:Int)::(Vblaaf.step st vc).2),rfl,fun b o e=>?_,RB,Rc.OB g vc,hf',XI,?_,by omega,?_,?_,?_⟩,?_⟩
  ·have ne:b≠lU:=dj e Rm
   exact b4 _ _ (b3 _ _ (s2' _ _ e) ne) ne
  ·show (L2.upd _ lU _) lU=_
   rw[cA,aa]
   simp
  ·have e:l.drop (s+1+ns.length)=t:=by rw[<-List.drop_drop,W8,List.drop_left'];rfl
   rw[e]
   exact UW
  ·rw[<-Vh,Rc.J9,Rc.Oz,Xa]
   simp
  ·simp only[ao,aj]
   omega
  ·show l.length-((s+1+ns.length:Nat):Int).toNat<l.length-((s:Nat):Int).toNat
   rw[bw,bw]
   omega
end
end Rv
namespace Rv
open PySem PySem.Spec PyProof.Rows L2
open Vblaaf (Frac Point Block Knot lowest whole plus minus times over less mean)
open Rc (Ok Sz)
structure Defs(K:PySem.W.Frag)(mg:Str->Option Value)(A:gY):Prop where
 sY:Def K mg "common_divisor" l5 ["one","other"]
 vd:o7 K mg "Fraction" "Fraction.__init__" A.CF nI ["self","top","bottom"]
 NQ:Def K mg "whole" IP ["number"]
 Ro:Def K mg "plus" Mm ["one","other"]
 NR:Def K mg "minus" IQ ["one","other"]
 NS:Def K mg "times" IS ["one","other"]
 Rp:Def K mg "over" Mn ["one","other"]
 Rq:Def K mg "less" Mp ["one","other"]
 HP:Def K mg "size_of" Cn ["one"]
 BG:o7 K mg "Block" "Block.__init__" A.CB t7 ["self","first","last","size","weight","total"]
 Lk:Def K mg "joined" E9 ["lower","upper"]
 NT:Def K mg "rises" IT ["lower","upper"]
 xC:Def K mg "block_height" pD ["block"]
 BH:Def K mg "heights_of" t8 ["blocks"]
 ve:Def K mg "single_blocks" nJ ["readings"]
 Ll:Def K mg "pooled" Fc ["singles"]
 BI:o7 K mg "Curve" "Curve.__init__" A.CC uc ["self","readings"]
 xD:Def K mg "running_sums" pF ["curve"]
 BJ:Def K mg "square_sum" uf ["readings","doses","heights"]
 zu:Def K mg "never_falls" qT ["numbers"]
 xE:Def K mg "last_at_most" pG ["fractions","limit"]
 sZ:Def K mg "first_at_least" l7 ["fractions","limit"]
 F3:Def K mg "straight" Af ["across","up","place","at"]
 F4:Def K mg "has_line" Ah ["curve","dose"]
 HQ:Def K mg "line_at" Cs ["curve","dose"]
 F5:Def K mg "is_below" Ai ["curve","response"]
 F6:Def K mg "is_above" Aj ["curve","response"]
 F7:Def K mg "doses_of" Ak ["curve","response"]
 tu:Def K mg "height_or_none" l9 ["curve","place"]
 F8:Def K mg "low_step" Al ["curve","dose"]
 Dr:Def K mg "high_step" wI ["curve","dose"]
 HR:Def K mg "is_time" Ct ["number"]
 HS:Def K mg "is_dose" Cu ["number"]
 zv:Def K mg "is_response" qU ["number"]
 Ds:Def K mg "is_weight" wK ["number"]
 F9:Def K mg "is_bound" Am ["number"]
 xF:o7 K mg "Reading" "Reading.__init__" A.CR pI ["self","dose","response","weight","bound"]
 xG:o7 K mg "Control" "Control.__init__" A.CO pJ ["self","dose","response","weight"]
 BK:Def K mg "is_control" um ["control"]
 BL:Def K mg "is_reading" uo ["reading"]
 tD:Def K mg "turned_reading" mh ["reading","factor","added"]
 tE:Def K mg "turned_control" mj ["control","factor","added"]
 Dt:Def K mg "lowest_of" wN ["reading"]
 BN:Def K mg "highest_of" uq ["reading"]
 HU:Def K mg "clashes" Cv ["one","other"]
 zx:Def K mg "first_clash" qV ["readings"]
 zy:Def K mg "lower_bound" qW ["readings","dose"]
 zz:Def K mg "upper_bound" qX ["readings","dose"]
 tF:Def K mg "first_reaching" mq ["readings","low"]
 xH:Def K mg "last_keeping" pK ["readings","high"]
 Rr:Def K mg "told" MB ["fraction"]
 Du:Def K mg "told_step" wV ["height"]
 BO:Def K mg "told_bound" ur ["bound"]
 BP:Def K mg "told_doses" uu ["curve","response"]
 xJ:Def K mg "shared_doses" pL ["one","other"]
 Ga:o7 K mg "Gap" "Gap.__init__" A.CG As ["self","size","dose"]
 zA:Def K mg "gap_between" qY ["one","other"]
 vf:Def K mg "shift_refusal" nN ["curve","controls"]
 Gb:Def K mg "shift_of" Au ["curve","controls"]
 Gd:o7 K mg "Lot" "Lot.__init__" A.CL Av ["self","good_until"]
 zB:o7 K mg "Result" "Result.__init__" A.CU qZ ["self","time","lot_number","response","off","doses"]
 vg:o7 K mg "Standing" "Standing.__init__" A.CS nP ["self","lot"]
 zC:Def K mg "told_result" rg ["standing","response","off"]
 qM:Def K mg "changed_results" lQ ["lots","results"]
 BQ:Def K mg "answer_fit" ux ["desk","numbers"]
 vh:Def K mg "answer_blocks" nQ ["desk","numbers"]
 zD:Def K mg "answer_sums" rj ["desk","numbers"]
 tG:Def K mg "answer_squares" mD ["desk","numbers"]
 xK:Def K mg "answer_trial" pQ ["desk","numbers"]
 nY:Def K mg "is_asked_fraction" j3 ["top","bottom"]
 xM:Def K mg "answer_value" pR ["desk","numbers"]
 zE:Def K mg "answer_dose" rq ["desk","numbers"]
 zF:Def K mg "answer_step" rA ["desk","numbers"]
 xN:Def K mg "answer_shift" pS ["desk","numbers"]
 BR:Def K mg "answer_gap" uy ["desk","numbers"]
 xO:Def K mg "answer_truth" pT ["desk","numbers"]
 xP:Def K mg "answer_clash" pU ["desk","numbers"]
 xQ:Def K mg "answer_range" pV ["desk","numbers"]
 BS:Def K mg "answer_lot" uz ["desk","numbers"]
 xR:Def K mg "answer_point" pX ["desk","numbers"]
 tH:Def K mg "answer_unpoint" mF ["desk","numbers"]
 vj:Def K mg "answer_points" nS ["desk","numbers"]
 tK:Def K mg "answer_control" mG ["desk","numbers"]
 xS:Def K mg "answer_clear" pY ["desk","numbers"]
 zG:Def K mg "answer_turn" rE ["desk","numbers"]
 zH:Def K mg "answer_lots" rF ["desk","numbers"]
 zI:Def K mg "answer_tick" rG ["desk","numbers"]
 xT:Def K mg "read_refusal" pZ ["desk","lot","standing","off"]
 zJ:Def K mg "answer_read" rH ["desk","numbers"]
 xU:Def K mg "answer_shown" p8 ["desk","numbers"]
 tL:Def K mg "answer_changed" mK ["desk","numbers"]
 nZ:Def K mg "answer_curve_call" j4 ["desk","number","numbers"]
 qj:Def K mg "answer_line_call" kX ["desk","number","numbers"]
 qN:Def K mg "answer_lot_call" lS ["desk","number","numbers"]
 nA:Def K mg "answer_result_call" jN ["desk","number","numbers"]
 n6:Def K mg "answer_truth_call" j5 ["desk","number","numbers"]
 Dv:o7 K mg "Desk" "Desk.__init__" A.CD xy ["self"]
 Ge:Def K mg "call_end" AB ["calls","start"]
 BU:Def K mg "lots_named" uD ["number","numbers"]
 zK:Def K mg "lot_refusal" rQ ["desk","number","numbers"]
 zL:Def K mg "answer_call" rR ["desk","number","numbers"]
 HV:Def K mg "answers" CM ["calls"]
theorem rV{K:PySem.W.Frag}{C:Addr}(a:PySem.W.plainGet K C Str.empty=true:=by k_is)(b:PySem.W.hasDictIn K C=true:=by k_is)(c:PySem.W.plainOver K C=true:=by k_is)(d:PySem.W.findIn K (.ref C) "__setattr__"=some (some (.builtin "object.__setattr__")):=by k_is):Jy K C:=⟨a,b,c,d⟩
theorem gG{K:PySem.W.Frag}{C:Addr}{f:Str}(h:PySem.W.findIn K (.ref C) f=some none:=by k_is):eZ K C f:=h
section
variable {K:PySem.W.Frag} {mg:Str->Option Value} {h:Heap} (X:K.In h) (G:h.Ns mainGlobals mg)
include X G
theorem eU{x:Str}{i:Int}{t:Tok}(e:PySem.W.nsIn K mainGlobals x=some (some (.int i t)):=by k_is):rW mg x (.int i):=⟨_,PySem.W.mg_of X G e,_,rfl⟩
theorem BV{x:Str}{a:Addr}(e:PySem.W.nsIn K mainGlobals x=some (some (.ref a)):=by k_is):rW mg x (.ref a):=⟨_,PySem.W.mg_of X G e,rfl⟩
theorem vm{x:Str}(e:PySem.W.nsIn K mainGlobals x=some none:=by k_is):mg x=none:=PySem.W.mg_none_of X G e
theorem iz{x:Str}{a:Addr}(e:PySem.W.nsIn K mainGlobals x=some (some (.ref a)):=by k_is):mg x=some (.ref a):=PySem.W.mg_of X G e
theorem cZ{x:Str}{st:Stmt}{ps:List Str}{f:Addr}{oc:Value}{od an:Option Addr}{osl:Array (Option Value)}{kV doc pm cdv ct:Value}
  (b:∀(kV doc pm:Value)(an:Option Addr)(cdv ct:Value)(us:List Value),us.length=ps.length->bindArgs (PySem.W.fnOf x x (qo st) (lH st) (cJ st) .none kV doc pm an cdv ct) ⟨us,[]⟩=pure (ps.zip us))(a:PySem.W.nsIn K mainGlobals x=some (some (.ref f)):=by k_is)
  (l:K.lookup f=some ⟨oc,od,.func (PySem.W.fnOf x x (qo st) (lH st) (cJ st) .none kV doc pm an cdv ct),osl⟩:=by k_is)(c:PySem.W.codeIn K cdv x=true:=by k_is)(k:PySem.W.keepIn K (.ref f)=true:=by k_is):Def K mg x st ps:=
 ⟨f,_,Ij l c k,(Ij l c k).binds b,PySem.W.mg_of X G a⟩
theorem mY{x qual:Str}{C:Addr}{st:Stmt}{ps:List Str}{f:Addr}{oc:Value}{od an:Option Addr}{osl:Array (Option Value)}{kV doc pm cdv ct:Value}
  (b:∀(kV doc pm:Value)(an:Option Addr)(cdv ct:Value)(us:List Value),us.length=ps.length->bindArgs (PySem.W.fnOf "__init__" qual (qo st) (lH st) (cJ st) .none kV doc pm an cdv ct) ⟨us,[]⟩=pure (ps.zip us))(a:PySem.W.nsIn K mainGlobals x=some (some (.ref C)):=by k_is)
  (i:PySem.W.findIn K (.ref C) "__init__"=some (some (.ref f)):=by k_is)(l:K.lookup f=some ⟨oc,od,.func (PySem.W.fnOf "__init__" qual (qo st) (lH st) (cJ st) .none kV doc pm an cdv ct),osl⟩:=by k_is)(c:PySem.W.codeIn K cdv qual=true:=by k_is)(k:PySem.W.keepIn K (.ref f)=true:=by k_is)
  (fn:PySem.W.isFn K (.ref f)=true:=by k_is)(mk:PySem.W.makesIn K C=true:=by k_is)(kc:PySem.W.keepIn K (.ref C)=true:=by k_is):o7 K mg x qual C st ps:=
 ⟨f,_,Ij l c k,(Ij l c k).binds b,PySem.W.mg_of X G a,mk,i,fn,kc⟩
end
def Vj:V->Value->Bool
 |.int i,.int j _=>i==j
 |.ref a,.ref b=>a==b
 |_,_=>false
theorem S3{v:V}{u:Value}(h:Vj v u=true):RelV v u:=by
 unfold Vj at h
 split at h
 ·exact⟨_,by rw[eq_of_beq h]⟩
 ·show _=_;rw[eq_of_beq h]
 ·cases h
def S4:List (Int×V)->List (Int×Value)->Bool
 |[],[]=>true
 |p::ps,q::qs=>(p.1==q.1&&Vj p.2 q.2)&&S4 ps qs
 |_,_=>false
theorem NU:∀{ps:List (Int×V)}{qs:List (Int×Value)},S4 ps qs=true->Paired (fun(p:Int×V)(q:Int×Value)=>p.1=q.1/\RelV p.2 q.2) ps qs
 |[],[],_=>.nil
 |p::ps,q::qs,h=>by
  unfold S4 at h
  rw[aZ,aZ]at h
  exact .cons ⟨eq_of_beq h.1.1,S3 h.1.2⟩ (NU h.2)
 |[],_::_,h=>by cases h
 |_::_,[],h=>by cases h
def TZ(K:PySem.W.Frag)(d:Addr)(kvs:List (Int×V)):Bool:=match tabIn K d with
 |some vs=>S4 kvs vs
 |none=>false
theorem CN{K:PySem.W.Frag}{d:Addr}{kvs:List (Int×V)}(h:TZ K d kvs=true:=by kernel_rfl):ModT K d kvs:=by
 unfold TZ at h
 split at h
 ·rename_i vs e;exact⟨vs,e,NU h⟩
 ·cases h
def NV:List Int->List Value->Bool
 |[],[]=>true
 |n::ns,.int i _::us=>n==i&&NV ns us
 |_,_=>false
theorem Lm:∀{ns:List Int}{us:List Value},NV ns us=true->Vals (ns.map V.int) us
 |[],[],_=>.nil
 |n::ns,u::us,h=>by
  unfold NV at h
  split at h
  ·rename_i e _;cases e
  ·rename_i e1 e2
   cases e1;cases e2
   rw[aZ]at h
   exact .cons ⟨_,by rw[eq_of_beq h.1]⟩ (Lm h.2)
  ·cases h
 |[],_::_,h=>by cases h
 |_::_,[],h=>by cases h
def T3(K:PySem.W.Frag)(a:Addr)(ns:List Int):Bool:=match K.lookup a with
 |some ⟨.type "tuple",_,.seq its _,_⟩=>Nat.ble its.size sizeLine&&NV ns its.toList
 |_=>false
theorem Gf{K:PySem.W.Frag}{a:Addr}{ns:List Int}(h:T3 K a ns=true:=by kernel_rfl):Kh K a ns:=by
 unfold T3 at h
 split at h
 ·rename_i its n sl e
  rw[aZ]at h
  exact⟨_,its,n,e,rfl,rfl,Nat.le_of_ble_eq_true h.1,Lm h.2⟩
 ·cases h
theorem all_mk{P:Program}{w:World}{K:PySem.W.Frag}{mg:Str->Option Value}{A:gY}{fa:Addr}(Jt:mg "answers"=some (.ref fa))(T:Txt K mg A)(D:Defs K mg A):
  ∃fd:FuncData,(∀(s:Shared)(us:List Value),us.length=(["calls"]:List Str).length->BindsTo s fd ⟨us,[]⟩ ((["calls"]:List Str).zip us))/\ ∀base:Heap,K.In base->base.Ns mainGlobals mg->yu P w K mg base Js 16 fa fd ["calls"] (yt K):=by
 obtain⟨f,fd,F,b,e⟩:=D.HV.ex
 have z:=Jt.symm.trans e
 cases z
 refine⟨fd,?_,fun base _ _=>?_⟩
 ·obtain⟨oc,od,kV,doc,pm,an,cdv,ct,osl,rfl,lk,hcd⟩:=F.ex
  exact fun s us hu=>match us,hu with | [_],_=>.of_eq rfl
 ·skip
  have l6:=Bl (P:=P) (w:=w) (base:=base) T D.sY
  have dP:=Cm (P:=P) (w:=w) (base:=base) T D.vd l6
  have eN:=QJ (P:=P) (w:=w) (base:=base) T D.NQ dP
  have ue:=SE (P:=P) (w:=w) (base:=base) T D.Ro dP
  have i9:=QK (P:=P) (w:=w) (base:=base) T D.NR dP
  have mX:=QL (P:=P) (w:=w) (base:=base) T D.NS dP
  have MD:=SG (P:=P) (w:=w) (base:=base) T D.Rp dP
  have jk:=SH (P:=P) (w:=w) (base:=base) T D.Rq
  have Cy:=Mq (P:=P) (w:=w) (base:=base) T D.HP dP
  have yj:=Gr (P:=P) (w:=w) (base:=base) T D.BG
  have Fd:=OT (P:=P) (w:=w) (base:=base) T D.Lk yj
  have IV:=QN (P:=P) (w:=w) (base:=base) T D.NT
  have iV:=DE (P:=P) (w:=w) (base:=base) T D.xC dP
  have ud:=Gs (P:=P) (w:=w) (base:=base) T D.BH iV
  have nM:=Co (P:=P) (w:=w) (base:=base) T D.ve yj
  have Fe:=OV (P:=P) (w:=w) (base:=base) T D.Ll Fd IV
  have eT:=Gu (P:=P) (w:=w) (base:=base) T D.BI nM Fe ud eN
  have pP:=DF (P:=P) (w:=w) (base:=base) T D.xD eN mX ue i9
  have jT:=Gv (P:=P) (w:=w) (base:=base) T D.BJ eN i9 ue mX
  have rm:=Fj (P:=P) (w:=w) (base:=base) T D.zu
  have fW:=DG (P:=P) (w:=w) (base:=base) T D.xE jk
  have gZ:=Bm (P:=P) (w:=w) (base:=base) T D.sZ jk
  have l8:=KU (P:=P) (w:=w) (base:=base) T D.F3 dP
  have kT:=KW (P:=P) (w:=w) (base:=base) T D.F4
  have ji:=Mw (P:=P) (w:=w) (base:=base) T D.HQ fW l8 jk
  have Ao:=KY (P:=P) (w:=w) (base:=base) T D.F5 jk
  have Aq:=KZ (P:=P) (w:=w) (base:=base) T D.F6 jk
  have Ar:=K0 (P:=P) (w:=w) (base:=base) T D.F7 gZ fW l8
  have ie:=Bp (P:=P) (w:=w) (base:=base) T D.tu
  have Az:=K1 (P:=P) (w:=w) (base:=base) T D.F8 ie fW eN
  have xm:=Ja (P:=P) (w:=w) (base:=base) T D.Dr ie gZ eN
  have oQ:=Mx (P:=P) (w:=w) (base:=base) T D.HR
  have jS:=My (P:=P) (w:=w) (base:=base) T D.HS
  have gj:=Fx (P:=P) (w:=w) (base:=base) T D.zv
  have wL:=Jb (P:=P) (w:=w) (base:=base) T D.Ds
  have An:=K2 (P:=P) (w:=w) (base:=base) T D.F9
  have oM:=DH (P:=P) (w:=w) (base:=base) T D.xF
  have oN:=DI (P:=P) (w:=w) (base:=base) T D.xG
  have gR:=Gw (P:=P) (w:=w) (base:=base) T D.BK jS gj wL
  have jU:=Gx (P:=P) (w:=w) (base:=base) T D.BL gR An
  have mH:=Bu (P:=P) (w:=w) (base:=base) T D.tD oM
  have mJ:=Bv (P:=P) (w:=w) (base:=base) T D.tE oN
  have iG:=Je (P:=P) (w:=w) (base:=base) T D.Dt
  have gT:=Gy (P:=P) (w:=w) (base:=base) T D.BN
  have Cw:=MA (P:=P) (w:=w) (base:=base) T D.HU gT iG
  have gk:=Fz (P:=P) (w:=w) (base:=base) T D.zx Cw
  have rC:=FA (P:=P) (w:=w) (base:=base) T D.zy iG
  have rD:=FD (P:=P) (w:=w) (base:=base) T D.zz gT
  have mE:=Bx (P:=P) (w:=w) (base:=base) T D.tF gT
  have pW:=DJ (P:=P) (w:=w) (base:=base) T D.xH iG
  have fZ:=SQ (P:=P) (w:=w) (base:=base) T D.Rr
  have qI:=Jf (P:=P) (w:=w) (base:=base) T D.Du fZ
  have oz:=Gz (P:=P) (w:=w) (base:=base) T D.BO
  have ja:=GA (P:=P) (w:=w) (base:=base) T D.BP Ao Aq Ar fZ
  have pM:=DK (P:=P) (w:=w) (base:=base) T D.xJ kT
  have QY:=K6 (P:=P) (w:=w) (base:=base) T D.Ga
  have rB:=FE (P:=P) (w:=w) (base:=base) T D.zA pM eN Cy i9 jk QY ji
  have fR:=Cz (P:=P) (w:=w) (base:=base) T D.vf kT
  have mw:=K8 (P:=P) (w:=w) (base:=base) T D.Gb eN MD i9 ue ji mX
  have Ra:=K9 (P:=P) (w:=w) (base:=base) T D.Gd
  have FY:=FF (P:=P) (w:=w) (base:=base) T D.zB
  have mC:=CA (P:=P) (w:=w) (base:=base) T D.vg eT fR mw
  have jj:=FG (P:=P) (w:=w) (base:=base) T D.zC ja i9 eN
  have lR:=Ay (P:=P) (w:=w) (base:=base) T D.qM mC jj
  have uA:=GC (P:=P) (w:=w) (base:=base) T D.BQ eT fZ
  have nT:=CH (P:=P) (w:=w) (base:=base) T D.vh eT fZ iV
  have rJ:=FL (P:=P) (w:=w) (base:=base) T D.zD pP eT fZ
  have mL:=BB (P:=P) (w:=w) (base:=base) T D.tG eT fZ jT
  have p9:=DL (P:=P) (w:=w) (base:=base) T D.xK jT eT eN rm gj
  have fX:=xg (P:=P) (w:=w) (base:=base) T D.nY
  have qa:=DM (P:=P) (w:=w) (base:=base) T D.xM ji fX eT dP fZ
  have rK:=FN (P:=P) (w:=w) (base:=base) T D.zE ja fX eT dP
  have rL:=FO (P:=P) (w:=w) (base:=base) T D.zF eT jS qI xm Az
  have qb:=DN (P:=P) (w:=w) (base:=base) T D.xN eT fR fZ mw
  have uB:=GD (P:=P) (w:=w) (base:=base) T D.BR rB eT fZ
  have qg:=DO (P:=P) (w:=w) (base:=base) T D.xO oz jS gk rC rD
  have qh:=DP (P:=P) (w:=w) (base:=base) T D.xP gk
  have qi:=DQ (P:=P) (w:=w) (base:=base) T D.xQ mE pW gk
  have uC:=GG (P:=P) (w:=w) (base:=base) T D.BS Ra oQ
  have qd:=DR (P:=P) (w:=w) (base:=base) T D.xR oM jU
  have mO:=BC (P:=P) (w:=w) (base:=base) T D.tH
  have nU:=CI (P:=P) (w:=w) (base:=base) T D.vj
  have mP:=BD (P:=P) (w:=w) (base:=base) T D.tK oN gR
  have qe:=DS (P:=P) (w:=w) (base:=base) T D.xS
  have rM:=FP (P:=P) (w:=w) (base:=base) T D.zG mH mJ jU gR
  have rN:=FT (P:=P) (w:=w) (base:=base) T D.zH
  have rO:=FU (P:=P) (w:=w) (base:=base) T D.zI oQ
  have p7:=DT (P:=P) (w:=w) (base:=base) T D.xT fR
  have rP:=FW (P:=P) (w:=w) (base:=base) T D.zJ mC p7 jj FY gj
  have qf:=DU (P:=P) (w:=w) (base:=base) T D.xU
  have mQ:=BE (P:=P) (w:=w) (base:=base) T D.tL lR
  have j6:=xw (P:=P) (w:=w) (base:=base) T D.nZ uA nT rJ mL p9
  have kY:=yx (P:=P) (w:=w) (base:=base) T D.qj qa rK rL qb uB
  have lT:=AA (P:=P) (w:=w) (base:=base) T D.qN uC qd mO nU mP qe rM rN
  have jO:=vo (P:=P) (w:=w) (base:=base) T D.nA rO rP qf mQ
  have j7:=xx (P:=P) (w:=w) (base:=base) T D.n6 qg qh qi
  have ML:=Jo (P:=P) (w:=w) (base:=base) T D.Dv
  have AD:=Lg (P:=P) (w:=w) (base:=base) T D.Ge
  have uE:=GH (P:=P) (w:=w) (base:=base) T D.BU
  have rS:=FZ (P:=P) (w:=w) (base:=base) T D.zK uE
  have rT:=F0 (P:=P) (w:=w) (base:=base) T D.zL rS lT j6 kY j7 jO
  exact MK T F ML AD rT
abbrev A0:gY:={
 CF:=38
 CB:=108
 CC:=127
 CR:=209
 CO:=230
 CL:=251
 CD:=819
 CG:=417
 CU:=636
 CS:=657
 o9:=490
 lM:=463
 jg:=470
 kj:=477
 iR:=484
 jA:=489
 qR:=550
 jB:=521
 ko:=528
 kq:=535
 jC:=542
 lN:=549
 tW:=612
 lO:=564
 jD:=571
 iS:=578
 jh:=585
 iT:=592
 jE:=599
 ku:=604
 kC:=611
 nG:=711
 kD:=682
 kE:=696
 jF:=703
 iU:=710
 pq:=788
 jG:=773
 jH:=780
 jI:=787
 II:=801
 n9:=796
 qv:=797
 oh:=798
 mT:=799
 i6:=800 }
theorem req(K:PySem.W.Frag)(H:Hp)(xs:List V)(a:PySem.W.Codec.denoteAll PySem.Challenge.rw_risingcurves_s01_answers.args)(hO:G3 H)(hwi:PySem.W.Codec.withinAll PySem.Challenge.rw_risingcurves_s01_answers.args a=true)
  (Vg:PySem.W.Codec.app PySem.Challenge.rw_risingcurves_s01_answers.args PySem.Challenge.rw_risingcurves_s01_answers.asked a=true)(hx:r8 K H xs (PySem.W.Codec.encAll PySem.Challenge.rw_risingcurves_s01_answers.args a)):
  yt K xs H (fun v H'=>Dw K H' v (PySem.Challenge.rw_risingcurves_s01_answers.ret.enc (PySem.W.Codec.app PySem.Challenge.rw_risingcurves_s01_answers.args PySem.Challenge.rw_risingcurves_s01_answers.f a))) fun _ _ _=>False:=by
 cases hx with
 |cons h1 h2=>
  cases h2
  cases h1 with
  |lst hs ha=>
   have e:=L2.M4 a.1 _ ha
   subst e
   have q:((PySem.W.Codec.inLen 0 16000 a.1&&a.1.all (PySem.W.Codec.inInt (-9223372036854775808) 9223372036854775807))&&true)=true:=hwi
   rw[aZ,aZ]at q
   exact⟨_,a.1,rfl,hs,(PySem.W.Codec.inNat_iff.mp q.1.1).2,Vg,fun H' p hp=>.lst (L2.dG.of hp) (L2.M3 _)⟩
end Rv
open PySem PySem.W PyProof.Rows
set_option maxRecDepth 100000 in
set_option maxHeartbeats 0 in
theorem PySem.Challenge.cw_risingcurves_s01_answers_holds : PySem.Challenge.rw_risingcurves_s01_answers.Holds := by
 refine headQ.2 ⟨⟨L2.LI (r:=PySem.Challenge.rw_risingcurves_s01_answers) (k:=16) (CX:=L2.Js) (ps:=["calls"]) (sp:=Rv.yt) wsaidQ rfl rfl ⟨rfl,by decide,by decide⟩ (fun w h Y=>PySem.W.kIn_of Y) ?F ?S (fun _ _ _ _ z=>z)⟩⟩
 case F=>
  intro w mg fa h Y KX G hmg
  k_fillS
  refine Rv.all_mk (A:=Rv.A0) hmg ?T ?D
  case T=>exact
   { cF:=Rv.rV,iA:=Rv.gG,eG:=Rv.gG,cB:=Rv.rV,vZ:=Rv.gG,Ec:=Rv.gG,yg:=Rv.gG,jQ:=Rv.gG,ng:=Rv.gG,cC:=Rv.rV,pB:=Rv.gG,jL:=Rv.gG,gu:=Rv.gG,yh:=Rv.gG,f9:=Rv.gG,cR:=Rv.rV,jR:=Rv.gG,iF:=Rv.gG,lC:=Rv.gG,pC:=Rv.gG,cO:=Rv.rV,yi:=Rv.gG,nh:=Rv.gG,oH:=Rv.gG,cL:=Rv.rV,kF:=Rv.gG,dY:=Rv.gG,fY:=Rv.gG,cD:=Rv.rV,t6:=Rv.gG,fu:=Rv.gG,i8:=Rv.gG,cG:=Rv.rV,Ed:=Rv.gG,IK:=Rv.gG,cU:=Rv.rV,IL:=Rv.gG,mV:=Rv.gG,qw:=Rv.gG,IM:=Rv.gG,Ba:=Rv.gG,cS:=Rv.rV,kG:=Rv.gG,v7:=Rv.gG,xFB:=by decide,Wt:=by decide,xFR:=by decide,xFO:=by decide,xFL:=by decide,xFD:=by decide,xFG:=by decide,xFU:=by decide,Xq:=by decide,Tu:=by decide,xBR:=by decide,xBO:=by decide,xBL:=by decide,xBD:=by decide,xBG:=by decide,xBU:=by decide,YO:=by decide,xCR:=by decide,xCO:=by decide,xCL:=by decide,xCD:=by decide,xCG:=by decide,xCU:=by decide,YQ:=by decide,xRO:=by decide,Xr:=by decide,Z0:=by decide,xRG:=by decide,xRU:=by decide,YR:=by decide,YS:=by decide,Z1:=by decide,xOG:=by decide,xOU:=by decide,YT:=by decide,YU:=by decide,xLG:=by decide,Z2:=by decide,YV:=by decide,xDG:=by decide,Z3:=by decide,xDS:=by decide,xGU:=by decide,xGS:=by decide,xUS:=by decide,Cj:=Rv.eU KX G,yF:=Rv.eU KX G,yG:=Rv.eU KX G,Hy:=Rv.eU KX G,Ck:=Rv.eU KX G,qS:=Rv.eU KX G,C6:=Rv.eU KX G,E3:=Rv.eU KX G,yH:=Rv.eU KX G,Bb:=Rv.eU KX G,v8:=Rv.eU KX G,Hz:=Rv.eU KX G,fH:=Rv.eU KX G,SA:=Rv.eU KX G,Kz:=Rv.eU KX G,jZ:=Rv.eU KX G,fD:=Rv.eU KX G,Nt:=Rv.eU KX G,E4:=Rv.eU KX G,v9:=Rv.eU KX G,sG:=Rv.eU KX G,E5:=Rv.eU KX G,Bc:=Rv.eU KX G,Bd:=Rv.eU KX G,HA:=Rv.eU KX G,z8:=Rv.eU KX G,C7:=Rv.eU KX G,z9:=Rv.eU KX G,Be:=Rv.eU KX G,HB:=Rv.eU KX G,Aa:=Rv.eU KX G,KA:=Rv.eU KX G,E6:=Rv.eU KX G,KC:=Rv.eU KX G,abs:=Rv.vm KX G,all:=Rv.vm KX G,dict:=Rv.vm KX G,enumerate:=Rv.vm KX G,len:=Rv.vm KX G,max:=Rv.vm KX G,min:=Rv.vm KX G,range:=Rv.vm KX G,set:=Rv.vm KX G,sorted:=Rv.vm KX G,sum:=Rv.vm KX G,zip:=Rv.vm KX G,uH:=Rv.iz KX G,uI:=Rv.CN,Bf:=Rv.iz KX G,uJ:=Rv.iz KX G,yI:=Rv.iz KX G,sH:=Rv.iz KX G,wc:=Rv.iz KX G,we:=Rv.iz KX G,wg:=Rv.CN,wj:=Rv.iz KX G,yJ:=Rv.iz KX G,yK:=Rv.iz KX G,wk:=Rv.iz KX G,Bg:=Rv.iz KX G,yL:=Rv.iz KX G,yM:=Rv.CN,Bh:=Rv.iz KX G,wm:=Rv.iz KX G,sI:=Rv.iz KX G,uK:=Rv.iz KX G,sJ:=Rv.iz KX G,wo:=Rv.iz KX G,yN:=Rv.iz KX G,yO:=Rv.iz KX G,sL:=Rv.iz KX G,sM:=Rv.CN,yP:=Rv.iz KX G,yQ:=Rv.iz KX G,wu:=Rv.iz KX G,sN:=Rv.iz KX G,uL:=Rv.iz KX G,uM:=Rv.CN,wz:=Rv.iz KX G,wA:=Rv.iz KX G,wB:=Rv.iz KX G,KD:=Rv.iz KX G,KG:=Rv.CN,C8:=Rv.BV KX G,yR:=Rv.Gf,E7:=Rv.BV KX G,Bj:=Rv.Gf,C9:=Rv.BV KX G,yS:=Rv.Gf,Bk:=Rv.BV KX G,wC:=Rv.Gf,qx:=Rv.BV KX G,nW:=Rv.Gf }
  case D=>exact
   { sY:=Rv.cZ KX G (fun _ _ _ _ _ _=>fun | [_,_],_=>rfl),vd:=Rv.mY KX G (fun _ _ _ _ _ _=>fun | [_,_,_],_=>rfl),NQ:=Rv.cZ KX G (fun _ _ _ _ _ _=>fun | [_],_=>rfl),Ro:=Rv.cZ KX G (fun _ _ _ _ _ _=>fun | [_,_],_=>rfl),NR:=Rv.cZ KX G (fun _ _ _ _ _ _=>fun | [_,_],_=>rfl),NS:=Rv.cZ KX G (fun _ _ _ _ _ _=>fun | [_,_],_=>rfl),Rp:=Rv.cZ KX G (fun _ _ _ _ _ _=>fun | [_,_],_=>rfl),Rq:=Rv.cZ KX G (fun _ _ _ _ _ _=>fun | [_,_],_=>rfl),HP:=Rv.cZ KX G (fun _ _ _ _ _ _=>fun | [_],_=>rfl),BG:=Rv.mY KX G (fun _ _ _ _ _ _=>fun | [_,_,_,_,_,_],_=>rfl),Lk:=Rv.cZ KX G (fun _ _ _ _ _ _=>fun | [_,_],_=>rfl),NT:=Rv.cZ KX G (fun _ _ _ _ _ _=>fun | [_,_],_=>rfl),xC:=Rv.cZ KX G (fun _ _ _ _ _ _=>fun | [_],_=>rfl),BH:=Rv.cZ KX G (fun _ _ _ _ _ _=>fun | [_],_=>rfl),ve:=Rv.cZ KX G (fun _ _ _ _ _ _=>fun | [_],_=>rfl),Ll:=Rv.cZ KX G (fun _ _ _ _ _ _=>fun | [_],_=>rfl),BI:=Rv.mY KX G (fun _ _ _ _ _ _=>fun | [_,_],_=>rfl),xD:=Rv.cZ KX G (fun _ _ _ _ _ _=>fun | [_],_=>rfl),BJ:=Rv.cZ KX G (fun _ _ _ _ _ _=>fun | [_,_,_],_=>rfl),zu:=Rv.cZ KX G (fun _ _ _ _ _ _=>fun | [_],_=>rfl),xE:=Rv.cZ KX G (fun _ _ _ _ _ _=>fun | [_,_],_=>rfl),sZ:=Rv.cZ KX G (fun _ _ _ _ _ _=>fun | [_,_],_=>rfl),F3:=Rv.cZ KX G (fun _ _ _ _ _ _=>fun | [_,_,_,_],_=>rfl),F4:=Rv.cZ KX G (fun _ _ _ _ _ _=>fun | [_,_],_=>rfl),HQ:=Rv.cZ KX G (fun _ _ _ _ _ _=>fun | [_,_],_=>rfl),F5:=Rv.cZ KX G (fun _ _ _ _ _ _=>fun | [_,_],_=>rfl),F6:=Rv.cZ KX G (fun _ _ _ _ _ _=>fun | [_,_],_=>rfl),F7:=Rv.cZ KX G (fun _ _ _ _ _ _=>fun | [_,_],_=>rfl),tu:=Rv.cZ KX G (fun _ _ _ _ _ _=>fun | [_,_],_=>rfl),F8:=Rv.cZ KX G (fun _ _ _ _ _ _=>fun | [_,_],_=>rfl),Dr:=Rv.cZ KX G (fun _ _ _ _ _ _=>fun | [_,_],_=>rfl),HR:=Rv.cZ KX G (fun _ _ _ _ _ _=>fun | [_],_=>rfl),HS:=Rv.cZ KX G (fun _ _ _ _ _ _=>fun | [_],_=>rfl),zv:=Rv.cZ KX G (fun _ _ _ _ _ _=>fun | [_],_=>rfl),Ds:=Rv.cZ KX G (fun _ _ _ _ _ _=>fun | [_],_=>rfl),F9:=Rv.cZ KX G (fun _ _ _ _ _ _=>fun | [_],_=>rfl),xF:=Rv.mY KX G (fun _ _ _ _ _ _=>fun | [_,_,_,_,_],_=>rfl),xG:=Rv.mY KX G (fun _ _ _ _ _ _=>fun | [_,_,_,_],_=>rfl),BK:=Rv.cZ KX G (fun _ _ _ _ _ _=>fun | [_],_=>rfl),BL:=Rv.cZ KX G (fun _ _ _ _ _ _=>fun | [_],_=>rfl),tD:=Rv.cZ KX G (fun _ _ _ _ _ _=>fun | [_,_,_],_=>rfl),tE:=Rv.cZ KX G (fun _ _ _ _ _ _=>fun | [_,_,_],_=>rfl),Dt:=Rv.cZ KX G (fun _ _ _ _ _ _=>fun | [_],_=>rfl),BN:=Rv.cZ KX G (fun _ _ _ _ _ _=>fun | [_],_=>rfl),HU:=Rv.cZ KX G (fun _ _ _ _ _ _=>fun | [_,_],_=>rfl),zx:=Rv.cZ KX G (fun _ _ _ _ _ _=>fun | [_],_=>rfl),zy:=Rv.cZ KX G (fun _ _ _ _ _ _=>fun | [_,_],_=>rfl),zz:=Rv.cZ KX G (fun _ _ _ _ _ _=>fun | [_,_],_=>rfl),tF:=Rv.cZ KX G (fun _ _ _ _ _ _=>fun | [_,_],_=>rfl),xH:=Rv.cZ KX G (fun _ _ _ _ _ _=>fun | [_,_],_=>rfl),Rr:=Rv.cZ KX G (fun _ _ _ _ _ _=>fun | [_],_=>rfl),Du:=Rv.cZ KX G (fun _ _ _ _ _ _=>fun | [_],_=>rfl),BO:=Rv.cZ KX G (fun _ _ _ _ _ _=>fun | [_],_=>rfl),BP:=Rv.cZ KX G (fun _ _ _ _ _ _=>fun | [_,_],_=>rfl),xJ:=Rv.cZ KX G (fun _ _ _ _ _ _=>fun | [_,_],_=>rfl),Ga:=Rv.mY KX G (fun _ _ _ _ _ _=>fun | [_,_,_],_=>rfl),zA:=Rv.cZ KX G (fun _ _ _ _ _ _=>fun | [_,_],_=>rfl),vf:=Rv.cZ KX G (fun _ _ _ _ _ _=>fun | [_,_],_=>rfl),Gb:=Rv.cZ KX G (fun _ _ _ _ _ _=>fun | [_,_],_=>rfl),Gd:=Rv.mY KX G (fun _ _ _ _ _ _=>fun | [_,_],_=>rfl),zB:=Rv.mY KX G (fun _ _ _ _ _ _=>fun | [_,_,_,_,_,_],_=>rfl),vg:=Rv.mY KX G (fun _ _ _ _ _ _=>fun | [_,_],_=>rfl),zC:=Rv.cZ KX G (fun _ _ _ _ _ _=>fun | [_,_,_],_=>rfl),qM:=Rv.cZ KX G (fun _ _ _ _ _ _=>fun | [_,_],_=>rfl),BQ:=Rv.cZ KX G (fun _ _ _ _ _ _=>fun | [_,_],_=>rfl),vh:=Rv.cZ KX G (fun _ _ _ _ _ _=>fun | [_,_],_=>rfl),zD:=Rv.cZ KX G (fun _ _ _ _ _ _=>fun | [_,_],_=>rfl),tG:=Rv.cZ KX G (fun _ _ _ _ _ _=>fun | [_,_],_=>rfl),xK:=Rv.cZ KX G (fun _ _ _ _ _ _=>fun | [_,_],_=>rfl),nY:=Rv.cZ KX G (fun _ _ _ _ _ _=>fun | [_,_],_=>rfl),xM:=Rv.cZ KX G (fun _ _ _ _ _ _=>fun | [_,_],_=>rfl),zE:=Rv.cZ KX G (fun _ _ _ _ _ _=>fun | [_,_],_=>rfl),zF:=Rv.cZ KX G (fun _ _ _ _ _ _=>fun | [_,_],_=>rfl),xN:=Rv.cZ KX G (fun _ _ _ _ _ _=>fun | [_,_],_=>rfl),BR:=Rv.cZ KX G (fun _ _ _ _ _ _=>fun | [_,_],_=>rfl),xO:=Rv.cZ KX G (fun _ _ _ _ _ _=>fun | [_,_],_=>rfl),xP:=Rv.cZ KX G (fun _ _ _ _ _ _=>fun | [_,_],_=>rfl),xQ:=Rv.cZ KX G (fun _ _ _ _ _ _=>fun | [_,_],_=>rfl),BS:=Rv.cZ KX G (fun _ _ _ _ _ _=>fun | [_,_],_=>rfl),xR:=Rv.cZ KX G (fun _ _ _ _ _ _=>fun | [_,_],_=>rfl),tH:=Rv.cZ KX G (fun _ _ _ _ _ _=>fun | [_,_],_=>rfl),vj:=Rv.cZ KX G (fun _ _ _ _ _ _=>fun | [_,_],_=>rfl),tK:=Rv.cZ KX G (fun _ _ _ _ _ _=>fun | [_,_],_=>rfl),xS:=Rv.cZ KX G (fun _ _ _ _ _ _=>fun | [_,_],_=>rfl),zG:=Rv.cZ KX G (fun _ _ _ _ _ _=>fun | [_,_],_=>rfl),zH:=Rv.cZ KX G (fun _ _ _ _ _ _=>fun | [_,_],_=>rfl),zI:=Rv.cZ KX G (fun _ _ _ _ _ _=>fun | [_,_],_=>rfl),xT:=Rv.cZ KX G (fun _ _ _ _ _ _=>fun | [_,_,_,_],_=>rfl),zJ:=Rv.cZ KX G (fun _ _ _ _ _ _=>fun | [_,_],_=>rfl),xU:=Rv.cZ KX G (fun _ _ _ _ _ _=>fun | [_,_],_=>rfl),tL:=Rv.cZ KX G (fun _ _ _ _ _ _=>fun | [_,_],_=>rfl),nZ:=Rv.cZ KX G (fun _ _ _ _ _ _=>fun | [_,_,_],_=>rfl),qj:=Rv.cZ KX G (fun _ _ _ _ _ _=>fun | [_,_,_],_=>rfl),qN:=Rv.cZ KX G (fun _ _ _ _ _ _=>fun | [_,_,_],_=>rfl),nA:=Rv.cZ KX G (fun _ _ _ _ _ _=>fun | [_,_,_],_=>rfl),n6:=Rv.cZ KX G (fun _ _ _ _ _ _=>fun | [_,_,_],_=>rfl),Dv:=Rv.mY KX G (fun _ _ _ _ _ _=>fun | [_],_=>rfl),Ge:=Rv.cZ KX G (fun _ _ _ _ _ _=>fun | [_,_],_=>rfl),BU:=Rv.cZ KX G (fun _ _ _ _ _ _=>fun | [_,_],_=>rfl),zK:=Rv.cZ KX G (fun _ _ _ _ _ _=>fun | [_,_,_],_=>rfl),zL:=Rv.cZ KX G (fun _ _ _ _ _ _=>fun | [_,_,_],_=>rfl),HV:=Rv.cZ KX G (fun _ _ _ _ _ _=>fun | [_],_=>rfl) }
 case S=>exact Rv.req
