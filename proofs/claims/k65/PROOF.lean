import PyProof.Rows.All
import Wide.All
import OpenK.AllK
import Wide.FinOn
import PyProof.EqAt
import PyProof.EqKinds
import PyProof.TupleCall
import Lean
import PySem.Challenge.RW_flipwright_k65_whole_tree_of_bags
set_option Elab.async false
set_option linter.all false
set_option maxRecDepth 100000
open PySem.W renaming Frag → aQ, sortI → aO, mg_none_of → bA, kia_one → cD, kitOne → cE, sortI_perm → cI, fnOf → cS, emptyDict → cT, instObj → dR, behindTheImports → dA, findIn → eJ, tabObj → eM, keepIn → eN
open PySem renaming wpAny_bind → aV, Addr → aZ, Shared → aJ, wpAny_pure → aW, starEach → aU, Program → aH, wpAny → aR, World → bJ, sizeLine → bX, FuncData → bW, Around → bF, compareOp → bM, mem_of_lookup → cV, mainGlobals → cK, wpAny_newObj_type → cB, backTo → cM, bootBuiltins → cO, codeAny_builtin → cR, plainId_quiet → dZ, wpAny_mono → dB, cLine → dC, wpAny_holding → dD, wpAny_truthy_bool → dH, wpAny_call_entry → dS, sysModules → eV, wpAny_tryCatch → eZ, wpAny_updateSeq → eX, wpAny_typeNameOfWhole_keyiter → eI, wpAny_Call_Name_kw → eO, wpAny_passesOwn → eT, wpAny_setState_of → fQ
open PySem.Heap renaming get?_push_of_some → aX, lt_size → aD, get?_push_size → aL, size_push → cZ, get?_update_other → cC, get?_update_self → dO, SameBut → eB
open List renaming length_map → aY, length_cons → aK, length_append → aP, mem_cons → aB, map_cons → aC, mem_cons_of_mem → aE, getElem?_eq_getElem → aF, mem_cons_self → aI, not_mem_nil → aN, mem_singleton → aS, getElem?_eq_some_iff → aT, size_toArray → bQ, map_append → bK, getElem?_map → bP, mem_append_right → bB, lookup_cons → bC, getElem?_set_ne → bE, mem_map → bG, map_map → bH, mem_append → bL, nodup_cons → bO, append_nil → bR, getElem?_append_left → bS, getElem?_append_right → cQ, zip_cons_cons → cJ, getD_eq_getElem?_getD → cW, nodup_append → cF, eq_nil_of_length_eq_zero → cG, mem_filter → cL, pairwise_singleton → cN, append_assoc → cA, length_set → dQ, length_take → dX, filter_cons → dY, nodup_nil → dW, mem_of_getElem? → dP, mem_append_left → dU, getElem_mem → eY, getElem?_cons_zero → eW, mem_filterMap → eE, getElem?_set_self → eG
open Nat renaming le_refl → aG, lt_of_lt_of_le → aM, ne_of_lt → bZ, lt_irrefl → bN, le_trans → bT, zero_le → cH, lt_succ_of_lt → dE, ne_of_gt → dI, le_of_lt → dL, lt_of_le_of_lt → dN, le_succ → eA
open Bool renaming false_ne_true → aA, and_eq_true → bD
open PySem.PyData renaming keyHash → bV
open Option renaming map_eq_some_iff → bY
open PySem.SetTable renaming below → bU
open PySem.PassesOwn renaming leaving → bI
open Array renaming length_toList → cX, getElem?_eq_getElem → cU
open PySem.Str renaming ofString → cY
open PySem.Around renaming under_plainId → cP
open PySem.F renaming called_set → dJ, plain_min_loop → dF, slot_dict_keyiterator_next → dG, plain_min_loop → eU
open Classical renaming byContradiction → dM
open PySem.Heap.SameBut renaming update → eQ
open PyProof.Rows renaming callWith_type1 → eK
open PySem.SeqAt renaming EqAt → fV
namespace L2
open PySem PySem.Spec PyProof.Rows
abbrev Key:=Sum Int Str
def qZj:Key->Value->Bool
 | .inl k,v=>Value.isInt k v
 | .inr x,v=>Value.isStrOf x v
def keyH (w:bJ):Key->Int
 | .inl k=>hashInt k
 | .inr x=>hashStr w x
theorem vD:∀ {k:Key} {v:Value},qZj k v=true->(∃i t,k=Sum.inl i/\v=Value.int i t)\/(∃x t,k=Sum.inr x/\v=Value.str x t)
 | .inl i,v,h=>by
   obtain⟨t,e⟩:=Value.isInt_shape (k:=i) (v:=v) h
   exact .inl ⟨i,t,rfl,e⟩
 | .inr x,v,h=>by
   obtain⟨t,e⟩:=Value.isStrOf_shape (x:=x) (v:=v) h
   exact .inr ⟨x,t,rfl,e⟩
theorem vZx (i:Int) (t:Tok):qZj (.inl i) (.int i t)=true:=by simp [qZj,Value.isInt]
theorem vZw (x:Str) (t:Tok):qZj (.inr x) (.str x t)=true:=by simp [qZj,Value.isStrOf]
theorem zWe (a b:Int):decide ((Sum.inl a:Key)=Sum.inl b)=(a == b):=by
 by_cases e:a=b
 ·subst e;simp
 ·have h:¬(Sum.inl a:Key)=Sum.inl b:=fun q=>e (Sum.inl.inj q)
  rw [decide_eq_false h]
  exact(beq_eq_false_iff_ne.mpr e).symm
theorem zWb (a b:Str):decide ((Sum.inr a:Key)=Sum.inr b)=decide (a=b):=by
 by_cases e:a=b
 ·subst e;simp
 ·have h:¬(Sum.inr a:Key)=Sum.inr b:=fun q=>e (Sum.inr.inj q)
  rw [decide_eq_false h,decide_eq_false e]
theorem zWd (a:Int) (b:Str):decide ((Sum.inl a:Key)=Sum.inr b)=false:=decide_eq_false (fun q=>nomatch q)
theorem zWc (a:Str) (b:Int):decide ((Sum.inr a:Key)=Sum.inl b)=false:=decide_eq_false (fun q=>nomatch q)
def vN (prog:aH) (w:bJ):PySem.KeyKind prog w Key where
 is:=qZj
 hash:=keyH w
 inj:=fun v a b ha hb=>by
  rcases vD ha with⟨i,t,rfl,rfl⟩ | ⟨x,t,rfl,rfl⟩
  ·rcases vD hb with⟨j,u,rfl,e⟩ | ⟨y,u,rfl,e⟩
   ·injection e with e1 _;rw [e1]
   ·exact nomatch e
  ·rcases vD hb with⟨j,u,rfl,e⟩ | ⟨y,u,rfl,e⟩
   ·exact nomatch e
   ·injection e with e1 _;rw [e1]
 byValue:=fun k v h=>by
  rcases vD h with⟨i,t,rfl,rfl⟩ | ⟨x,t,rfl,rfl⟩ <;> rfl
 pyHash:=fun hv h=>by
  rcases vD hv with⟨i,t,rfl,rfl⟩ | ⟨x,t,rfl,rfl⟩
  ·exact wpAny_pyHash_int h
  ·exact wpAny_pyHash_str h
 eqBool:=fun hu hv h=>by
  rcases vD hu with⟨i,t,rfl,rfl⟩ | ⟨x,t,rfl,rfl⟩
  ·rcases vD hv with⟨j,u,rfl,rfl⟩ | ⟨y,u,rfl,rfl⟩
   ·rw [zWe] at h;exact wpAny_eqBool_int h
   ·rw [zWd] at h;exact SeqAt.EqAt.int_str i t y u _ _ _ _ h
  ·rcases vD hv with⟨j,u,rfl,rfl⟩ | ⟨y,u,rfl,rfl⟩
   ·rw [zWc] at h;exact SeqAt.EqAt.str_int x t j u _ _ _ _ h
   ·rw [zWb] at h;exact wpAny_eqBool_str h
 «strs»:=fun k x t v h=>by
  rcases vD h with⟨i,u,rfl,e⟩ | ⟨y,u,rfl,e⟩
  ·exact nomatch e
  ·injection e with e1 _
   subst e1
   cases v <;> rfl
theorem qY5 (prog:aH) (w:bJ) (i:Int) (t:Tok):(vN prog w).is (.inl i) (.int i t)=true:=vZx i t
theorem qY4 (prog:aH) (w:bJ) (x:Str) (t:Tok):(vN prog w).is (.inr x) (.str x t)=true:=vZw x t
inductive V where
 | non | bl (b:Bool) | int (i:Int) | str (x:Str) | byt (b:Array UInt8) | flt (b:UInt64) | ref (a:aZ) | ty (n:String)
 deriving DecidableEq
def RelV:V->Value->Prop
 | .non,u=>u=Value.none
 | .bl b,u=>u=Value.bool b
 | .int i,u=>∃t,u=Value.int i t
 | .str x,u=>∃t,u=Value.str x t
 | .byt b,u=>∃t,u=Value.bytes b t
 | .flt b,u=>∃t,u=Value.float b t
 | .ref a,u=>u=Value.ref a
 | .ty n,u=>u=Value.type n
abbrev Vals:List V->List Value->Prop:=Paired RelV
theorem Vals.length {xs:List V} {us:List Value} (r:Vals xs us):xs.length=us.length:=Paired.length r
theorem Vals.get:∀ {xs:List V} {us:List Value} {i:Nat} {x:V},Vals xs us->xs[i]?=some x->∃u,us[i]?=some u/\RelV x u
 | _,_,_,_, .nil,e=>by simp at e
 | _,_,0,_, .cons r _,e=>by simp at e;subst e;exact⟨_,rfl,r⟩
 | _,_,i + 1,x, .cons _ t,e=>by
   obtain⟨u,h1,h2⟩:=Vals.get (i:=i) (x:=x) t (by simpa using e)
   exact⟨u,by simpa using h1,h2⟩
theorem Vals.append:∀ {xs ys:List V} {us ws:List Value},Vals xs us->Vals ys ws->Vals (xs ++ ys) (us ++ ws)
 | _,_,_,_, .nil,s=>s
 | _,_,_,_, .cons r t,s=> .cons r (Vals.append t s)
theorem Vals.take:∀ {xs:List V} {us:List Value} (n:Nat),Vals xs us->Vals (xs.take n) (us.take n)
 | _,_,0,_=> .nil
 | _,_,_ + 1, .nil=> .nil
 | _,_,n + 1, .cons r t=> .cons r (Vals.take n t)
theorem Vals.drop:∀ {xs:List V} {us:List Value} (n:Nat),Vals xs us->Vals (xs.drop n) (us.drop n)
 | _,_,0,r=>r
 | _,_,_ + 1, .nil=> .nil
 | _,_,n + 1, .cons _ t=>Vals.drop n t
def RelO:Option V->Option Value->Prop
 | some v,some u=>RelV v u
 | none,none=>True
 | _,_=>False
def KV {κ:Type}:List (κ×V)->List (κ×Value)->Prop:=Paired fun(p:κ×V) (q:κ×Value)=>p.1=q.1/\RelV p.2 q.2
def kV:Key->V
 | .inl i=> .int i
 | .inr x=> .str x
inductive HO where
  | lst (xs:List V)
  | tup (xs:List V)
  | dK (kvs:List (Key×V)) | dT (kvs:List (List Key×V))
  | set (S:Int->Bool) (n:Nat)
  | ins (C dx:aZ) (fs:List (Str×V))
  | own (x:aZ)
  | xd (fs:List (Str×V))
  | met (f x:aZ)
  | rng (lo hi:Int)
  | frz (o:Obj) (u:HO)
  | tbl (ps:Array Value)
 | tab (l c:Nat) (q:Str)
   | ext (φ:Heap->Prop)
abbrev Hp:=aZ->Option HO
def upd (H:Hp) (a:aZ) (o:HO):Hp:=fun b=>if b=a then some o else H b
theorem upd_same {H:Hp} {a:aZ} {o:HO}:upd H a o a=some o:=by unfold upd;rw [if_pos rfl]
theorem qU {H:Hp} {a b:aZ} {o:HO} (h:b≠a):upd H a o b=H b:=by unfold upd;rw [if_neg h]
theorem zX0 {H:Hp} {a b:aZ} {o u:HO} (h:H a=some o) (h' :H b=some u) (d:o≠u):a≠b:=by
 intro e;subst e;rw [h] at h';exact d (Option.some.inj h')
theorem qT {H:Hp} {a b:aZ} {o:HO} (h:H a=some o) (h' :H b=none):a≠b:=by
 intro e;subst e;rw [h] at h';cases h'
def TabL (H:Hp) (h:Heap) (a:aZ) (l c:Nat) (q:Str) (ps:List Value):Prop:=ps=[]\/∃c1 co fs t,ps=[rawInt l,rawInt c, .ref c1]/\H c1=some (.own a)/\h.get? c1=some co/\co.data= .fields fs/\fs[1]?=some (.str q t)
section
variable (P:aH) (w:bJ)
def vJ (H:Hp) (h:Heap) (a:aZ):HO->Prop
 | .lst xs=>xs.length<=bX/\∃(its:List Value) (n:Nat),Vals xs its/\h.get? a=some {cls:= .type "list",data:= .seq its.toArray n}
 | .tup xs=>xs.length<=bX/\∃its:List Value,Vals xs its/\IsTup h a its.toArray
 | .dK kvs=>kvs.length<=bX/\(a == eV)=false/\∃vs,KV kvs vs/\h.DictOf (vN P w) a vs
 | .dT kvs=>kvs.length<=bX/\(a == eV)=false/\∃xs:List (List Key×aZ×Value),
   Paired (fun(p:List Key×V) (q:List Key×aZ×Value)=>p.1=q.1/\H q.2.1=some (.tup (p.1.map kV))/\RelV p.2 q.2.2) kvs xs/\
   ∃o es ep,h.get? a=some o/\o.ExactDict/\o.data= .dict es ep/\es.toList=xs.map (entryOfKey (tupleKind (vN P w)))/\(xs.map (·.1)).Nodup
 | .set S n=>h.SetOf (intKind P w) a S n
 | .ins C dx fs=>H dx=some (.own a)/\fs.length<=1000/\dx≠a/\h.get? a=some (dR C dx)/\
   ∃mA,h.Ns1 dx mA/\(∀f,RelO (fs.lookup f) (mA f))/\PySem.Within mA (fs.map (·.1))
 | .own _=>∃o,h.get? a=some o
 | .xd fs=>∃mA,h.Ns1 a mA/\∀f,RelO (fs.lookup f) (mA f)
 | .rng lo hi=>∃t u v,h.get? a=some {cls:= .type "range",data:= .fields #[.int lo t, .int hi u, .int 1 v]}
 | .frz o u=>h.get? a=some o/\vJ H h a u
 | .tbl ps=>h.get? a=some {cls:= .none,data:= .fields ps}
 | .tab l c q=>∃ps,h.get? a=some {cls:= .none,data:= .fields ps}/\TabL H h a l c q ps.toList
 | .met f x=>h.get? a=some (PySem.W.methodObj (.ref f) (.ref x))
 | .ext φ=>φ h/\(∃o,h.get? a=some o)/\∀h1 h2:Heap,φ h1->(∀o,h1.get? a=some o->h2.get? a=some o)->φ h2
def HOk (H:Hp) (h:Heap):Prop:=∀a o,H a=some o->vJ P w H h a o
end
section
variable {P:aH} {w:bJ} {H H' :Hp} {h h' :Heap} {a:aZ} {o:HO}
theorem vJ.lt (x:vJ P w H h a o):a < h.objs.size:=by
 cases o with
 | lst xs=>obtain⟨_,_,_,_,e⟩:=x;exact aD e
 | tup xs=>obtain⟨_,_,_,p⟩:=x;exact p.lt
 | dK kvs=>obtain⟨_,_,_,_,o,_,_,e,_⟩:=x;exact aD e
 | dT kvs=>obtain⟨_,_,_,_,o,_,_,e,_⟩:=x;exact aD e
 | set S n=>obtain⟨o,_,_,_,e,_⟩:=x;exact aD e
 | ins C dx fs=>obtain⟨_,_,_,e,_⟩:=x;exact aD e
 | own y=>obtain⟨_,e⟩:=x;exact aD e
 | xd fs=>obtain⟨_,⟨_,_,_,e,_⟩,_⟩:=x;exact aD e
 | rng lo hi=>obtain⟨_,_,_,e⟩:=x;exact aD e
 | frz ob u=>obtain⟨e,_⟩:=x;exact aD e
 | tbl ps=>exact aD (show h.get? a=some _ from x)
 | tab l c q=>obtain⟨_,e,_⟩:=x;exact aD e
 | met f y=>exact aD (show h.get? a=some _ from x)
 | ext φ=>obtain⟨_,⟨_,e⟩,_⟩:=x;exact aD e
theorem Paired.mapP {α β:Type} {F G:α->β->Prop}:∀ {l₁:List α} {l₂:List β},Paired F l₁ l₂->(∀a b,F a b->G a b)->Paired G l₁ l₂
 | _,_, .nil,_=> .nil
 | _,_, .cons r t,f=> .cons (f _ _ r) (Paired.mapP t f)
theorem vJ.stay (x:vJ P w H h a o) (k:∀b u,(b=a\/H b=some (.own a))->h.get? b=some u->h'.get? b=some u)
  (ho:∀b,H b=some (.own a)->H' b=some (.own a)) (ht:∀b xs,H b=some (.tup xs)->H' b=some (.tup xs)):vJ P w H' h' a o:=by
 induction o with
 | lst xs=>obtain⟨z,its,n,r,e⟩:=x;exact⟨z,its,n,r,k _ _ (.inl rfl) e⟩
 | tup xs=>obtain⟨z,its,r,ob,e,c⟩:=x;exact⟨z,its,r,ob,k _ _ (.inl rfl) e,c⟩
 | dK kvs=>obtain⟨z,y,vs,r,ob,es,ep,e,c⟩:=x;exact⟨z,y,vs,r,ob,es,ep,k _ _ (.inl rfl) e,c⟩
 | dT kvs=>
   obtain⟨z,y,xs,r,ob,es,ep,e,c⟩:=x
   exact⟨z,y,xs,Paired.mapP r fun p q z=>⟨z.1,ht _ _ z.2.1,z.2.2⟩,ob,es,ep,k _ _ (.inl rfl) e,c⟩
 | set S n=>obtain⟨ob,es,ep,t,e,c⟩:=x;exact⟨ob,es,ep,t,k _ _ (.inl rfl) e,c⟩
 | ins C dx fs=>
   obtain⟨d,z,ne,e,mA,⟨od,es,ep,e2,c⟩,r⟩:=x
   exact⟨ho _ d,z,ne,k _ _ (.inl rfl) e,mA,⟨od,es,ep,k _ _ (.inr d) e2,c⟩,r⟩
 | own y=>obtain⟨ob,e⟩:=x;exact⟨ob,k _ _ (.inl rfl) e⟩
 | xd fs=>obtain⟨mA,⟨od,es,ep,e,c⟩,r⟩:=x;exact⟨mA,⟨od,es,ep,k _ _ (.inl rfl) e,c⟩,r⟩
 | rng lo hi=>obtain⟨t,u,v,e⟩:=x;exact⟨t,u,v,k _ _ (.inl rfl) e⟩
 | frz ob u ih=>obtain⟨e,q⟩:=x;exact⟨k _ _ (.inl rfl) e,ih q⟩
 | tbl ps=>
   have e:h.get? a=some {cls:= .none,data:= .fields ps}:=x
   show h'.get? a=some {cls:= .none,data:= .fields ps}
   exact k a _ (.inl rfl) e
 | tab l c q=>
   obtain⟨ps,e,t⟩:=x
   refine⟨ps,k a _ (.inl rfl) e,?_⟩
   rcases t with t | ⟨c,co,fs,tq,h1,h2,h3,h4⟩
   ·exact .inl t
   ·exact .inr ⟨c,co,fs,tq,h1,ho c h2,k c co (.inr h2) h3,h4⟩
 | met f y=>
   have e:h.get? a=some (PySem.W.methodObj (.ref f) (.ref y)):=x
   show h'.get? a=some (PySem.W.methodObj (.ref f) (.ref y))
   exact k a _ (.inl rfl) e
 | ext φ=>obtain⟨p,⟨o,e⟩,st⟩:=x;exact⟨st _ _ p fun o q=>k _ _ (.inl rfl) q,⟨o,k _ _ (.inl rfl) e⟩,st⟩
theorem HOk.lt (x:HOk P w H h) (e:H a=some o):a < h.objs.size:=(x a o e).lt
theorem HOk.fresh (x:HOk P w H h) (e:h.objs.size<=a):H a=none:=by
 cases q:H a with
 | none=>rfl
 | some u=>exact absurd (aM (x.lt q) e) (bN _)
theorem HOk.kept (x:HOk P w H h) (k:∀b u,h.get? b=some u->h'.get? b=some u):HOk P w H h' :=fun a o e=>
 (x a o e).stay (fun b u _ q=>k b u q) (fun _ q=>q) fun _ _ q=>q
theorem HOk.laid (x:HOk P w H h) (k:∀b u,h.get? b=some u->h'.get? b=some u) (hp:h.objs.size<=a) (new:vJ P w (upd H a o) h' a o):HOk P w (upd H a o) h' :=fun b u e=>by
 have hn:=x.fresh hp
 by_cases hb:b=a
 ·subst hb;rw [upd_same] at e;cases e;exact new
 ·rw [qU hb] at e
  exact(x b u e).stay (fun c v _ q=>k c v q) (fun c q=>by rw [qU (qT q hn)];exact q) fun c xs q=>by rw [qU (qT q hn)];exact q
end
def Rd (H:Hp) (a:aZ) (u:HO):Prop:=H a=some u\/∃o,H a=some (.frz o u)
theorem Rd.ok {P:aH} {w:bJ} {H:Hp} {h:Heap} {a:aZ} {u:HO} (r:Rd H a u) (x:HOk P w H h):vJ P w H h a u:=by
 rcases r with r | ⟨o,r⟩
 ·exact x a u r
 ·obtain⟨_,q⟩:=x a _ r
  exact q
def Mut:Option HO->Prop
 | some (.lst _)=>True
 | some (.dK _)=>True
 | some (.dT _)=>True
 | some (.set _ _)=>True
 | some (.ins _ _ _)=>True
 | some (.ext _)=>True
 | _=>False
section
variable {P:aH} {w:bJ} {H:Hp} {h h' :Heap} {x e:aZ} {o' :HO}
theorem HOk.write (ok:HOk P w H h) (mu:Mut (H x)) (he:e=x\/H e=some (.own x)) (k:∀b u,b≠e->h.get? b=some u->h'.get? b=some u) (heo:∃u,h'.get? e=some u)
  (new:vJ P w (upd H x o') h' x o'):HOk P w (upd H x o') h' :=fun b u q=>by
 have nown:∀c y,H c=some (.own y)->c≠x:=fun c y r z=>by subst z;rw [r] at mu;exact mu
 have ntup:∀c xs,H c=some (.tup xs)->c≠x:=fun c xs r z=>by subst z;rw [r] at mu;exact mu
 by_cases hb:b=x
 ·subst hb;rw [upd_same] at q;cases q;exact new
 ·rw [qU hb] at q
  by_cases hbe:b=e
  ·have q' :H b=some (.own x):=by
    rcases he with z | z
    ·exact absurd (hbe.trans z) hb
    ·rw [hbe];exact z
   rw [q] at q';cases q'
   obtain⟨v,hv⟩:=heo
   exact⟨v,by rw [hbe];exact hv⟩
  ·refine(ok b u q).stay (fun c v hc r=>k c v ?_ r) (fun c r=>by rw [qU (nown c b r)];exact r) fun c xs r=>by rw [qU (ntup c xs r)];exact r
   rcases hc with rfl | hc
   ·exact hbe
   ·rintro rfl
    rcases he with z | z
    ·exact nown c b hc z
    ·rw [hc] at z;cases z;exact hb rfl
end
structure Un (fs ex:List aZ) (H H' :Hp) (h h' :Heap):Prop where
 keep:∀b o,h.get? b=some o->H b=none->b∉fs->b∉ex->h'.get? b=some o
 slot:∀b o,h.get? b=some o->H b=none->b∈fs->b∉ex->∃sl,h'.get? b=some {o with slots:=sl}
 free:∀b o,h.get? b=some o->H b=none->b∉ex->H' b=none
 there:∀b o,h.get? b=some o->b∉ex->∃o',h'.get? b=some o'
 tups:∀b xs,H b=some (.tup xs)->H' b=some (.tup xs)
 frzs:∀b o u,H b=some (.frz o u)->H' b=some (.frz o u)
 tbls:∀b ps,H b=some (.tbl ps)->∃more,H' b=some (.tbl (ps ++ more))
section
variable {fs fs' ex ex' :List aZ} {H H1 H2:Hp} {h h1 h2 h' :Heap} {a x e:aZ} {o:HO}
theorem Un.any (u:Un fs ex H H1 h h1) {b:aZ} {ob:Obj} (q:h.get? b=some ob) (n:H b=none) (hx:b∉ex):∃sl,h1.get? b=some {ob with slots:=sl}:=by
 by_cases hb:b∈fs
 ·exact u.slot b ob q n hb hx
 ·exact⟨ob.slots,u.keep b ob q n hb hx⟩
theorem Un.kept (k:∀b u,h.get? b=some u->h'.get? b=some u):Un fs ex H H h h' :=
 ⟨fun b ob q _ _ _=>k b ob q,fun b ob q _ _ _=>⟨ob.slots,k b ob q⟩,fun _ _ _ n _=>n,fun b ob q _=>⟨ob,k b ob q⟩,fun _ _ q=>q,fun _ _ _ q=>q,fun _ ps q=>⟨#[],by rw [q];simp⟩⟩
theorem Un.refl:Un fs ex H H h h:=Un.kept fun _ _ q=>q
theorem Un.laid (k:∀b u,h.get? b=some u->h'.get? b=some u) (hp:h.objs.size<=a) (hn:H a=none):Un fs ex H (upd H a o) h h' where
 keep:=fun b u q _ _ _=>k b u q
 slot:=fun b u q _ _ _=>⟨u.slots,k b u q⟩
 free:=fun b u q n _=>by rw [qU (bZ (aM (aD q) hp))];exact n
 there:=fun b u q _=>⟨u,k b u q⟩
 tups:=fun b xs q=>by rw [qU (qT q hn)];exact q
 frzs:=fun b u xs q=>by rw [qU (qT q hn)];exact q
 tbls:=fun b ps q=>⟨#[],by rw [qU (qT q hn),q];simp⟩
theorem Un.write (mu:Mut (H x)) (he:e=x\/H e=some (.own x)) (k:∀b u,b≠e->h.get? b=some u->h'.get? b=some u) (heo:∃u,h'.get? e=some u):Un fs ex H (upd H x o) h h' :=by
 have hx:∀b,H b=none->b≠x:=fun b n z=>by subst z;rw [n] at mu;exact mu
 have hb:∀b,H b=none->b≠e:=fun b n z=>by
  subst z
  rcases he with r | r
  ·exact hx b n r
  ·rw [n] at r;cases r
 have hm:∀b u,H b=some u->¬Mut (some u)->b≠x:=fun b u q nm z=>by subst z;rw [q] at mu;exact nm mu
 refine⟨fun b u q n _ _=>k b u (hb b n) q,fun b u q n _ _=>⟨u.slots,k b u (hb b n) q⟩,fun b u q n _=>by rw [qU (hx b n)];exact n,fun b u q _=>?_,
  fun b xs q=>by rw [qU (hm b _ q fun z=>z)];exact q,fun b u xs q=>by rw [qU (hm b _ q fun z=>z)];exact q,fun b ps q=>⟨#[],by rw [qU (hm b _ q fun z=>z),q];simp⟩⟩
 by_cases hbe:b=e
 ·subst hbe;exact heo
 ·exact⟨u,k b u hbe q⟩
end
def trk (h:Heap) (H:Hp):List aZ:=(List.range h.objs.size).filter fun a=>(H a).isSome
def hidT (h:Heap) (H:Hp):Heap:=PySem.W.hideAll h (trk h H)
theorem vZ0 (h:Heap) (H:Hp):(hidT h H).objs.size=h.objs.size:=PySem.W.hideAll_size _ _
theorem vYh {h:Heap} {H:Hp} {b:aZ} {o:Obj} (e:h.get? b=some o) (n:H b=none):(hidT h H).get? b=some o:=
 PySem.W.hideAll_get _ e fun hm=>by
  have q:(H b).isSome=true:=(cL.mp hm).2
  rw [n] at q;simp at q
theorem zQh {h:Heap} {H:Hp} {b:aZ} {o:Obj} (e:(hidT h H).get? b=some o):h.get? b=some o/\H b=none:=by
 have e' :h.get? b=some o:=PySem.W.of_hideAll (trk h H) e
 refine⟨e',?_⟩
 cases q:H b with
 | none=>rfl
 | some x=>
   have hm:b∈trk h H:=cL.mpr ⟨List.mem_range.mpr (aD e'),by simp [q]⟩
   have z:(hidT h H).get? b=none:=PySem.W.hideAll_none (trk h H) hm
   rw [z] at e;cases e
structure Mod (K:aQ) (mg:Str->Option Value) (base:Heap):Prop where
 kin:K.In base
 glob:base.Ns cK mg
 blt:∃mb,base.Ns builtinsNs mb/\∀x:Str,x≠"__name__"->mb x=cO x
 nolimit:base.NoLimit
structure Cx where
 prog:aH
 w:bJ
 K:aQ
 mg:Str->Option Value
 base:Heap
 A:bF
 N:List Str
 s₀:aJ
 H₀:Hp
 env:Env
 outer:List Env
 stack:List Env
 ex:List aZ
 fn:Str->Bool
 calm:Bool
 pn:List (aZ×Obj)
 xe:Value->aJ->Prop
def frs (l:List Env):List aZ:=l.filterMap (·.frame)
abbrev Cx.fs (X:Cx):List aZ:=frs X.outer
def Vis (sc:Scope) (x:Str):Prop:=sc.names.lookup x=some .local\/sc.names.lookup x=some .cell\/sc.names.lookup x=some .free
def Loc (sc:Scope) (x:Str):Prop:=sc.names.lookup x=some .local\/sc.names.lookup x=some .cell
def Look (env:Env) (h:Heap) (m:Str->Option Value) (x:Str) (u:Value):Prop:=
 (env.kindOf x=some .local/\m x=some u)\/((env.kindOf x=some .cell\/env.kindOf x=some .free)/\∃c,env.cells.lookup x=some c/\h.IsCell c (some u))
structure Cx.Ok (X:Cx):Prop where
 mod:Mod X.K X.mg X.base
 kind:X.env.scope.kind= .function
 glob:X.env.globals=cK
 blt:X.env.builtins=builtinsNs
 above:X.s₀.heap.objs.size<=X.env.locals
 inj:∀x y c,X.env.cells.lookup x=some c->X.env.cells.lookup y=some c->x=y
 has:∀x,(X.env.kindOf x=some .cell\/X.env.kindOf x=some .free)->∃c,X.env.cells.lookup x=some c
 cab:∀x c,X.fn x=true->X.env.cells.lookup x=some c->X.s₀.heap.objs.size<=c
 hd:X.calm=true->X.A.handled=none
 frames:X.A.frames=some X.stack
 stk:X.stack=X.outer\/(X.stack=X.env::X.outer/\X.env.frame=some X.env.locals)
 exf:∀b∈X.ex,b≠X.env.locals/\∀x c,X.env.cells.lookup x=some c->c≠b
 bs:∀b o,X.base.get? b=some o->X.s₀.heap.get? b=some o/\X.H₀ b=none
 bsz:X.base.objs.size<=X.s₀.heap.objs.size
 noex:∀b o,X.base.get? b=some o->b∉X.ex
 exfs:∀b∈X.ex,b∉X.fs
 funs:X.s₀.heap.FunFrames X.base X.outer
 frf:∀b∈X.fs,X.H₀ b=none
structure Inv (X:Cx) (pins:List (aZ×Obj)) (σ:List (Option V)) (H:Hp) (s:aJ):Prop where
 ok:X.Ok
 os:s.os=X.s₀.os
 bare:AllBare s.gens
 base:Un X.fs X.ex X.H₀ H X.s₀.heap s.heap
 loc:∃m,s.heap.Ns X.env.locals m/\∀(i:Nat) (x:Str) (v:V),X.N[i]?=some x->σ[i]?=some (some v)->Vis X.env.scope x->∃u,RelV v u/\Look X.env s.heap m x u
 cell:∀x c,X.env.cells.lookup x=some c->∃v,s.heap.IsCell c v
 free:H X.env.locals=none
 freeC:∀x c,X.env.cells.lookup x=some c->H c=none
 pin:∀p∈X.pn ++ pins,s.heap.get? p.1=some p.2/\H p.1=none/\p.1≠X.env.locals/\p.1∉X.fs/\∀v,p.2.data≠ .cell v
 hok:HOk X.prog X.w H s.heap
 len:σ.length=X.N.length
section
variable {X:Cx} {pins:List (aZ×Obj)} {σ:List (Option V)} {H H' :Hp} {s:aJ} {h' :Heap}
theorem Cx.Ok.nofr (ok:X.Ok) {b:aZ} {o:Obj} (e:X.base.get? b=some o):b∉X.fs:=fun hb=>by
 have:=(ok.funs.mem hb).1
 rw [e] at this;cases this
theorem Inv.bs (I:Inv X pins σ H s):∀b o,X.base.get? b=some o->s.heap.get? b=some o/\H b=none:=fun b o e=>
 ⟨I.base.keep b o (I.ok.bs b o e).1 (I.ok.bs b o e).2 (I.ok.nofr e) (I.ok.noex b o e),I.base.free b o (I.ok.bs b o e).1 (I.ok.bs b o e).2 (I.ok.noex b o e)⟩
theorem Inv.bk (I:Inv X pins σ H s):∀b o,X.base.get? b=some o->s.heap.get? b=some o:=fun b o e=>(I.bs b o e).1
theorem Inv.mod (I:Inv X pins σ H s):Mod X.K X.mg X.base:=I.ok.mod
theorem Inv.kIn (I:Inv X pins σ H s):X.K.In s.heap:=I.ok.mod.kin.keeps I.bk
theorem Inv.lt (I:Inv X pins σ H s):X.env.locals < s.heap.objs.size:=let ⟨_,hn,_⟩:=I.loc;hn.lt
theorem Inv.sz (I:Inv X pins σ H s):X.s₀.heap.objs.size<=s.heap.objs.size:=bT I.ok.above (dL I.lt)
theorem Inv.nofs (I:Inv X pins σ H s) {a:aZ} (h:s.heap.objs.size<=a):a∉X.fs:=fun hb=>by
 obtain⟨_,o,ho,_⟩:=I.ok.funs.mem hb
 exact absurd (aM (aD ho) (bT I.sz h)) (bN _)
theorem Inv.cne (I:Inv X pins σ H s):∀x c,X.env.cells.lookup x=some c->c≠X.env.locals:=fun x c e z=>by
 obtain⟨v,o,ho,hd⟩:=I.cell x c e
 obtain⟨m,⟨o',es,ep,ho',hd',_⟩,_⟩:=I.loc
 rw [z,ho'] at ho;cases ho;rw [hd'] at hd;cases hd
theorem Inv.funs (I:Inv X pins σ H s):s.heap.FunFrames X.base X.outer:=by
 have all:∀(l:List Env),(∀b∈frs l,b∈X.fs)->X.s₀.heap.FunFrames X.base l->s.heap.FunFrames X.base l:=by
  intro l
  induction l with
  | nil=>intro _ _;trivial
  | cons env r ih=>
    intro hs hl
    obtain⟨hk,⟨L,o,hf,hn,ho,hd⟩,hr⟩:=hl
    have hL:L∈X.fs:=hs L (by unfold frs;rw [List.filterMap_cons,hf];exact aI)
    obtain⟨sl,e⟩:=I.base.slot L o ho (I.ok.frf L hL) hL fun z=>I.ok.exfs L z hL
    exact⟨hk,⟨L,_,hf,hn,e,hd⟩,ih (fun b hb=>hs b (by unfold frs;rw [List.filterMap_cons,hf];exact aE _ hb)) hr⟩
 exact all X.outer (fun _ hb=>hb) I.ok.funs
theorem Inv.stack (I:Inv X pins σ H s):s.heap.FunFrames X.base X.stack:=by
 rcases I.ok.stk with e | ⟨e,hf⟩
 ·rw [e];exact I.funs
 ·rw [e]
  obtain⟨m,hn,_⟩:=I.loc
  refine .cons (by rw [I.ok.kind];decide) hf hn ?_ I.funs
  exact Heap.get?_none_of_le (bT I.ok.bsz I.ok.above)
theorem Inv.stkSub (I:Inv X pins σ H s):∀b∈frs X.stack,b∈X.env.locals::X.fs:=fun b hb=>by
 rcases I.ok.stk with e | ⟨e,hf⟩
 ·rw [e] at hb;exact aE _ hb
 ·rw [e] at hb
  unfold frs at hb
  rw [List.filterMap_cons,hf] at hb
  exact hb
theorem Inv.stkFree (I:Inv X pins σ H s):∀b∈frs X.stack,H b=none:=fun b hb=>by
 rcases aB.mp (I.stkSub b hb) with e | hb
 ·rw [e];exact I.free
 ·obtain⟨_,o,ho,_⟩:=I.ok.funs.mem hb
  exact I.base.free b o ho (I.ok.frf b hb) fun z=>I.ok.exfs b z hb
theorem Inv.step {g' :Array GenState} {t' :Nat} {d' :Drawn} {ch:List aZ} (I:Inv X pins σ H s)
  (hch:∀b∈ch,(b∈X.ex\/X.s₀.heap.objs.size<=b)/\b≠X.env.locals/\(∀x c,X.env.cells.lookup x=some c->c≠b)/\∀p∈X.pn ++ pins,p.1≠b)
  (keep:∀b o,b≠X.env.locals->b∉X.fs->b∉ch->s.heap.get? b=some o->H b=none->h'.get? b=some o)
  (slot:∀b o,b≠X.env.locals->b∈X.fs->b∉ch->s.heap.get? b=some o->H b=none->∃sl,h'.get? b=some {o with slots:=sl}) (free:∀b o,b∉ch->s.heap.get? b=some o->H b=none->H' b=none)
  (there:∀b o,b∉ch->s.heap.get? b=some o->∃o',h'.get? b=some o')
  (tups:∀b xs,H b=some (.tup xs)->H' b=some (.tup xs)) (frzs:∀b o u,H b=some (.frz o u)->H' b=some (.frz o u)) (tbls:∀b ps,H b=some (.tbl ps)->∃more,H' b=some (.tbl (ps ++ more)))
  (ns:∀m,s.heap.Ns X.env.locals m->h'.Ns X.env.locals m) (hok:HOk X.prog X.w H' h') (hg:AllBare g'):
  Inv X pins σ H' {s with heap:=h',gens:=g',drawn:=d',toks:=t' }:=by
 have neL:∀b o,X.s₀.heap.get? b=some o->b≠X.env.locals:=fun b o e=>bZ (aM (aD e) I.ok.above)
 have neC:∀b o,X.s₀.heap.get? b=some o->b∉X.ex->b∉ch:=fun b o e hx hb=>by
  rcases(hch b hb).1 with z | z
  ·exact hx z
  ·exact absurd (aM (aD e) z) (bN _)
 have cellK:∀x c,X.env.cells.lookup x=some c->∀v,s.heap.IsCell c v->h'.IsCell c v:=fun x c e v ⟨o,ho,hd⟩=>by
  have nch:c∉ch:=fun z=>(hch c z).2.2.1 x c e rfl
  by_cases hc:c∈X.fs
  ·obtain⟨sl,q⟩:=slot c o (I.cne x c e) hc nch ho (I.freeC x c e)
   exact⟨_,q,hd⟩
  ·exact⟨o,keep c o (I.cne x c e) hc nch ho (I.freeC x c e),hd⟩
 refine⟨I.ok,I.os,hg,⟨fun b o e n hb hx=>?_,fun b o e n hb hx=>?_,fun b o e n hx=>?_,fun b o e hx=>?_,fun b xs e=>tups b xs (I.base.tups b xs e),fun b o xs e=>frzs b o xs (I.base.frzs b o xs e),fun b ps e=>?_⟩,?_,fun x c e=>?_,?_,fun x c e=>?_,fun p hp=>?_,hok,I.len⟩
 ·exact keep b o (neL b o e) hb (neC b o e hx) (I.base.keep b o e n hb hx) (I.base.free b o e n hx)
 ·obtain⟨sl,e1⟩:=I.base.slot b o e n hb hx
  obtain⟨sl',e2⟩:=slot b _ (neL b o e) hb (neC b o e hx) e1 (I.base.free b o e n hx)
  exact⟨sl',e2⟩
 ·obtain⟨o',e1⟩:=I.base.there b o e hx
  exact free b o' (neC b o e hx) e1 (I.base.free b o e n hx)
 ·obtain⟨o',e1⟩:=I.base.there b o e hx
  exact there b o' (neC b o e hx) e1
 ·obtain⟨m1,e1⟩:=I.base.tbls b ps e
  obtain⟨m2,e2⟩:=tbls b _ e1
  exact⟨m1 ++ m2,by rw [e2,Array.append_assoc]⟩
 ·obtain⟨m,hn,hl⟩:=I.loc
  refine⟨m,ns m hn,fun i x v e1 e2 e3=>?_⟩
  obtain⟨u,r,l⟩:=hl i x v e1 e2 e3
  refine⟨u,r,?_⟩
  rcases l with l | ⟨k,c,e,z⟩
  ·exact .inl l
  ·exact .inr ⟨k,c,e,cellK x c e _ z⟩
 ·obtain⟨v,z⟩:=I.cell x c e
  exact⟨v,cellK x c e v z⟩
 ·obtain⟨m,⟨o,_,_,ho,_⟩,_⟩:=I.loc
  exact free _ o (fun z=>(hch _ z).2.1 rfl) ho I.free
 ·obtain⟨v,o,ho,hd⟩:=I.cell x c e
  exact free c o (fun z=>(hch c z).2.2.1 x c e rfl) ho (I.freeC x c e)
 ·obtain⟨e,n,ne,nf,d⟩:=I.pin p hp
  have nch:p.1∉ch:=fun z=>(hch p.1 z).2.2.2 p hp rfl
  exact⟨keep p.1 p.2 ne nf nch e n,free p.1 p.2 nch e n,ne,nf,d⟩
theorem Inv.un {t' :Nat} (I:Inv X pins σ H s) (u:Un X.fs [] H H' s.heap h') (hok:HOk X.prog X.w H' h'):Inv X pins σ H' {s with heap:=h',toks:=t' }:=by
 obtain⟨m,⟨o,es,ep,ho,r⟩,_⟩:=id I.loc
 obtain⟨sl,hL⟩:=u.any ho I.free (by simp)
 exact I.step (g' :=s.gens) (d' :=s.drawn) (ch:=[]) (fun _ z=>nomatch z) (fun b o _ hb _ e n=>u.keep b o e n hb (by simp)) (fun b o _ hb _ e n=>u.slot b o e n hb (by simp)) (fun b o _ e n=>u.free b o e n (by simp)) (fun b o _ e=>u.there b o e (by simp)) u.tups u.frzs u.tbls (fun m' hm=>by
  obtain⟨o',es',ep',ho',r'⟩:=hm
  rw [ho] at ho';cases ho'
  exact⟨_,es',ep',hL,r'⟩) hok I.bare
theorem Inv.call {g' :Array GenState} {t' :Nat} {d' :Drawn} {ch:List aZ} (I:Inv X pins σ H s) (u:Un (frs X.stack) ch H H' s.heap h') (hok:HOk X.prog X.w H' h') (hg:AllBare g')
  (hch:∀b∈ch,(b∈X.ex\/X.s₀.heap.objs.size<=b)/\b≠X.env.locals/\(∀x c,X.env.cells.lookup x=some c->c≠b)/\∀p∈X.pn ++ pins,p.1≠b):
  Inv X pins σ H' {s with heap:=h',gens:=g',drawn:=d',toks:=t' }:=by
 obtain⟨m,⟨o,es,ep,ho,r⟩,_⟩:=id I.loc
 obtain⟨sl,hL⟩:=u.any ho I.free fun z=>(hch _ z).2.1 rfl
 exact I.step (ch:=ch) hch (fun b o hL hb hc e n=>u.keep b o e n (fun z=>(aB.mp (I.stkSub b z)).elim hL hb) hc) (fun b o _ _ hc e n=>u.any e n hc) (fun b o hc e n=>u.free b o e n hc) (fun b o hc e=>u.there b o e hc) u.tups u.frzs u.tbls (fun m' hm=>by
  obtain⟨o',es',ep',ho',r'⟩:=hm
  rw [ho] at ho';cases ho'
  exact⟨_,es',ep',hL,r'⟩) hok hg
theorem Inv.turned {t' :Nat} {it:aZ} (I:Inv X pins σ H s) (k:∀b o,b≠it->s.heap.get? b=some o->h'.get? b=some o) (hn:H it=none) (hL:it≠X.env.locals)
  (h1:it∈X.ex\/X.s₀.heap.objs.size<=it) (h2:∀x c,X.env.cells.lookup x=some c->c≠it) (h3:∀p∈X.pn ++ pins,p.1≠it):Inv X pins σ H {s with heap:=h',toks:=t' }:=by
 have nit:∀b u,H b=some u->b≠it:=fun b u e z=>by rw [z,hn] at e;cases e
 refine I.step (g' :=s.gens) (d' :=s.drawn) (ch:=[it]) (fun b hb=>?_) (fun b o _ _ hc e _=>k b o (fun z=>hc (by simp [z])) e) (fun b o _ _ hc e _=>⟨o.slots,k b o (fun z=>hc (by simp [z])) e⟩) (fun _ _ _ _ n=>n)
  (fun b o hc e=>⟨o,k b o (fun z=>hc (by simp [z])) e⟩) (fun _ _ e=>e) (fun _ _ _ e=>e) (fun b ps e=>⟨#[],by rw [e];simp⟩) (fun m hm=>?_) (fun b u e=>?_) I.bare
 ·have e:b=it:=by simpa using hb
  subst e
  exact⟨h1,hL,h2,h3⟩
 ·obtain⟨o,es,ep,ho,r⟩:=hm
  exact⟨o,es,ep,k _ o (Ne.symm hL) ho,r⟩
 ·refine(I.hok b u e).stay (fun c v hc q=>k c v ?_ q) (fun _ q=>q) fun _ _ q=>q
  rcases hc with z | z
  ·rw [z];exact nit b u e
  ·exact nit c _ z
theorem Inv.tok (I:Inv X pins σ H s) (t:Nat):Inv X pins σ H {s with toks:=t}:=I.un (h' :=s.heap) (t' :=t) Un.refl I.hok
theorem Inv.kept {t' :Nat} (I:Inv X pins σ H s) (k:∀b u,s.heap.get? b=some u->h'.get? b=some u):Inv X pins σ H {s with heap:=h',toks:=t' }:=I.un (Un.kept k) (I.hok.kept k)
theorem Inv.laid {a:aZ} {o:HO} {t' :Nat} (I:Inv X pins σ H s) (k:∀b u,s.heap.get? b=some u->h'.get? b=some u) (hp:s.heap.objs.size<=a) (new:vJ X.prog X.w (upd H a o) h' a o):
  Inv X pins σ (upd H a o) {s with heap:=h',toks:=t' }:=I.un (Un.laid k hp (I.hok.fresh hp)) (I.hok.laid k hp new)
theorem Inv.write {x e:aZ} {o:HO} {t' :Nat} (I:Inv X pins σ H s) (mu:Mut (H x)) (he:e=x\/H e=some (.own x)) (k:∀b u,b≠e->s.heap.get? b=some u->h'.get? b=some u) (heo:∃u,h'.get? e=some u)
  (new:vJ X.prog X.w (upd H x o) h' x o):Inv X pins σ (upd H x o) {s with heap:=h',toks:=t' }:=I.un (Un.write mu he k heo) (I.hok.write mu he k heo new)
theorem Inv.pins_of {pins' :List (aZ×Obj)} (I:Inv X pins σ H s) (h:∀p∈pins',s.heap.get? p.1=some p.2/\H p.1=none/\p.1≠X.env.locals/\p.1∉X.fs/\∀v,p.2.data≠ .cell v):Inv X pins' σ H s:=
 ⟨I.ok,I.os,I.bare,I.base,I.loc,I.cell,I.free,I.freeC,fun p hp=>(bL.mp hp).elim (fun z=>I.pin p (dU _ z)) (h p),I.hok,I.len⟩
theorem qYq {N:List Str} (hN:N.Nodup) {i j:Nat} {x:Str} (a:N[i]?=some x) (b:N[j]?=some x):i=j:=by
 obtain⟨h1,e1⟩:=aT.mp a
 obtain⟨h2,e2⟩:=aT.mp b
 exact(List.getElem_inj hN).mp (e1.trans e2.symm)
theorem vV4 {M:Model} {A:bF} {E:Value->aJ->Prop} {i:Nat} {x:Str} {v:V} {u:Value} {Q:Unit->aJ->Prop} (I:Inv X pins σ H s) (hN:X.N.Nodup) (hi:X.N[i]?=some x) (hx:Loc X.env.scope x) (r:RelV v u)
  (h:∀s',Inv X pins (σ.set i (some v)) H s' ->(∃a,eB a s.heap s'.heap/\(a=X.env.locals\/X.env.cells.lookup x=some a))->Q () s') (hf:X.fn x=true\/X.env.scope.names.lookup x=some .local:=by first | exact .inl rfl | exact .inr rfl | assumption):aR M A (storeName X.env x u) Q E s:=by
 obtain⟨m,hn,hl⟩:=id I.loc
 have hcls:(X.env.scope.kind == .class || (X.env.scope.kind == .module && X.env.locals != X.env.globals))=false:=by rw [I.ok.kind];rfl
 have hiσ:i < σ.length:=by rw [I.len];exact(aT.mp hi).1
 have cne:=I.cne
 have tracked:∀ {a:aZ} {h' :Heap},(∃o,s.heap.get? a=some o/\H a=none)->eB a s.heap h' ->HOk X.prog X.w H h' :=fun {a h'} ha hs b ob e=>by
  obtain⟨_,_,hfree⟩:=ha
  refine(I.hok b ob e).stay (fun c w' hc q=>(hs.2 c ?_).trans q) (fun _ q=>q) fun _ _ q=>q
  rintro rfl
  rcases hc with rfl | hc
  ·rw [hfree] at e;cases e
  ·rw [hfree] at hc;cases hc
 rcases hx with hk | hk
 ·refine wpAny_storeName_local hk hn (fun h' hn' hs=>?_) hcls
  obtain⟨oL,_,_,hoL,_⟩:=id hn
  refine h _ ⟨I.ok,I.os,I.bare,⟨fun b o e n hb hx=>?_,fun b o e n hb hx=>?_,I.base.free,fun b o e hx=>?_,I.base.tups,I.base.frzs,I.base.tbls⟩,⟨_,hn',fun j y v' e1 e2 e3=>?_⟩,fun y c e=>?_,I.free,I.freeC,fun p hp=>?_,tracked ⟨oL,hoL,I.free⟩ hs,by simpa using I.len⟩ ⟨_,hs, .inl rfl⟩
  ·exact(hs.2 b (bZ (aM (aD e) I.ok.above))).trans (I.base.keep b o e n hb hx)
  ·obtain⟨sl,e1⟩:=I.base.slot b o e n hb hx
   exact⟨sl,(hs.2 b (bZ (aM (aD e) I.ok.above))).trans e1⟩
  ·obtain⟨o',e1⟩:=I.base.there b o e hx
   exact⟨o',(hs.2 b (bZ (aM (aD e) I.ok.above))).trans e1⟩
  ·by_cases hj:j=i
   ·subst hj
    rw [hi] at e1;cases e1
    rw [eG hiσ] at e2
    cases e2
    exact⟨u,r, .inl ⟨hk,by simp⟩⟩
   ·rw [bE (Ne.symm hj)] at e2
    obtain⟨u',r',q⟩:=hl j y v' e1 e2 e3
    refine⟨u',r',?_⟩
    rcases q with⟨k,e⟩ | ⟨k,c,e,z⟩
    ·refine .inl ⟨k,?_⟩
     have:y≠x:=fun e=>hj (qYq hN e1 (e▸hi))
     simp [this,e]
    ·exact .inr ⟨k,c,e,z.sameBut hs (cne y c e)⟩
  ·obtain⟨w',z⟩:=I.cell y c e
   exact⟨w',z.sameBut hs (cne y c e)⟩
  ·obtain⟨e,n,ne,nf,d⟩:=I.pin p hp
   exact⟨(hs.2 p.1 ne).trans e,n,ne,nf,d⟩
 ·have hfn:X.fn x=true:=by
   rcases hf with z | z
   ·exact z
   ·rw [z] at hk;cases hk
  obtain⟨c,hc⟩:=I.ok.has x (.inl hk)
  obtain⟨w',z⟩:=I.cell x c hc
  refine wpAny_storeName_cell I.ok.kind hk hc z (fun h' hc' hs=>?_)
  obtain⟨oc,hoc,hocd⟩:=id z
  refine h {s with heap:=h' } ⟨I.ok,I.os,I.bare,⟨fun b o e n hb hx=>?_,fun b o e n hb hx=>?_,I.base.free,fun b o e hx=>?_,I.base.tups,I.base.frzs,I.base.tbls⟩,⟨m,hn.sameBut hs (Ne.symm (cne x c hc)),fun j y v' e1 e2 e3=>?_⟩,fun y c' e=>?_,I.free,I.freeC,fun p hp=>?_,tracked ⟨oc,hoc,I.freeC x c hc⟩ hs,by simpa using I.len⟩ ⟨c,hs, .inr hc⟩
  ·exact(hs.2 b (bZ (aM (aD e) (I.ok.cab x c hfn hc)))).trans (I.base.keep b o e n hb hx)
  ·obtain⟨sl,e1⟩:=I.base.slot b o e n hb hx
   exact⟨sl,(hs.2 b (bZ (aM (aD e) (I.ok.cab x c hfn hc)))).trans e1⟩
  ·obtain⟨o',e1⟩:=I.base.there b o e hx
   exact⟨o',(hs.2 b (bZ (aM (aD e) (I.ok.cab x c hfn hc)))).trans e1⟩
  ·by_cases hj:j=i
   ·subst hj
    rw [hi] at e1;cases e1
    rw [eG hiσ] at e2
    cases e2
    exact⟨u,r, .inr ⟨.inl hk,c,hc,hc'⟩⟩
   ·rw [bE (Ne.symm hj)] at e2
    obtain⟨u',r',q⟩:=hl j y v' e1 e2 e3
    refine⟨u',r',?_⟩
    rcases q with q | ⟨k,c',e,z'⟩
    ·exact .inl q
    ·refine .inr ⟨k,c',e,z'.sameBut hs ?_⟩
     rintro rfl
     exact hj (qYq hN e1 (I.ok.inj _ _ _ e hc▸hi))
  ·by_cases hcc:c' =c
   ·subst hcc;exact⟨_,hc'⟩
   ·obtain⟨w2,z2⟩:=I.cell y c' e
    exact⟨w2,z2.sameBut hs hcc⟩
  ·obtain⟨e,n,ne,nf,d⟩:=I.pin p hp
   refine⟨(hs.2 p.1 ?_).trans e,n,ne,nf,d⟩
   intro q
   rw [q,hoc] at e
   have q' :oc=p.2:=Option.some.inj e
   exact d w' (by rw [←q'];exact hocd)
theorem qZ2 {M:Model} {A:bF} {E:Value->aJ->Prop} {i:Nat} {x:Str} {v:V} {u:Value} {Q:Unit->aJ->Prop} (I:Inv X pins σ H s) (hN:X.N.Nodup) (hi:X.N[i]?=some x) (hx:Loc X.env.scope x) (r:RelV v u)
  (h:∀s',Inv X pins (σ.set i (some v)) H s' ->Q () s') (hf:X.fn x=true\/X.env.scope.names.lookup x=some .local:=by first | exact .inl rfl | exact .inr rfl | assumption):aR M A (storeName X.env x u) Q E s:=
 vV4 I hN hi hx r (fun s' I' _=>h s' I') hf
theorem Inv.call' {s' :aJ} {ch:List aZ} (I:Inv X pins σ H s) (ho:s'.os=s.os) (u:Un (frs X.stack) ch H H' s.heap s'.heap) (hok:HOk X.prog X.w H' s'.heap) (hg:AllBare s'.gens)
  (hch:∀b∈ch,(b∈X.ex\/X.s₀.heap.objs.size<=b)/\b≠X.env.locals/\(∀x c,X.env.cells.lookup x=some c->c≠b)/\∀p∈X.pn ++ pins,p.1≠b):Inv X pins σ H' s' :=by
 obtain⟨h',g',d',t',o'⟩:=s'
 have e:o' =s.os:=ho
 subst e
 exact I.call (g' :=g') (t' :=t') (d' :=d') u hok hg hch
end
abbrev XK:=Value->Option aZ->Hp->Prop
abbrev St:=List (Option V)
abbrev VK:=V->Hp->Prop
abbrev TE:=St->Hp->VK->Prop
abbrev TT:=St->Hp->(Bool->Hp->Prop)->Prop
abbrev TA:=St->Hp->(List V->Hp->Prop)->Prop
structure Ends where
 nx:St->Hp->Prop
 rt:VK
 bk:St->Hp->Prop:=fun _ _=>False
 ct:St->Hp->Prop:=fun _ _=>False
abbrev TS:=Ends->St->Hp->Prop
def EP (X:Cx) (pins:List (aZ×Obj)) (σ:St) (Q:VK) (u:Value) (s' :aJ):Prop:=∃v H',Inv X pins σ H' s' /\RelV v u/\Q v H'
def TP (X:Cx) (pins:List (aZ×Obj)) (σ:St) (Q:Bool->Hp->Prop) (b:Bool) (s' :aJ):Prop:=∃H',Inv X pins σ H' s' /\Q b H'
def AP (X:Cx) (pins:List (aZ×Obj)) (σ:St) (Q:List V->Hp->Prop) (us:List Value) (s' :aJ):Prop:=∃vs H',Inv X pins σ H' s' /\Vals vs us/\Q vs H'
def SP (X:Cx) (pins:List (aZ×Obj)) (D:Ends) (f:Flow) (s' :aJ):Prop:=
 match f with
 | .next=>∃σ' H',Inv X pins σ' H' s' /\D.nx σ' H'
 | .brk=>∃σ' H',Inv X pins σ' H' s' /\D.bk σ' H'
 | .cont=>∃σ' H',Inv X pins σ' H' s' /\D.ct σ' H'
 | .ret u=>∃v σ' H',Inv X pins σ' H' s' /\RelV v u/\D.rt v H'
def PE (X:Cx) (e:Expr) (t:TE):Prop:=
 ∀(pins:List (aZ×Obj)) (s:aJ) (σ:St) (H:Hp) (Q:VK),Inv X pins σ H s->t σ H Q->aR (model X.prog X.w) X.A (eval e X.env) (EP X pins σ Q) X.xe s
def PT (X:Cx) (e:Expr) (t:TT):Prop:=
 ∀(pins:List (aZ×Obj)) (s:aJ) (σ:St) (H:Hp) (Q:Bool->Hp->Prop),Inv X pins σ H s->t σ H Q->aR (model X.prog X.w) X.A (isTrue e X.env (eval e X.env)) (TP X pins σ Q) X.xe s
def PW (X:Cx) (e:Expr) (t:TT):Prop:=
 ∀(whole:Sem Value) (pins:List (aZ×Obj)) (s:aJ) (σ:St) (H:Hp) (Q:Bool->Hp->Prop),Inv X pins σ H s->t σ H Q->aR (model X.prog X.w) X.A (isTrue e X.env whole) (TP X pins σ Q) X.xe s
theorem PW.pt {X:Cx} {e:Expr} {t:TT} (h:PW X e t):PT X e t:=h _
def PA (X:Cx) (es:List Expr) (t:TA):Prop:=
 ∀(pos:Pos) (pins:List (aZ×Obj)) (s:aJ) (σ:St) (H:Hp) (Q:List V->Hp->Prop),Inv X pins σ H s->t σ H Q->aR (model X.prog X.w) X.A (spliced (cM pos (aU es X.env))) (AP X pins σ Q) X.xe s
def PS (X:Cx) (st:Stmt) (t:TS):Prop:=
 ∀(pins:List (aZ×Obj)) (s:aJ) (σ:St) (H:Hp) (D:Ends),Inv X pins σ H s->t D σ H->aR (model X.prog X.w) X.A (exec st X.env) (SP X pins D) X.xe s
def PSs (X:Cx) (st:List Stmt) (t:TS):Prop:=
 ∀(pins:List (aZ×Obj)) (s:aJ) (σ:St) (H:Hp) (D:Ends),Inv X pins σ H s->t D σ H->aR (model X.prog X.w) X.A (execs st X.env) (SP X pins D) X.xe s
theorem thn {α:Type} {t:Sem α} {Q Q' :α->aJ->Prop} {M:Model} {A:bF} {E:Value->aJ->Prop} {s:aJ} (h:aR M A t Q E s) (hQ:∀a s,Q a s->Q' a s):aR M A t Q' E s:=dB h hQ fun _ _ x=>x
section
variable {X:Cx}
def tVar (i:Nat):TE:=fun σ H Q=>∃v,σ[i]?=some (some v)/\Q v H
def tC (v:V):TE:=fun _ H Q=>Q v H
theorem zJk {i:Nat} {x:Str} {pos:Pos} (hN:X.N[i]?=some x) (hv:Vis X.env.scope x) (hd:(x == ("__debug__":Str))=false:=by decide) (hcd:(x == ("__classdict__":Str))=false:=by decide):PE X (.Name x pos) (tVar i):=by
 intro pins s σ H Q I h
 obtain⟨v,e,h⟩:=h
 obtain⟨m,hn,hl⟩:=I.loc
 obtain⟨u,r,l⟩:=hl i x v hN e hv
 have fin:EP X pins σ Q u s:=⟨v,H,I,r,h⟩
 rcases l with⟨hk,hm⟩ | ⟨hk,c,hc,hcell⟩
 ·exact wpAny_Name (wpAny_loadName_local I.ok.kind hk hn hm fin) hd
 ·rcases hk with hk | hk
  ·exact wpAny_Name (wpAny_loadName_cell I.ok.kind hk hc hcell fin) hd
  ·exact wpAny_Name (wpAny_loadName_free I.ok.kind hk hc hcell fin hcd) hd
theorem zJp {i j pos}:PE X (.Constant (.int i) j pos) (tC (.int i)):=fun _ _ _ H _ I h=>wpAny_Constant_int ⟨.int i,H,I.tok _,⟨_,rfl⟩,h⟩
theorem zXo {b j pos}:PE X (.Constant (.bool b) j pos) (tC (.bl b)):=fun _ _ _ H _ I h=>Constant_bool ⟨.bl b,H,I,rfl,h⟩
theorem vWh {j pos}:PE X (.Constant .none j pos) (tC .non):=fun _ _ _ H _ I h=>Constant_none ⟨.non,H,I,rfl,h⟩
theorem zJl {x j pos}:PE X (.Constant (.str x) j pos) (tC (.str x)):=fun _ _ _ H _ I h=>Calls.Constant_str ⟨.str x,H,I.tok _,⟨_,rfl⟩,h⟩
def Gl (X:Cx) (x:Str):Prop:=X.env.kindOf x=some .globalImplicit
theorem vVd {E:Value->aJ->Prop} {pins:List (aZ×Obj)} {s:aJ} {σ:St} {H:Hp} {x:Str} {u:Value} {pos:Pos} {Q:Value->aJ->Prop} (I:Inv X pins σ H s) (hg:Gl X x) (hm:X.mg x=some u) (h:Q u s)
  (hd:(x == ("__debug__":Str))=false:=by decide):aR (model X.prog X.w) X.A (eval (.Name x pos) X.env) Q E s:=
 Calls.Name_function_global I.ok.kind hg (Calls.loadGlobal_global (by rw [I.ok.glob];exact I.mod.glob.keeps I.bk) hm h) hd
theorem yG {E:Value->aJ->Prop} {pins:List (aZ×Obj)} {s:aJ} {σ:St} {H:Hp} {x:Str} {u:Value} {pos:Pos} {Q:Value->aJ->Prop} (I:Inv X pins σ H s) (hg:Gl X x) (hm:X.mg x=none) (hv:cO x=some u) (h:Q u s)
  (hn:x≠"__name__":=by decide) (hd:(x == ("__debug__":Str))=false:=by decide):aR (model X.prog X.w) X.A (eval (.Name x pos) X.env) Q E s:=by
 obtain⟨mb,h1,h2⟩:=I.mod.blt
 exact Calls.Name_function_global I.ok.kind hg (Calls.loadGlobal_builtin (by rw [I.ok.glob];exact I.mod.glob.keeps I.bk) hm (by rw [I.ok.blt];exact h1.keeps I.bk) ((h2 x hn).trans hv) h) hd
theorem zQa {x:Str} {v:V} {u:Value} {pos:Pos} (hg:Gl X x) (hm:X.mg x=none) (hv:cO x=some u) (r:RelV v u) (hn:x≠"__name__":=by decide) (hd:(x == ("__debug__":Str))=false:=by decide):PE X (.Name x pos) (tC v):=
 fun _ _ _ H _ I h=>yG I hg hm hv ⟨v,H,I,r,h⟩ hn hd
variable {a b:Expr} {ta tb:TE} {pos:Pos}
def tB (t:TE):TT:=fun σ H Q=>t σ H fun x H1=>∃c,x= .bl c/\Q c H1
theorem zZ8 {e:Expr} {t:TE} (h:PE X e t) (he:∀whole,isTrue e X.env whole=(do let v ←whole;standAt e.pos;holding [v] (truthy v)):=by intro _;rfl):PT X e (tB t):=by
 intro pins s σ H Q I hw
 refine isTrue_plain (thn (h pins s σ H _ I hw) fun v s1 ⟨x,H1,I1,r1,q1⟩=>?_) (he _)
 obtain⟨d,rfl,q⟩:=q1
 cases r1
 exact dH ⟨H1,I1,q⟩
variable {tA tB' :TT} {rest:List Expr}
def tAnd (t u:TT):TT:=fun σ H Q=>t σ H fun c H1=>if c=true then u σ H1 Q else Q false H1
def tOr (t u:TT):TT:=fun σ H Q=>t σ H fun c H1=>if c=true then Q true H1 else u σ H1 Q
def tNot (t:TT):TT:=fun σ H Q=>t σ H fun c H1=>Q (!c) H1
theorem vKj (ha:PT X a tA):PW X (.BoolOp .And [a] pos) tA:=by
 intro wh pins s σ H Q I h
 refine isTrue_and (thn (ha pins s σ H Q I h) fun c s1 e=>?_)
 cases c with
 | true=>exact isTrue_and_nil e
 | false=>exact e
theorem zZ4 (ha:PT X a tA):PW X (.BoolOp .Or [a] pos) tA:=by
 intro wh pins s σ H Q I h
 refine isTrue_or (thn (ha pins s σ H Q I h) fun c s1 e=>?_)
 cases c with
 | false=>exact isTrue_or_nil e
 | true=>exact e
theorem zZ5 (ha:PT X a tA) (hb:PW X (.BoolOp .And (b::rest) pos) tB'):PW X (.BoolOp .And (a::b::rest) pos) (tAnd tA tB'):=by
 intro wh pins s σ H Q I h
 refine isTrue_and (thn (ha pins s σ H _ I h) fun c s1 ⟨H1,I1,q1⟩=>?_)
 cases c with
 | true=>exact hb wh pins s1 σ H1 Q I1 q1
 | false=>exact⟨H1,I1,q1⟩
theorem zXh (ha:PT X a tA) (hb:PW X (.BoolOp .Or (b::rest) pos) tB'):PW X (.BoolOp .Or (a::b::rest) pos) (tOr tA tB'):=by
 intro wh pins s σ H Q I h
 refine isTrue_or (thn (ha pins s σ H _ I h) fun c s1 ⟨H1,I1,q1⟩=>?_)
 cases c with
 | true=>exact⟨H1,I1,q1⟩
 | false=>exact hb wh pins s1 σ H1 Q I1 q1
theorem zZ9 (ha:PT X a tA):PT X (.UnaryOp .Not a pos) (tNot tA):=by
 intro pins s σ H Q I h
 exact isTrue_not (ha pins s σ H (fun c H1=>Q (!c) H1) I h)
def zXc (ta tb:TE):TE:=fun σ H Q=>ta σ H fun x H1=>∃c,x= .bl c/\if c=true then tb σ H1 Q else Q (.bl false) H1
def zW5 (ta:TE):TE:=fun σ H Q=>ta σ H fun x H1=>∃c,x= .bl c/\Q (.bl (!c)) H1
theorem zJm {op} {t:TE} (h:PE X a t):PE X (.BoolOp op [a] pos) t:=fun pins s σ H Q I hw=>BoolOp_one (h pins s σ H Q I hw)
theorem zJr (ha:PE X a ta) (hb:PE X (.BoolOp .And (b::rest) pos) tb):PE X (.BoolOp .And (a::b::rest) pos) (zXc ta tb):=by
 intro pins s σ H Q I h
 refine BoolOp_and (thn (ha pins s σ H _ I h) fun v s1 ⟨x,H1,I1,r1,q1⟩=>?_)
 obtain⟨c,rfl,q1⟩:=q1
 cases r1
 refine dH ?_
 cases c with
 | true=>exact hb pins s1 σ H1 Q I1 q1
 | false=>exact⟨.bl false,H1,I1,rfl,q1⟩
theorem zJn (ha:PE X a ta):PE X (.UnaryOp .Not a pos) (zW5 ta):=by
 intro pins s σ H Q I h
 refine UnaryOp_ (thn (ha pins s σ H _ I h) fun v s1 ⟨x,H1,I1,r1,q1⟩=>?_)
 obtain⟨c,rfl,q1⟩:=q1
 cases r1
 exact not_of (dH ⟨.bl (!c),H1,I1,rfl,q1⟩)
def tIf (t:TT) (ta tb:TE):TE:=fun σ H Q=>t σ H fun c H1=>if c=true then ta σ H1 Q else tb σ H1 Q
theorem vXz {c:Expr} (hc:PT X c tA) (ha:PE X a ta) (hb:PE X b tb):PE X (.IfExp c a b pos) (tIf tA ta tb):=by
 intro pins s σ H Q I h
 refine wpAny_IfExp (thn (hc pins s σ H _ I h) fun d s1 ⟨H1,I1,q1⟩=>?_)
 cases d with
 | true=>exact ha pins s1 σ H1 Q I1 q1
 | false=>exact hb pins s1 σ H1 Q I1 q1
end
def SqL (K:aQ) (H:Hp) (a:aZ) (xs:List V):Prop:=
 Rd H a (.lst xs)\/
  ∃(o:Obj) (its:Array Value) (n:Nat),K.lookup a=some o/\o.cls= .type "list"/\o.dict=none/\o.data= .seq its n/\its.size<=bX/\Vals xs its.toList
def SqT (K:aQ) (H:Hp) (a:aZ) (xs:List V):Prop:=
 Rd H a (.tup xs)\/
  ∃(o:Obj) (its:Array Value) (n:Nat),K.lookup a=some o/\o.cls= .type "tuple"/\o.data= .seq its n/\its.size<=bX/\Vals xs its.toList
def absV:Value->Option V
 | .none=>some .non
 | .bool b=>some (.bl b)
 | .int i _=>some (.int i)
 | .str x _=>some (.str x)
 | .bytes b _=>some (.byt b)
 | .float b _=>some (.flt b)
 | .ref a=>some (.ref a)
 | .type n=>some (.ty n)
 | _=>none
theorem RelV.abs {x:V} {u:Value} (r:RelV x u):absV u=some x:=by
 cases x with
 | non=>cases r;rfl
 | bl _=>cases r;rfl
 | int _=>obtain⟨t,rfl⟩:=r;rfl
 | str _=>obtain⟨t,rfl⟩:=r;rfl
 | byt _=>obtain⟨t,rfl⟩:=r;rfl
 | flt _=>obtain⟨t,rfl⟩:=r;rfl
 | ref _=>cases r;rfl
 | ty _=>cases r;rfl
theorem RelV.inj {x y:V} {u:Value} (r:RelV x u) (q:RelV y u):x=y:=Option.some.inj (r.abs.symm.trans q.abs)
theorem Vals.inj:∀ {xs ys:List V} {us:List Value},Vals xs us->Vals ys us->xs=ys
 | _,_,_, .nil, .nil=>rfl
 | _,_,_, .cons r t, .cons r' t' =>by rw [r.inj r',Vals.inj t t']
section
variable {X:Cx} {pins:List (aZ×Obj)} {σ:St} {H:Hp} {s:aJ} {a:aZ} {xs ys:List V}
theorem SqL.of {K:aQ} (h:H a=some (.lst xs)):SqL K H a xs:= .inl (.inl h)
theorem SqT.of {K:aQ} (h:H a=some (.tup xs)):SqT K H a xs:= .inl (.inl h)
theorem Inv.list (I:Inv X pins σ H s) (h:SqL X.K H a xs):∃its:List Value,Vals xs its/\PlainL s.heap a its.toArray/\xs.length<=bX:=by
 rcases h with h | ⟨o,its,n,hk,hc,hd,hs,hz,r⟩
 ·obtain⟨z,its,n,r,e⟩:=h.ok I.hok
  exact⟨its,r,⟨_,n,e,rfl,rfl,rfl⟩,z⟩
 ·refine⟨its.toList,r,⟨o,n,I.kIn a o hk,hc,hd,by simpa using hs⟩,?_⟩
  have e:=r.length
  simp only [cX] at e
  omega
theorem Inv.tuple (I:Inv X pins σ H s) (h:SqT X.K H a xs):∃its:List Value,Vals xs its/\IsTup s.heap a its.toArray/\xs.length<=bX:=by
 rcases h with h | ⟨o,its,n,hk,hc,hs,hz,r⟩
 ·obtain⟨z,its,r,p⟩:=h.ok I.hok
  exact⟨its,r,p,z⟩
 ·refine⟨its.toList,r,⟨o,I.kIn a o hk,hc,n,by simpa using hs⟩,?_⟩
  have e:=r.length
  simp only [cX] at e
  omega
theorem Inv.list_inj (I:Inv X pins σ H s) (h:SqL X.K H a xs) (h' :SqL X.K H a ys):xs=ys:=by
 obtain⟨its,r,⟨o,n,e,_,_,d⟩,_⟩:=I.list h
 obtain⟨its',r',⟨o',n',e',_,_,d'⟩,_⟩:=I.list h'
 rw [e] at e';cases e'
 rw [d] at d'
 injection d' with d1 _
 have:its=its' :=by simpa using congrArg Array.toList d1
 subst this
 exact r.inj r'
theorem Inv.tuple_inj (I:Inv X pins σ H s) (h:SqT X.K H a xs) (h' :SqT X.K H a ys):xs=ys:=by
 obtain⟨its,r,⟨o,e,_,n,d⟩,_⟩:=I.tuple h
 obtain⟨its',r',⟨o',e',_,n',d'⟩,_⟩:=I.tuple h'
 rw [e] at e';cases e'
 rw [d] at d'
 injection d' with d1 _
 have:its=its' :=by simpa using congrArg Array.toList d1
 subst this
 exact r.inj r'
end
section
variable {X:Cx} {st:Stmt} {rest:List Stmt} {t u:TS} {e:Expr} {te:TE} {pos:Pos}
def tNext:TS:=fun D σ H=>D.nx σ H
def tSeq (t u:TS):TS:=fun D σ H=>t {D with nx:=u D} σ H
theorem vKo:PSs X [] tNext:=fun _ _ σ H _ I h=>wpAny_execs_nil ⟨σ,H,I,h⟩
theorem qYl (h1:PS X st t) (h2:PSs X rest u):PSs X (st::rest) (tSeq t u):=by
 intro pins s σ H D I h
 refine wpAny_execs_cons (thn (h1 pins s σ H {D with nx:=u D} I h) fun f s1 q=>?_)
 cases f with
 | next=>
   obtain⟨σ',H',I',q⟩:=q
   exact h2 pins s1 σ' H' D I' q
 | ret v=>exact q
 | brk=>exact q
 | cont=>exact q
theorem vQ7 (h1:PS X st t):PSs X [st] t:=by
 intro pins s σ H D I h
 refine wpAny_execs_cons (thn (h1 pins s σ H D I h) fun f s1 q=>?_)
 cases f with
 | next=>exact wpAny_execs_nil q
 | ret v=>exact q
 | brk=>exact q
 | cont=>exact q
theorem Inv.quiet {pins:List (aZ×Obj)} {σ:St} {H:Hp} {s:aJ} (I:Inv X pins σ H s):interactive X.env=false:=by simp [interactive,I.ok.kind]
def zXb (te:TE):TS:=fun D σ H=>te σ H fun _ H1=>D.nx σ H1
theorem vKq (he:PE X e te) (hs:swapsWith e none pos.line X.env=pure false:=by rfl):PS X (.Expr e pos) (zXb te):=by
 intro pins s σ H D I h
 exact wpAny_Expr_any (thn (he pins s σ H _ I h) fun v s1 ⟨x,H1,I1,r1,q1⟩=>⟨σ,H1,I1,q1⟩) I.quiet hs
def tRet (te:TE):TS:=fun D σ H=>te σ H D.rt
theorem vWd (he:PE X e te):PS X (.Return (some e) pos) (tRet te):=by
 intro pins s σ H D I h
 exact wpAny_Return_some (thn (he pins s σ H _ I h) fun v s1 ⟨x,H1,I1,r1,q1⟩=>⟨x,σ,H1,I1,r1,q1⟩)
def tIfS (c:TT) (t u:TS):TS:=fun D σ H=>c σ H fun b H1=>if b=true then t D σ H1 else u D σ H1
theorem zXi {c:Expr} {a b:List Stmt} {tc:TT} (hc:PT X c tc) (ha:PSs X a t) (hb:PSs X b u):PS X (.If c a b pos) (tIfS tc t u):=by
 intro pins s σ H D I h
 refine wpAny_If (thn (hc pins s σ H _ I h) fun d s1 ⟨H1,I1,q1⟩=>?_)
 cases d with
 | true=>exact ha pins s1 σ H1 D I1 q1
 | false=>exact hb pins s1 σ H1 D I1 q1
end
abbrev TG:=V->St->Hp->(St->Hp->Prop)->Prop
abbrev TGs:=List V->St->Hp->(St->Hp->Prop)->Prop
def PG (X:Cx) (target:Expr) (t:TG):Prop:=
 ∀(pins:List (aZ×Obj)) (s:aJ) (σ:St) (H:Hp) (v:V) (u:Value) (Q:St->Hp->Prop),Inv X pins σ H s->RelV v u->t v σ H Q->
  aR (model X.prog X.w) X.A (assign target X.env u) (fun _ s' =>∃σ' H',Inv X pins σ' H' s' /\Q σ' H') X.xe s
def PGs (X:Cx) (ts:List Expr) (t:TGs):Prop:=
 ∀(pins:List (aZ×Obj)) (s:aJ) (σ:St) (H:Hp) (vs:List V) (us:List Value) (Q:St->Hp->Prop),Inv X pins σ H s->Vals vs us->t vs σ H Q->
  aR (model X.prog X.w) X.A (assignInOrder ((assignEach ts X.env).map (·.2)) us) (fun _ s' =>∃σ' H',Inv X pins σ' H' s' /\Q σ' H') X.xe s
section
variable {X:Cx} {pos:Pos}
def qZl (i:Nat):TG:=fun v σ H Q=>Q (σ.set i (some v)) H
theorem vQ8 {i:Nat} {x:Str} (hN:X.N.Nodup) (hi:X.N[i]?=some x) (hx:Loc X.env.scope x) (hf:X.fn x=true\/X.env.scope.names.lookup x=some .local:=by first | exact .inl rfl | exact .inr rfl | assumption):PG X (.Name x pos) (qZl i):=by
 intro pins s σ H v u Q I r h
 exact wpAny_assign_Name (qZ2 I hN hi hx r (fun s' I' =>⟨_,H,I',h⟩) hf)
def gNil:TGs:=fun vs σ H Q=>vs=[]/\Q σ H
def zYa (t:TG) (u:TGs):TGs:=fun vs σ H Q=>∃v r,vs=v::r/\t v σ H fun σ' H' =>u r σ' H' Q
theorem vK2:PGs X [] gNil:=by
 intro pins s σ H vs us Q I r h
 obtain⟨e,h⟩:=h
 subst e
 cases r
 exact assignInOrder_nil ⟨σ,H,I,h⟩
theorem vXx {e:Expr} {es:List Expr} {t:TG} {u:TGs} (h1:PG X e t) (h2:PGs X es u)
  (hs:(assignEach (e::es) X.env).map (·.2)=assign e X.env::(assignEach es X.env).map (·.2):=by rfl):PGs X (e::es) (zYa t u):=by
 intro pins s σ H vs us Q I r h
 obtain⟨v,vr,e1,h⟩:=h
 subst e1
 cases r with
 | cons r rr=>
   rw [hs]
   refine assignInOrder_cons (thn (h1 pins s σ H _ _ _ I r h) fun _ s1 ⟨σ1,H1,I1,q1⟩=>?_)
   exact h2 pins s1 σ1 H1 _ _ Q I1 rr q1
def gTup (K:aQ) (n:Nat) (t:TGs):TG:=fun v σ H Q=>∃a xs,v= .ref a/\SqT K H a xs/\xs.length=n/\t xs σ H Q
theorem zJj {es:List Expr} {k:Nat} {t:TGs} {n:Nat} (hc:X.calm=true) (h:PGs X es t)
  (hn:(assignEach es X.env).length=n:=by rfl) (hst:(assignEach es X.env).findIdx? (·.1)=none:=by rfl):PG X (.Tuple es k pos) (gTup X.K n t):=by
 intro pins s σ H v u Q I r hw
 obtain⟨a,xs,e1,hq,hl,hw⟩:=hw
 subst e1
 cases r
 obtain⟨its,rv,ht,hz⟩:=I.tuple hq
 refine assign_Tuple_tuple (I.ok.hd hc) ht (by simp [hn,←hl,rv.length]) hst fun h' hx=>?_
 have I1:Inv X pins σ H {s with heap:=h' }:=I.kept (t' :=s.toks) fun b o e=>hx b o (bZ (aD e)) e
 exact h pins _ σ H xs _ Q I1 (by simpa using rv) hw
def tAsg (te:TE) (g:TG):TS:=fun D σ H=>te σ H fun x H1=>g x σ H1 D.nx
theorem zJd {tg e:Expr} {te:TE} {g:TG} (he:PE X e te) (hg:PG X tg g) (hs:swapsWithSole [tg] e pos.line X.env=pure false:=by rfl) (hw:swappedStores [tg] e X.env=pure none:=by rfl)
  (h1:(assignEach [tg] X.env).map (·.2)=[assign tg X.env]:=by rfl):PS X (.Assign [tg] e pos) (tAsg te g):=by
 intro pins s σ H D I h
 refine wpAny_Assign_stores (thn (he pins s σ H _ I h) fun v s1 ⟨x,H1,I1,r1,q1⟩=>?_) hs hw
 rw [h1]
 exact thn (hg pins s1 σ H1 x v _ I1 r1 q1) fun _ s2 q=>q
theorem zJa {i:Nat} {x:Str} {e:Expr} {te:TE} {pos' :Pos} (hN:X.N.Nodup) (hi:X.N[i]?=some x) (hx:Loc X.env.scope x) (he:PE X e te) (hs:swapsWith e (some (.Name x pos')) pos.line X.env=pure false:=by rfl) (hf:X.fn x=true\/X.env.scope.names.lookup x=some .local:=by first | exact .inl rfl | exact .inr rfl | assumption):
  PS X (.Assign [.Name x pos'] e pos) (tAsg te (qZl i)):=by
 intro pins s σ H D I h
 refine wpAny_Assign_Name (thn (he pins s σ H _ I h) fun v s1 ⟨y,H1,I1,r1,q1⟩=>?_) hs
 exact qZ2 I1 hN hi hx r1 (fun s2 I2=>⟨_,H1,I2,q1⟩) hf
end
section
variable {X:Cx} {pos:Pos}
def vJ2 (c:TT) (tb:TS):TS:=fun D σ H=>∃W:Nat->St->Hp->Prop,(∃m,W m σ H)/\∀m σ H,W m σ H->
 c σ H fun b H1=>if b=true then∃N:St->Hp->Prop,(∀σ' H',N σ' H' ->∃m',m' < m/\W m' σ' H')/\tb {D with nx:=N,ct:=N,bk:=D.nx} σ H1 else D.nx σ H1
theorem vXr {c:Expr} {body:List Stmt} {tc:TT} {tb:TS} (hp:PassesOwn (model X.prog X.w) X.A X.env X.xe) (hc:PT X c tc) (hb:PSs X body tb):PS X (.While c body [] pos) (vJ2 tc tb):=by
 intro pins s σ H D I h
 obtain⟨W,⟨m0,w0⟩,turn⟩:=h
 refine wpAny_While (codeAny_whileLoop (fun n s' =>∃σ' H',Inv X pins σ' H' s' /\W n σ' H') ?_ m0 ⟨σ,H,I,w0⟩)
 rintro n s1 ⟨σ1,H1,I1,w1⟩
 refine eT hp (thn (hc pins s1 σ1 H1 _ I1 (turn n σ1 H1 w1)) fun b s2 ⟨H2,I2,q2⟩=>?_)
 cases b with
 | true=>
   obtain⟨N,hN,q2⟩:=q2
   rw [if_pos rfl]
   refine eT hp (thn (hb pins s2 σ1 H2 _ I2 q2) fun f s3 q3=>?_)
   cases f with
   | next=>
     obtain⟨σ3,H3,I3,n3⟩:=q3
     obtain⟨m',hm,w3⟩:=hN σ3 H3 n3
     exact⟨m',hm,σ3,H3,I3,w3⟩
   | cont=>
     obtain⟨σ3,H3,I3,n3⟩:=q3
     obtain⟨m',hm,w3⟩:=hN σ3 H3 n3
     exact⟨m',hm,σ3,H3,I3,w3⟩
   | brk=>exact q3
   | ret v=>exact q3
 | false=>
   rw [if_neg aA]
   exact wpAny_execs_nil ⟨σ1,H2,I2,q2⟩
end
structure It where
 go:Nat->Hp->Prop
 yld:Nat->Hp->V->Hp->Prop
 stop:Nat->Hp->Prop
def FpOk (X:Cx) (pins:List (aZ×Obj)) (H:Hp) (b:aZ):Prop:=
 H b=none/\b≠X.env.locals/\b∉X.fs/\(b∈X.ex\/X.s₀.heap.objs.size<=b)/\(∀x c,X.env.cells.lookup x=some c->c≠b)/\∀p∈X.pn ++ pins,p.1≠b
theorem Inv.fpOk {X:Cx} {pins:List (aZ×Obj)} {σ:St} {H H' :Hp} {s:aJ} {b:aZ} (I:Inv X pins σ H s) (hb:s.heap.objs.size<=b) (hn:H' b=none):FpOk X pins H' b:=by
 refine⟨hn,dI (aM I.lt hb),I.nofs hb, .inr (bT I.sz hb),fun x c e z=>?_,fun p hp z=>?_⟩
 ·obtain⟨v,q⟩:=I.cell x c e
  exact absurd (aM q.lt (by rw [z];exact hb)) (bN _)
 ·exact absurd (aM (aD (I.pin p hp).1) (by rw [z];exact hb)) (bN _)
structure Turn (P:aH) (w:bJ) (K:aQ) (tg:Expr) (J:It) (fp:List aZ) (it:aZ) (tn:Nat->Heap->Prop):Prop where
 mem:it∈fp
 obj:∀i h,tn i h->∀b∈fp,∃o,h.get? b=some o/\∀v,o.data≠ .cell v
 keep:∀i h h',tn i h->(∀b∈fp,∀o,h.get? b=some o->h'.get? b=some o)->tn i h'
 item:∀(X:Cx),X.prog=P->X.w=w->X.K=K->X.calm=true->∀(i:Nat) (pins:List (aZ×Obj)) (s:aJ) (σ:St) (H:Hp) (E:Value->aJ->Prop),Inv X pins σ H s->(∀b∈fp,FpOk X pins H b)->tn i s.heap->J.go i H->
  aR (model P w) X.A (pyNext (.ref it)) (fun r s1=>∃u,r=some u/\
   aR (model P w) X.A (letOwnedTupleGo tg (.ref it) u) (fun _ s2=>∃x H',Inv X pins σ H' s2/\RelV x u/\J.yld i H x H' /\tn (i + 1) s2.heap/\∀b∈fp,H' b=none) E s1) E s
 done:∀(X:Cx),X.prog=P->X.w=w->X.K=K->X.calm=true->∀(i:Nat) (pins:List (aZ×Obj)) (s:aJ) (σ:St) (H:Hp) (E:Value->aJ->Prop),Inv X pins σ H s->(∀b∈fp,FpOk X pins H b)->tn i s.heap->J.stop i H->
  aR (model P w) X.A (pyNext (.ref it)) (fun r s1=>r=none/\Inv X pins σ H s1) E s
 self:∀(A:bF) (i:Nat) (s:aJ) (Q:Value->aJ->Prop) (E:Value->aJ->Prop),tn i s.heap->Q (.ref it) s->aR (model P w) A (pyIter (.ref it)) Q E s
abbrev TI:=St->Hp->(It->Hp->Prop)->Prop
def PIE (X:Cx) (pins:List (aZ×Obj)) (σ:St) (tg:Expr) (R:It->Hp->Prop) (itv:Value) (s2:aJ):Prop:=
 ∃(it:aZ) (fp:List aZ) (tn:Nat->Heap->Prop) (J:It) (H' :Hp),itv= .ref it/\Inv X pins σ H' s2/\Turn X.prog X.w X.K tg J fp it tn/\tn 0 s2.heap/\(∀b∈fp,FpOk X pins H' b)/\R J H'
def PI (X:Cx) (tg iter:Expr) (wi:TI):Prop:=
 ∀(pins:List (aZ×Obj)) (s:aJ) (σ:St) (H:Hp) (R:It->Hp->Prop),Inv X pins σ H s->wi σ H R->
  aR (model X.prog X.w) X.A (eval iter X.env) (fun v s1=>aR (model X.prog X.w) X.A (pyIter v) (PIE X pins σ tg R) X.xe s1) X.xe s
theorem vQm {M:Model} {A:bF} {E:Value->aJ->Prop} {s:aJ} {tg:Expr} {it:aZ} {u:Value} {o:Obj} {n:String} {vs:Array Value} {Q:Unit->aJ->Prop} (ho:s.heap.get? it=some o) (hc:o.cls= .type n) (hd:o.data= .fields vs)
  (hn: ["enumerate","zip","dict_itemiterator","dict_reverseitemiterator","odict_iterator","itertools.zip_longest","itertools.pairwise"].contains n=false) (hQ:Q () s):aR M A (letOwnedTupleGo tg (.ref it) u) Q E s:=by
 unfold letOwnedTupleGo
 cases tg <;> first
  | exact aW hQ
  | (cases u <;> first
    | exact aW hQ
    | (refine aV (wpAny_load ho ?_)
       rw [hc,hd]
       show aR M A (if(["enumerate","zip","dict_itemiterator","dict_reverseitemiterator","odict_iterator","itertools.zip_longest","itertools.pairwise"].contains n && vs[0]? == some (rawInt _))=true then _ else _) Q E s
       rw [if_neg (by intro h;rw [hn,Bool.false_and] at h;cases h)]
       exact aW hQ))
def Itl (K:aQ) (a:aZ):It:=
 ⟨fun i H=>∃xs x,SqL K H a xs/\xs[i]?=some x,fun i H x H' =>H' =H/\∀xs,SqL K H a xs->xs[i]?=some x,fun i H=>∃xs,SqL K H a xs/\xs.length<=i⟩
def Itt (K:aQ) (a:aZ):It:=
 ⟨fun i H=>∃xs x,SqT K H a xs/\xs[i]?=some x,fun i H x H' =>H' =H/\∀xs,SqT K H a xs->xs[i]?=some x,fun i H=>∃xs,SqT K H a xs/\xs.length<=i⟩
def Itr (lo:Int) (n:Nat):It:=⟨fun i _=>i < n,fun i H x H' =>H' =H/\x= .int (lo + i),fun i _=>n<=i⟩
theorem vV1 {P:aH} {w:bJ} {K:aQ} {tg:Expr} (a it:aZ):Turn P w K tg (Itl K a) [it] it (fun i h=>h.IsListIter it a i) where
 mem:=by simp
 obj:=fun i h st b hb=>by
  have e:b=it:=by simpa using hb
  subst e
  obtain⟨o,e,c,d⟩:=st
  exact⟨o,e,fun v z=>by rw [d] at z;cases z⟩
 keep:=fun i h h' st k=>st.at fun o e=>k it (by simp) o e
 item:=by
  intro X hP hw hK hc i pins s σ H E I hf st hg
  subst hP hw hK
  obtain⟨xs,x,hq,hx⟩:=hg
  obtain⟨its,rv,p,hz⟩:=I.list hq
  obtain⟨u,hu,ru⟩:=rv.get hx
  obtain⟨f0,f1,f2,f3,f4,f5⟩:=hf it (by simp)
  refine wpAny_pyNext_list_item st p.isList (x:=u) (by simpa using hu) fun h' st' sb=>?_
  have I1:Inv X pins σ H {s with heap:=h' }:=I.turned (t' :=s.toks) (fun b o hb e=>(sb.2 b hb).trans e) f0 f1 f3 f4 f5
  obtain⟨o,e,c,d⟩:=id st'
  exact⟨u,rfl,vQm (s:={s with heap:=h' }) e c d (by decide) ⟨x,H,I1,ru,⟨rfl,fun ys hy=>by rw [I.list_inj hy hq];exact hx⟩,st',fun b hb=>(hf b hb).1⟩⟩
 done:=by
  intro X hP hw hK hc i pins s σ H E I hf st hg
  subst hP hw hK
  obtain⟨xs,hq,hx⟩:=hg
  obtain⟨its,rv,p,hz⟩:=I.list hq
  obtain⟨f0,f1,f2,f3,f4,f5⟩:=hf it (by simp)
  have hl:=rv.length
  exact wpAny_pyNext_list_end (I.ok.hd hc) st p.isList (by simp;omega) fun h' eb=>⟨rfl,I.turned (t' :=s.toks) (fun b o hb e=>eb b o hb e) f0 f1 f3 f4 f5⟩
 self:=fun _ _ _ _ _ st h=>wpAny_pyIter_listiter st h
theorem qKu {P:aH} {w:bJ} {K:aQ} {tg:Expr} (a it:aZ):Turn P w K tg (Itt K a) [it] it (fun i h=>h.IsTupleIter it a i) where
 mem:=by simp
 obj:=fun i h st b hb=>by
  have e:b=it:=by simpa using hb
  subst e
  obtain⟨o,e,c,d⟩:=st
  exact⟨o,e,fun v z=>by rw [d] at z;cases z⟩
 keep:=fun i h h' st k=>st.at fun o e=>k it (by simp) o e
 item:=by
  intro X hP hw hK hc i pins s σ H E I hf st hg
  subst hP hw hK
  obtain⟨xs,x,hq,hx⟩:=hg
  obtain⟨its,rv,p,hz⟩:=I.tuple hq
  obtain⟨u,hu,ru⟩:=rv.get hx
  obtain⟨f0,f1,f2,f3,f4,f5⟩:=hf it (by simp)
  refine wpAny_pyNext_tuple_item st (show s.heap.IsTuple a its.toArray from p) (x:=u) (by simpa using hu) fun h' st' sb=>?_
  have I1:Inv X pins σ H {s with heap:=h' }:=I.turned (t' :=s.toks) (fun b o hb e=>(sb.2 b hb).trans e) f0 f1 f3 f4 f5
  obtain⟨o,e,c,d⟩:=id st'
  exact⟨u,rfl,vQm (s:={s with heap:=h' }) e c d (by decide) ⟨x,H,I1,ru,⟨rfl,fun ys hy=>by rw [I.tuple_inj hy hq];exact hx⟩,st',fun b hb=>(hf b hb).1⟩⟩
 done:=by
  intro X hP hw hK hc i pins s σ H E I hf st hg
  subst hP hw hK
  obtain⟨xs,hq,hx⟩:=hg
  obtain⟨its,rv,p,hz⟩:=I.tuple hq
  obtain⟨f0,f1,f2,f3,f4,f5⟩:=hf it (by simp)
  have hl:=rv.length
  exact wpAny_pyNext_tuple_end (I.ok.hd hc) st (show s.heap.IsTuple a its.toArray from p) (by simp;omega) fun h' eb=>⟨rfl,I.turned (t' :=s.toks) (fun b o hb e=>eb b o hb e) f0 f1 f3 f4 f5⟩
 self:=fun _ _ _ _ _ st h=>wpAny_pyIter_tupleiter st h
theorem qKv {P:aH} {w:bJ} {K:aQ} {tg:Expr} (it:aZ) (lo:Int) (n:Nat):Turn P w K tg (Itr lo n) [it] it (fun i h=>IsRangeIter h it (lo + (i:Nat) * 1) ((n:Int) - (i:Nat)) 1) where
 mem:=by simp
 obj:=fun i h st b hb=>by
  have e:b=it:=by simpa using hb
  subst e
  exact⟨_,st,fun v z=>by
   have z' :Data.fields _=Data.cell v:=z
   cases z'⟩
 keep:=fun i h h' st k=>k it (by simp) _ st
 item:=by
  intro X hP hw hK hc i pins s σ H E I hf st hg
  subst hP hw hK
  obtain⟨f0,f1,f2,f3,f4,f5⟩:=hf it (by simp)
  have W:=Walks.range (prog:=X.prog) (w:=X.w) (I.ok.hd hc) it lo 1 n
  refine W.item i s _ _ hg st fun v h' tk hv st' kk=>?_
  obtain⟨t,rfl⟩:=hv
  have I1:Inv X pins σ H {s with heap:=h',toks:=tk}:=I.turned (fun b o hb e=>kk b o (by simpa using hb) e) f0 f1 f3 f4 f5
  refine⟨_,rfl,vQm (s:={s with heap:=h',toks:=tk}) (n:="range_iterator") st' rfl rfl (by decide) ⟨.int (lo + i),H,I1,⟨t,?_⟩,⟨rfl,rfl⟩,st',fun b hb=>(hf b hb).1⟩⟩
  rw [Int.mul_one]
 done:=by
  intro X hP hw hK hc i pins s σ H E I hf st hg
  subst hP hw hK
  obtain⟨f0,f1,f2,f3,f4,f5⟩:=hf it (by simp)
  exact wpAny_pyNext_range_end (I.ok.hd hc) st (by have:n<=i:=hg;omega) fun h' eb=>⟨rfl,I.turned (t' :=s.toks) (fun b o hb e=>eb b o hb e) f0 f1 f3 f4 f5⟩
 self:=fun _ _ _ _ _ st h=>wpAny_pyIter_rangeiter st h
section
variable {X:Cx} {tg:Expr}
theorem vXo {pins:List (aZ×Obj)} {σ:St} {H:Hp} {s:aJ} {R:It->Hp->Prop} {E:Value->aJ->Prop} {lo hi:Int} {t u v:Tok} {tk:Nat} (I:Inv X pins σ H s) (h1: -(2 ^ 62)<=lo) (h2:lo < 2 ^ 62) (h3: -(2 ^ 62)<=hi) (h4:hi < 2 ^ 62)
  (q:R (Itr lo (hi - lo).toNat) H):aR (model X.prog X.w) X.A (pyIter (.ref s.heap.objs.size)) (PIE X pins σ tg R) E {s with heap:=s.heap.push {cls:= .type "range",data:= .fields #[.int lo t, .int hi u, .int 1 v]},toks:=tk}:=by
 refine wpAny_pyIter_range (IsRange.new ..) (small_one h1 h2 h3 h4) ?_
 have I1:Inv X pins σ H {s with heap:=s.heap.push {cls:= .type "range",data:= .fields #[.int lo t, .int hi u, .int 1 v]},toks:=tk}:=I.kept fun b o e=>aX _ e
 refine⟨(s.heap.push {cls:= .type "range",data:= .fields #[.int lo t, .int hi u, .int 1 v]}).objs.size,[(s.heap.push {cls:= .type "range",data:= .fields #[.int lo t, .int hi u, .int 1 v]}).objs.size],_,_,H,rfl,
  I1.kept (t' :=tk) fun b o e=>aX _ e,qKv _ lo (hi - lo).toNat,?_,fun b hb=>?_,q⟩
 ·have e1:lo + ((0:Nat):Int) * 1=lo:=by simp
  have e2:(((hi - lo).toNat:Nat):Int) - ((0:Nat):Int)=Builtin.Range.rangeSize lo hi 1:=by rw [rangeSize_one];split <;> omega
  show IsRangeIter _ _ (lo + ((0:Nat):Int) * 1) ((((hi - lo).toNat:Nat):Int) - ((0:Nat):Int)) 1
  rw [e1,e2]
  exact aL _ rfl
 ·have e:b=(s.heap.push {cls:= .type "range",data:= .fields #[.int lo t, .int hi u, .int 1 v]}).objs.size:=by simpa using hb
  subst e
  exact I1.fpOk (aG _) (I1.hok.fresh (aG _))
def zX7 (ta:TA):TI:=fun σ H R=>ta σ H fun vs H1=>∃j:Int,vs=[.int j]/\ -(2 ^ 62)<=j/\j < 2 ^ 62/\R (Itr 0 j.toNat) H1
theorem vZe {a:Expr} {ta:TA} {p pos:Pos} (hg:Gl X "range") (hm:X.mg "range"=none) (ha:PA X [a] ta) (hs:aU [a] X.env=[(false,eval a X.env)]:=by rfl):PI X tg (.Call (.Name "range" p) [a] [] pos) (zX7 ta):=by
 intro pins s σ H R I h
 refine Call_ (yG I hg hm boot_range (eK (thn (ha pos pins s σ H _ I h) fun us s1 ⟨vs,H1,I1,r1,q1⟩=>?_) hs rfl))
 obtain⟨j,e,q1,q2,q⟩:=q1
 subst e
 cases r1 with
 | cons r rr=>
   cases rr
   obtain⟨t,rfl⟩:=r
   exact call_range_1 (vXo I1 (by omega) (by omega) q1 q2 (by simpa using q))
def tFor (wi:TI) (g:TG) (tb:TS):TS:=fun D σ H=>wi σ H fun J H1=>∃W:Nat->Nat->St->Hp->Prop,(∃m,W 0 m σ H1)/\∀i m σ H,W i m σ H->
 (J.stop i H/\D.nx σ H)\/(J.go i H/\∃N:St->Hp->Prop,(∀σ' H',N σ' H' ->∃m',m' < m/\W (i + 1) m' σ' H')/\∀x H',J.yld i H x H' ->g x σ H' fun σ2 H2=>tb {D with nx:=N,ct:=N,bk:=D.nx} σ2 H2)
def qZp (fp:List aZ) (h:Heap):List (aZ×Obj):=fp.filterMap fun b=>(h.get? b).map fun o=>(b,o)
theorem xT {fp:List aZ} {h:Heap} {b:aZ} {o:Obj} (hb:b∈fp) (e:h.get? b=some o):(b,o)∈qZp fp h:=eE.mpr ⟨b,hb,by rw [e];rfl⟩
theorem vZj {fp:List aZ} {h:Heap} {p:aZ×Obj} (hp:p∈qZp fp h):p.1∈fp/\h.get? p.1=some p.2:=by
 obtain⟨b,hb,e⟩:=eE.mp hp
 cases q:h.get? b with
 | none=>rw [q] at e;cases e
 | some o=>
   rw [q] at e
   have e' :(b,o)=p:=Option.some.inj e
   subst e'
   exact⟨hb,q⟩
theorem Inv.pinned {pins:List (aZ×Obj)} {σ:St} {H:Hp} {s:aJ} {fp:List aZ} (I:Inv X pins σ H s) (hf:∀b∈fp,FpOk X pins H b) (ho:∀b∈fp,∃o,s.heap.get? b=some o/\∀v,o.data≠ .cell v):Inv X (pins ++ qZp fp s.heap) σ H s:=
 I.pins_of fun p hp=>(bL.mp hp).elim (fun z=>I.pin p (bB _ z)) fun z=>by
  obtain⟨hb,e⟩:=vZj z
  obtain⟨f0,f1,f2,_⟩:=hf p.1 hb
  obtain⟨o,e',d⟩:=ho p.1 hb
  rw [e] at e';cases e'
  exact⟨e,f0,f1,f2,d⟩
theorem Inv.unpinned {pins pl:List (aZ×Obj)} {σ:St} {H:Hp} {s:aJ} (I:Inv X (pins ++ pl) σ H s):Inv X pins σ H s:=I.pins_of fun p hp=>I.pin p (bB _ (dU _ hp))
theorem zJb {iter:Expr} {body:List Stmt} {wi:TI} {g:TG} {tb:TS} {pos:Pos} (hp:PassesOwn (model X.prog X.w) X.A X.env X.xe) (hc:X.calm=true) (hi:PI X tg iter wi) (hg:PG X tg g) (hb:PSs X body tb)
  (hs:∀x,foldedSetIterable iter X.env x=pure x:=by intro _;rfl):PS X (.For tg iter body [] pos) (tFor wi g tb):=by
 intro pins s σ H D I h
 refine wpAny_For (thn (hi pins s σ H _ I h) fun v s1 h1=>thn h1 fun itv s2 h2=>?_) hs
 obtain⟨it,fp,tn,J,H2,e,I2,T,st2,f2,W,⟨m0,w0⟩,turn⟩:=h2
 subst e
 have stat:∀ {H' :Hp},(∀b∈fp,H' b=none)->∀b∈fp,FpOk X pins H' b:=fun hn b hb=>⟨hn b hb,(f2 b hb).2⟩
 refine codeAny_forLoop_any (fun n s' =>∃i σ' H',Inv X pins σ' H' s' /\tn i s'.heap/\(∀b∈fp,H' b=none)/\W i n σ' H') ?_ m0 ⟨0,σ,H2,I2,st2,fun b hb=>(f2 b hb).1,w0⟩
 rintro n s3 ⟨i,σ3,H3,I3,st3,fr3,w3⟩
 rcases turn i n σ3 H3 w3 with⟨stop,qn⟩ | ⟨go,N,hN,step⟩
 ·refine eT hp (thn (T.done X rfl rfl rfl hc i pins s3 σ3 H3 X.xe I3 (stat fr3) st3 stop) fun r s4 ⟨hr,I4⟩=>?_)
  subst hr
  exact wpAny_execs_nil ⟨σ3,H3,I4,qn⟩
 ·refine eT hp (thn (T.item X rfl rfl rfl hc i pins s3 σ3 H3 X.xe I3 (stat fr3) st3 go) fun r s4 ⟨u,hr,h4⟩=>?_)
  subst hr
  refine eT hp (thn h4 fun _ s5 ⟨x,H5,I5,r5,y5,st5,fr5⟩=>?_)
  have I5' :=I5.pinned (stat fr5) (T.obj _ _ st5)
  refine eT hp (thn (hg _ s5 σ3 H5 x u _ I5' r5 (step x H5 y5)) fun _ s6 ⟨σ6,H6,I6,q6⟩=>?_)
  refine eT hp (thn (hb _ s6 σ6 H6 _ I6 q6) fun f s7 q7=>?_)
  have again:∀ {σ7:St} {H7:Hp},Inv X (pins ++ qZp fp s5.heap) σ7 H7 s7->N σ7 H7->∃m,m < n/\∃i σ' H',Inv X pins σ' H' s7/\tn i s7.heap/\(∀b∈fp,H' b=none)/\W i m σ' H' :=fun {σ7 H7} I7 n7=>by
   obtain⟨m',hm,w7⟩:=hN σ7 H7 n7
   refine⟨m',hm,i + 1,σ7,H7,I7.unpinned,T.keep _ _ _ st5 fun b hb o e=>(I7.pin (b,o) (bB _ (bB _ (xT hb e)))).1,fun b hb=>?_,w7⟩
   obtain⟨o,e,d⟩:=T.obj _ _ st5 b hb
   exact(I7.pin (b,o) (bB _ (bB _ (xT hb e)))).2.1
  cases f with
  | next=>obtain⟨σ7,H7,I7,n7⟩:=q7;exact again I7 n7
  | cont=>obtain⟨σ7,H7,I7,n7⟩:=q7;exact again I7 n7
  | brk=>obtain⟨σ7,H7,I7,q7⟩:=q7;exact⟨σ7,H7,I7.unpinned,q7⟩
  | ret v=>obtain⟨x7,σ7,H7,I7,r7,q7⟩:=q7;exact⟨x7,σ7,H7,I7.unpinned,r7,q7⟩
end
abbrev R2:=V->V->Hp->VK->Prop
def OpR (X:Cx) (f:Value->Value->Sem Value) (r:R2):Prop:=
 ∀(pins:List (aZ×Obj)) (s:aJ) (σ:St) (H:Hp) (x y:V) (v u:Value) (Q:VK),Inv X pins σ H s->RelV x v->RelV y u->r x y H Q->
  aR (model X.prog X.w) X.A (f v u) (EP X pins σ Q) X.xe s
def UnR (X:Cx) (f:Value->Sem Value) (r:V->Hp->VK->Prop):Prop:=
 ∀(pins:List (aZ×Obj)) (s:aJ) (σ:St) (H:Hp) (x:V) (v:Value) (Q:VK),Inv X pins σ H s->RelV x v->r x H Q->
  aR (model X.prog X.w) X.A (f v) (EP X pins σ Q) X.xe s
def zZ (X:Cx) (f:Value) (r:List V->Hp->VK->Prop):Prop:=
 ∀(pins:List (aZ×Obj)) (s:aJ) (σ:St) (H:Hp) (xs:List V) (us:List Value) (Q:VK),Inv X pins σ H s->Vals xs us->r xs H Q->
  aR (model X.prog X.w) X.A (call f us) (EP X pins σ Q) X.xe s
def tOp (r:R2) (ta tb:TE):TE:=fun σ H Q=>ta σ H fun x H1=>tb σ H1 fun y H2=>r x y H2 Q
def tUn (r:V->Hp->VK->Prop) (ta:TE):TE:=fun σ H Q=>ta σ H fun x H1=>r x H1 Q
def rI (C:Int->Int->Prop) (g:Int->Int->V):R2:=fun x y H Q=>∃i j,x= .int i/\y= .int j/\C i j/\Q (g i j) H
def rI0 (g:Int->Int->V):R2:=fun x y H Q=>∃i j,x= .int i/\y= .int j/\Q (g i j) H
def rU (g:Int->V):V->Hp->VK->Prop:=fun x H Q=>∃i,x= .int i/\Q (g i) H
section
variable {X:Cx} {a b c:Expr} {ta tb tc:TE} {pos:Pos}
theorem binT (ha:PE X a ta) (hb:PE X b tb) {pins:List (aZ×Obj)} {s:aJ} {σ:St} {H:Hp} {R:V->V->Hp->Prop} (I:Inv X pins σ H s)
  (h:ta σ H fun x H1=>tb σ H1 fun y H2=>R x y H2) {Q:Value->aJ->Prop} {f:Value->Value->Sem Value}
  (hf:∀v u s2 x y H2,Inv X pins σ H2 s2->RelV x v->RelV y u->R x y H2->aR (model X.prog X.w) X.A (f v u) Q X.xe s2):
  aR (model X.prog X.w) X.A (eval a X.env) (fun v s₁=>aR (model X.prog X.w) X.A (eval b X.env) (fun u s₂=>aR (model X.prog X.w) X.A (f v u) Q X.xe s₂) X.xe s₁) X.xe s:=by
 refine thn (ha pins s σ H _ I h) fun v s1 ⟨x,H1,I1,r1,q1⟩=>?_
 refine thn (hb pins s1 σ H1 _ I1 q1) fun u s2 ⟨y,H2,I2,r2,q2⟩=>?_
 exact hf v u s2 x y H2 I2 r1 r2 q2
theorem zV1 {op:Operator} {r:R2} (ho:OpR X (binaryOp op) r) (ha:PE X a ta) (hb:PE X b tb):PE X (.BinOp a op b pos) (tOp r ta tb):=by
 intro pins s σ H Q I h
 exact wpAny_BinOp (binT ha hb I h fun v u s2 x y H2 I2 rx ry q=>ho pins s2 σ H2 x y v u Q I2 rx ry q)
theorem zXn {op:UnaryOp} {r:V->Hp->VK->Prop} (ho:UnR X (unaryOp op) r) (ha:PE X a ta):PE X (.UnaryOp op a pos) (tUn r ta):=by
 intro pins s σ H Q I h
 exact UnaryOp_ (thn (ha pins s σ H _ I h) fun v s1 ⟨x,H1,I1,r1,q1⟩=>ho pins s1 σ H1 x v Q I1 r1 q1)
theorem opI {f:Value->Value->Sem Value} {C:Int->Int->Prop} {g:Int->Int->Int}
  (rule:∀(i j:Int) (t u:Tok) (s:aJ) (Q:Value->aJ->Prop) (E:Value->aJ->Prop),C i j->Q (.int (g i j) s.toks) {s with toks:=s.toks + 1}->aR (model X.prog X.w) X.A (f (.int i t) (.int j u)) Q E s):
  OpR X f (rI C fun i j=> .int (g i j)):=by
 intro pins s σ H x y v u Q I rx ry h
 obtain⟨i,j,rfl,rfl,hc,q⟩:=h
 obtain⟨t,rfl⟩:=rx
 obtain⟨t',rfl⟩:=ry
 exact rule i j t t' s _ _ hc ⟨.int (g i j),H,I.tok _,⟨_,rfl⟩,q⟩
theorem opI0 {f:Value->Value->Sem Value} {g:Int->Int->Int}
  (rule:∀(i j:Int) (t u:Tok) (s:aJ) (Q:Value->aJ->Prop) (E:Value->aJ->Prop),Q (.int (g i j) s.toks) {s with toks:=s.toks + 1}->aR (model X.prog X.w) X.A (f (.int i t) (.int j u)) Q E s):
  OpR X f (rI0 fun i j=> .int (g i j)):=by
 intro pins s σ H x y v u Q I rx ry h
 obtain⟨i,j,rfl,rfl,q⟩:=h
 obtain⟨t,rfl⟩:=rx
 obtain⟨t',rfl⟩:=ry
 exact rule i j t t' s _ _ ⟨.int (g i j),H,I.tok _,⟨_,rfl⟩,q⟩
theorem opB0 {f:Value->Value->Sem Value} {g:Int->Int->Bool}
  (rule:∀(i j:Int) (t u:Tok) (s:aJ) (Q:Value->aJ->Prop) (E:Value->aJ->Prop),Q (.bool (g i j)) s->aR (model X.prog X.w) X.A (f (.int i t) (.int j u)) Q E s):
  OpR X f (rI0 fun i j=> .bl (g i j)):=by
 intro pins s σ H x y v u Q I rx ry h
 obtain⟨i,j,rfl,rfl,q⟩:=h
 obtain⟨t,rfl⟩:=rx
 obtain⟨t',rfl⟩:=ry
 exact rule i j t t' s _ _ ⟨.bl (g i j),H,I,rfl,q⟩
theorem zJ1:OpR X (binaryOp .Add) (rI0 fun i j=> .int (i + j)):=opI0 fun _ _ _ _ _ _ _ q=>add_int q
theorem zJs:OpR X (binaryOp .Sub) (rI0 fun i j=> .int (i - j)):=opI0 fun _ _ _ _ _ _ _ q=>sub_int q
theorem zJv:OpR X (binaryOp .Mod) (rI (fun _ j=>0 < j) fun i j=> .int (i % j)):=opI fun i j _ _ _ _ _ hc q=>by
 have h1:(0:Int) < j:=hc
 exact mod_int' (by omega) (by rw [Int.fmod_eq_emod_of_nonneg i (by omega)];exact q)
theorem unI {f:Value->Sem Value} {g:Int->Int}
  (rule:∀(i:Int) (t:Tok) (s:aJ) (Q:Value->aJ->Prop) (E:Value->aJ->Prop),Q (.int (g i) s.toks) {s with toks:=s.toks + 1}->aR (model X.prog X.w) X.A (f (.int i t)) Q E s):
  UnR X f (rU fun i=> .int (g i)):=by
 intro pins s σ H x v Q I rx h
 obtain⟨i,rfl,q⟩:=h
 obtain⟨t,rfl⟩:=rx
 exact rule i t s _ _ ⟨.int (g i),H,I.tok _,⟨_,rfl⟩,q⟩
theorem zZm:UnR X (unaryOp .USub) (rU fun i=> .int (-i)):=unI fun _ _ _ _ _ q=>neg_int q
end
def scal:V->V->Bool
 | .non, .non=>true | .non, .int _=>true | .int _, .non=>true | .non, .bl _=>true | .bl _, .non=>true | .non, .str _=>true | .str _, .non=>true
 | .int _, .int _=>true | .bl _, .bl _=>true | .str _, .str _=>true | .byt _, .byt _=>true
 | .int _, .str _=>true | .str _, .int _=>true | .bl _, .str _=>true | .str _, .bl _=>true
 | _,_=>false
def rEq:R2:=fun x y H Q=>scal x y=true/\Q (.bl (decide (x=y))) H
def rNe:R2:=fun x y H Q=>scal x y=true/\Q (.bl (!decide (x=y))) H
theorem vVq {i j:Int}:decide (V.int i=V.int j)=(i == j):=by
 rw [Bool.eq_iff_iff]
 simp
theorem vW1 {i j:Bool}:decide (V.bl i=V.bl j)=(i == j):=by
 rw [Bool.eq_iff_iff]
 simp
theorem vVp {i j:Str}:decide (V.str i=V.str j)=(i == j):=by
 rw [Bool.eq_iff_iff]
 simp
theorem vVr {i j:Array UInt8}:decide (V.byt i=V.byt j)=(i.toList == j.toList):=by
 rw [Bool.eq_iff_iff]
 cases i
 cases j
 simp
section
variable {X:Cx} {a b c:Expr} {ta tb tc:TE} {pos:Pos}
theorem qL {pins:List (aZ×Obj)} {σ:St} {H:Hp} {s:aJ} {Q:VK} {k k' :Bool} (I:Inv X pins σ H s) (q:Q (.bl k) H) (e:k=k'):EP X pins σ Q (.bool k') s:=by
 subst e
 exact⟨.bl k,H,I,rfl,q⟩
theorem zXr:OpR X (bM .Eq) rEq:=by
 intro pins s σ H x y v u Q I rx ry h
 obtain⟨hs,q⟩:=h
 cases x with
 | non=>
   cases rx
   cases y with
   | non=>cases ry;exact PySem.EqNone.eq_none_none (qL I q (by simp))
   | bl j=>cases ry;exact PySem.EqNone.eq_none_bool (qL I q (by simp))
   | int j=>obtain⟨t',rfl⟩:=ry;exact PySem.EqNone.eq_none_int (qL I q (by simp))
   | str j=>obtain⟨t',rfl⟩:=ry;exact PySem.EqNone.eq_none_str (qL I q (by simp))
   | _=>exact absurd (show false=true from hs) aA
 | bl i=>
   cases rx
   cases y with
   | non=>cases ry;exact PySem.EqNone.eq_bool_none (qL I q (by simp))
   | bl j=>cases ry;exact eq_bool (qL I q vW1)
   | str j=>obtain⟨t',rfl⟩:=ry;exact PySem.EqMixed.eq_bool_str (qL I q (by simp))
   | _=>exact absurd (show false=true from hs) aA
 | int i=>
   obtain⟨t,rfl⟩:=rx
   cases y with
   | non=>cases ry;exact PySem.EqNone.eq_int_none (qL I q (by simp))
   | int j=>obtain⟨t',rfl⟩:=ry;exact eq_int (qL I q vVq)
   | str j=>obtain⟨t',rfl⟩:=ry;exact PySem.EqMixed.eq_int_str (qL I q (by simp))
   | _=>exact absurd (show false=true from hs) aA
 | str i=>
   obtain⟨t,rfl⟩:=rx
   cases y with
   | non=>cases ry;exact PySem.EqNone.eq_str_none (qL I q (by simp))
   | bl j=>cases ry;exact PySem.EqMixed.eq_str_bool (qL I q (by simp))
   | int j=>obtain⟨t',rfl⟩:=ry;exact PySem.EqMixed.eq_str_int (qL I q (by simp))
   | str j=>obtain⟨t',rfl⟩:=ry;exact eq_str (qL I q vVp)
   | _=>exact absurd (show false=true from hs) aA
 | byt i=>
   obtain⟨t,rfl⟩:=rx
   cases y with
   | byt j=>obtain⟨t',rfl⟩:=ry;exact PySem.W.eq_bytes (qL I q vVr)
   | _=>exact absurd (show false=true from hs) aA
 | _=>cases y <;> exact absurd (show false=true from hs) aA
theorem zXp:OpR X (bM .NotEq) rNe:=by
 intro pins s σ H x y v u Q I rx ry h
 obtain⟨hs,q⟩:=h
 cases x with
 | non=>
   cases rx
   cases y with
   | non=>cases ry;exact PySem.EqNone.ne_none_none (qL I q (by simp))
   | bl j=>cases ry;exact PySem.EqNone.ne_none_bool (qL I q (by simp))
   | int j=>obtain⟨t',rfl⟩:=ry;exact PySem.EqNone.ne_none_int (qL I q (by simp))
   | str j=>obtain⟨t',rfl⟩:=ry;exact PySem.EqNone.ne_none_str (qL I q (by simp))
   | _=>exact absurd (show false=true from hs) aA
 | bl i=>
   cases rx
   cases y with
   | non=>cases ry;exact PySem.EqNone.ne_bool_none (qL I q (by simp))
   | bl j=>cases ry;exact ne_bool (qL I q (congrArg not vW1))
   | str j=>obtain⟨t',rfl⟩:=ry;exact PySem.EqMixed.ne_bool_str (qL I q (by simp))
   | _=>exact absurd (show false=true from hs) aA
 | int i=>
   obtain⟨t,rfl⟩:=rx
   cases y with
   | non=>cases ry;exact PySem.EqNone.ne_int_none (qL I q (by simp))
   | int j=>obtain⟨t',rfl⟩:=ry;exact ne_int (qL I q (congrArg not vVq))
   | str j=>obtain⟨t',rfl⟩:=ry;exact PySem.EqMixed.ne_int_str (qL I q (by simp))
   | _=>exact absurd (show false=true from hs) aA
 | str i=>
   obtain⟨t,rfl⟩:=rx
   cases y with
   | non=>cases ry;exact PySem.EqNone.ne_str_none (qL I q (by simp))
   | bl j=>cases ry;exact PySem.EqMixed.ne_str_bool (qL I q (by simp))
   | int j=>obtain⟨t',rfl⟩:=ry;exact PySem.EqMixed.ne_str_int (qL I q (by simp))
   | str j=>obtain⟨t',rfl⟩:=ry;exact ne_str (qL I q (congrArg not vVp))
   | _=>exact absurd (show false=true from hs) aA
 | byt i=>
   obtain⟨t,rfl⟩:=rx
   cases y with
   | byt j=>obtain⟨t',rfl⟩:=ry;exact PySem.W.ne_bytes (qL I q (congrArg not vVr))
   | _=>exact absurd (show false=true from hs) aA
 | _=>cases y <;> exact absurd (show false=true from hs) aA
theorem zV5:OpR X (bM .Lt) (rI0 fun i j=> .bl (decide (i < j))):=opB0 fun _ _ _ _ _ _ _ q=>lt_int q
theorem zXq:OpR X (bM .Gt) (rI0 fun i j=> .bl (decide (j < i))):=opB0 fun _ _ _ _ _ _ _ q=>gt_int q
theorem zJw:OpR X (bM .Is) (fun x y H Q=>y= .non/\Q (.bl (decide (x= .non))) H):=by
 intro pins s σ H x y v u Q I rx ry h
 obtain⟨rfl,q⟩:=h
 cases ry
 refine is_none_gen (qL I q ?_)
 cases x <;> first
  | (cases rx;rfl)
  | (obtain⟨t,rfl⟩:=rx;rfl)
theorem zQd:OpR X (bM .IsNot) (fun x y H Q=>y= .non/\Q (.bl (!decide (x= .non))) H):=by
 intro pins s σ H x y v u Q I rx ry h
 obtain⟨rfl,q⟩:=h
 cases ry
 refine isnot_none_gen (qL I q ?_)
 cases x <;> first
  | (cases rx;rfl)
  | (obtain⟨t,rfl⟩:=rx;rfl)
theorem OpR.or {f:Value->Value->Sem Value} {r r' :R2} (h:OpR X f r) (h' :OpR X f r'):OpR X f (fun x y H Q=>r x y H Q\/r' x y H Q):=by
 intro pins s σ H x y v u Q I rx ry q
 rcases q with q | q
 ·exact h pins s σ H x y v u Q I rx ry q
 ·exact h' pins s σ H x y v u Q I rx ry q
theorem qVm (b:Expr) {op:CmpOp} (h:op≠ .In:=by decide) (h2:op≠ .NotIn:=by decide):behindInMarks op b=false:=by
 have e1:(op == CmpOp.In)=false:=by cases op <;> first | rfl | exact absurd rfl h
 have e2:(op == CmpOp.NotIn)=false:=by cases op <;> first | rfl | exact absurd rfl h2
 cases b <;> simp [behindInMarks,e1,e2]
theorem vK8 {op:CmpOp} {r:R2} (ho:OpR X (bM op) r) (ha:PE X a ta) (hb:PE X b tb) (hm:behindInMarks op b=false):PE X (.Compare a [op] [b] pos) (tOp r ta tb):=by
 intro pins s σ H Q I h
 exact wpAny_Compare1 (binT ha hb I h fun v u s2 x y H2 I2 rx ry q=>ho pins s2 σ H2 x y v u Q I2 rx ry q) hm
def zVp (t:TE):TT:=fun σ H Q=>t σ H fun x H' =>∃k,x= .bl k/\Q k H'
theorem vKn {op:CmpOp} {r:R2} (ho:OpR X (bM op) r) (ha:PE X a ta) (hb:PE X b tb) (hm:behindInMarks op b=false):PT X (.Compare a [op] [b] pos) (zVp (tOp r ta tb)):=by
 intro pins s σ H Q I h
 refine wpAny_isTrue_Compare1 (thn (ha pins s σ H _ I h) fun v s1 ⟨x,H1,I1,r1,q1⟩=>thn (hb pins s1 σ H1 _ I1 q1) fun u s2 ⟨y,H2,I2,r2,q2⟩=>
  thn (ho pins s2 σ H2 x y v u _ I2 r1 r2 q2) fun c s3 ⟨z,H3,I3,r3,k,e,q3⟩=>?_) hm
 subst e
 cases r3
 exact dH ⟨H3,I3,q3⟩
def vJ4 (r r' :R2) (ta tb tc:TE):TE:=fun σ H Q=>ta σ H fun x H1=>tb σ H1 fun y H2=>r x y H2 fun z H3=>∃k,z= .bl k/\
 (if k=true then tc σ H3 fun w' H4=>r' y w' H4 Q else Q (.bl false) H3)
theorem vXq {op op' :CmpOp} {r r' :R2} (ho:OpR X (bM op) r) (ho' :OpR X (bM op') r') (ha:PE X a ta) (hb:PE X b tb) (hc:PE X c tc)
  (hm:lastMarks [op,op'] [b,c]=false:=by with_unfolding_all rfl):PT X (.Compare a [op,op'] [b,c] pos) (zVp (vJ4 r r' ta tb tc)):=by
 intro pins s σ H Q I h
 refine isTrue_chain (thn (ha pins s σ H _ I h) fun v s1 ⟨x,H1,I1,r1,q1⟩=>test_link (thn (hb pins s1 σ H1 _ I1 q1) fun u s2 ⟨y,H2,I2,r2,q2⟩=>
  thn (ho pins s2 σ H2 x y v u _ I2 r1 r2 q2) fun d s3 ⟨z,H3,I3,r3,k,e,q3⟩=>?_)) hm
 subst e
 cases r3
 refine dH ?_
 cases k with
 | false=>
   obtain⟨k',e',q'⟩:=q3
   cases e'
   exact ite_ff ⟨H3,I3,q'⟩
 | true=>
   refine ite_tt (test_last (thn (hc pins s3 σ H3 _ I3 q3) fun w' s4 ⟨z',H4,I4,r4,q4⟩=>thn (ho' pins s4 σ H4 y z' u w' _ I4 r2 r4 q4) fun d' s5 ⟨z2,H5,I5,r5,k2,e2,q5⟩=>?_))
   subst e2
   cases r5
   exact dH ⟨H5,I5,q5⟩
theorem qZu:(bX:Nat) < 2 ^ 63:=by rw [sizeLine_eq];decide
theorem jI {x:V} {us:List Value} (r:Vals [x] us):∃u,us=[u]/\RelV x u:=by
 cases r with
 | cons r1 r2=>cases r2;exact⟨_,rfl,r1⟩
theorem vQf {x y:V} {us:List Value} (r:Vals [x,y] us):∃u w',us=[u,w']/\RelV x u/\RelV y w' :=by
 cases r with
 | cons r1 r2=>
   cases r2 with
   | cons r3 r4=>cases r4;exact⟨_,_,rfl,r1,r3⟩
theorem vJa (hc:X.calm=true):zZ X (.builtin "min") (fun xs H Q=>∃i j,xs=[.int i, .int j]/\Q (.int (if j < i then j else i)) H):=by
 intro pins s σ H xs us Q I r h
 obtain⟨i,j,rfl,q⟩:=h
 obtain⟨u,w',rfl,⟨t,rfl⟩,⟨t',rfl⟩⟩:=vQf r
 refine min_two_ints (I.ok.hd hc) fun h' tk k=>⟨_,H,I.kept k,?_,q⟩
 by_cases hj:j < i
 ·rw [if_pos hj,if_pos hj];exact⟨_,rfl⟩
 ·rw [if_neg hj,if_neg hj];exact⟨_,rfl⟩
end
structure ObjM (h:Heap) (x dx C:aZ) (mA:Str->Option Value):Prop where
 obj:h.get? x=some (dR C dx)
 ns:h.Ns1 dx mA
 ne:dx≠x
theorem vZq {h:Heap} {dx:aZ} {mA:Str->Option Value} (n:h.Ns1 dx mA):∃od,h.get? dx=some od/\∀name,PySem.W.lookIn name od=some (mA name):=by
 obtain⟨o,es,ep,ho,hd,hk,_,hm⟩:=n
 refine⟨o,ho,fun name=>?_⟩
 have e:=hm name
 unfold nsFind findBy at e
 rw [←Array.find?_toList] at e
 unfold PySem.W.lookIn
 rw [hd]
 dsimp only
 split
 ·rename_i y q
  rw [q] at e
  exact congrArg some e
 ·rename_i q
  rw [q] at e
  have a:es.toList.any (·.refKey)=false:=by
   rw [List.any_eq_false]
   intro y hy
   obtain⟨z,t,hkey⟩:=hk y (Array.mem_toList_iff.mp hy)
   simp [DictEntry.refKey,hkey]
  have a' :¬es.toList.any (·.refKey)=true:=by rw [a];exact aA
  rw [if_neg a']
  exact congrArg some e
theorem ObjM.look {h:Heap} {x dx C:aZ} {mA:Str->Option Value} (I:ObjM h x dx C mA):∃od,PySem.W.InstAt h x (dR C dx) C (some od)/\∀name,PySem.W.lookIn name od=some (mA name):=
 let ⟨od,ho,hl⟩:=vZq I.ns
 ⟨od,⟨I.obj,rfl,rfl,ho⟩,hl⟩
section
variable {prog:aH} {w:bJ} {A:bF} {E:Value->aJ->Prop} {s:aJ} {K:aQ} {x dx C f:aZ} {mA:Str->Option Value} {name:Str} {v:Value}
theorem zQ4 {expr:Bool} {Q:Value->aJ->Prop} (X:K.In s.heap) (I:ObjM s.heap x dx C mA) (hg:PySem.W.plainGet K C name=true) (hh:PySem.W.hasDictIn K C=true)
  (ha:eJ K (.ref C) name=some none) (hv:mA name=some v) (hv' :PySem.W.handedIn v=true) (h:Q v {s with toks:=s.toks + 1}):
  aR (model prog w) A (getAttr (.ref x) name expr) Q E s:=by
 obtain⟨od,J,hl⟩:=I.look
 exact PySem.W.get_value X J (PySem.W.plainGet_of hg).1 (PySem.W.findObj_own hh ha rfl (by rw [hl,hv])) hv' h
theorem vKb {ns:List Str} {Q:Unit->aJ->Prop} (X:K.In s.heap) (I:ObjM s.heap x dx C mA)
  (hs:eJ K (.ref C) "__setattr__"=some (some (.builtin "object.__setattr__"))) (hp:PySem.W.plainOver K C=true) (ht:PySem.W.takerIn K C name=some none) (hh:PySem.W.hasDictIn K C=true)
  (hw:PySem.Within mA ns) (hsz:ns.length<=bX)
  (h:∀h',ObjM h' x dx C (fun y=>if y=name then some v else mA y)->eB dx s.heap h' ->Q () {s with heap:=h',toks:=s.toks + 2}):
  aR (model prog w) A (setAttr (.ref x) name v) Q E s:=by
 obtain⟨od,J,hl⟩:=I.look
 refine PySem.W.set_plain X J hs (PySem.W.osa_open (s:={s with toks:=s.toks + 1}) (r:=none) X J hp ht fun b=>?_)
 obtain⟨cd,hc,hd'⟩:=PySem.W.any_some hh
 have hx:s.heap.get? x=some ⟨.ref C,some dx, .plain,#[]⟩:=I.obj
 refine aV (aW (aV (aV (wpAny_loadPart hx (aV (PySem.W.Looks.here (s:={s with toks:=s.toks + 1}) (PySem.W.looks_clsIn X hc) ?_))))))
 rw [hd']
 refine aW (a:=some dx) (aV (aW (aV ?_)))
 refine wpAny_nsSet1 (s:={s with toks:=s.toks + 1}) I.ns fun h' hn2 hs2=>?_
 obtain⟨oD,esD,epD,hoD,hdD,hcD⟩:=hn2.count (PySem.Within.cons name v hw)
 refine aV (wpAny_lookBehind hoD (by rw [hdD];exact pastItsLine_dict (bT hcD (by rw [aK];omega))) ?_)
 exact aW (h _ ⟨(hs2.2 _ (Ne.symm I.ne)).trans I.obj,hn2,I.ne⟩ hs2)
theorem vX8 {R:Result->aJ->Prop} {vs:List Value} {kw:List (Str×Value)} (X:K.In s.heap) (hm:PySem.W.makesIn K C=true)
  (hi:eJ K (.ref C) "__init__"=some (some (.ref f))) (hf:PySem.W.typeIn K (.ref f)=some (.type "function"))
  (h:codeAny (model prog w) (A.under (.builtin "type.__call__" ⟨.ref C::vs,kw⟩)) (.call (.ref f) ⟨.ref (s.heap.objs.size + 1)::vs,kw⟩) (PySem.W.InitBack (s.heap.objs.size + 1) R)
   {s with heap:=(s.heap.push cT).push (dR C s.heap.objs.size)}):
  codeAny (model prog w) A (.call (.ref C) ⟨vs,kw⟩) R s:=by
 obtain⟨hh,g,d,t,os⟩:=s
 exact PySem.W.make_core (PySem.W.makes_of X hm) (PySem.W.looks_findIn X hi) (fun self=>PySem.W.bind_fn X self hf) (.inl rfl) h
end
def putF (f:Str) (v:V):List (Str×V)->List (Str×V)
 | []=> [(f,v)]
 | (g,x)::r=>if g=f then(g,v)::r else(g,x)::putF f v r
theorem qV6 (f g:Str) (v:V):∀fs:List (Str×V),(putF f v fs).lookup g=if g=f then some v else fs.lookup g
 | []=>by
   show List.lookup g [(f,v)]=_
   by_cases h:g=f
   ·have hb:(g == f)=true:=beq_iff_eq.mpr h
    simp only [List.lookup,hb,if_pos h]
   ·have hb:(g == f)=false:=beq_eq_false_iff_ne.mpr h
    simp only [List.lookup,hb,if_neg h]
 | (k,x)::r=>by
   have ih:=qV6 f g v r
   rw [show putF f v ((k,x)::r)=(if k=f then(k,v)::r else(k,x)::putF f v r) from rfl]
   by_cases hk:k=f
   ·rw [if_pos hk]
    by_cases h:g=k
    ·have hb:(g == k)=true:=beq_iff_eq.mpr h
     simp only [List.lookup,hb,if_pos (h.trans hk)]
    ·have hb:(g == k)=false:=beq_eq_false_iff_ne.mpr h
     simp only [List.lookup,hb,if_neg (fun e:g=f=>h (e.trans hk.symm))]
   ·rw [if_neg hk]
    by_cases h:g=k
    ·have hb:(g == k)=true:=beq_iff_eq.mpr h
     simp only [List.lookup,hb,if_neg (fun e:g=f=>hk (h.symm.trans e))]
    ·have hb:(g == k)=false:=beq_eq_false_iff_ne.mpr h
     simp only [List.lookup,hb]
     exact ih
theorem qVs (f:Str) (v:V):∀fs:List (Str×V),f∈(putF f v fs).map (·.1)/\∀g,g∈fs.map (·.1)->g∈(putF f v fs).map (·.1)
 | []=>⟨by simp [putF],fun g h=>by simp at h⟩
 | (k,x)::r=>by
   obtain⟨i1,i2⟩:=qVs f v r
   rw [show putF f v ((k,x)::r)=(if k=f then(k,v)::r else(k,x)::putF f v r) from rfl]
   by_cases hk:k=f
   ·rw [if_pos hk]
    subst hk
    exact⟨by simp,fun g h=>by simpa using h⟩
   ·rw [if_neg hk]
    refine⟨?_,fun g h=>?_⟩
    ·rw [aC]
     exact aE _ i1
    ·rw [aC] at h⊢
     rcases aB.mp h with e | e
     ·exact aB.mpr (.inl e)
     ·exact aE _ (i2 g e)
theorem qV8 (f:Str) (v:V):∀fs:List (Str×V),(putF f v fs).length<=fs.length + 1
 | []=>by simp [putF]
 | (k,x)::r=>by
   have ih:=qV8 f v r
   rw [show putF f v ((k,x)::r)=(if k=f then(k,v)::r else(k,x)::putF f v r) from rfl]
   by_cases hk:k=f
   ·rw [if_pos hk,aK,aK];omega
   ·rw [if_neg hk,aK,aK];omega
theorem RelO.some_of {v:V} {o:Option Value} (r:RelO (some v) o):∃u,o=some u/\RelV v u:=by
 cases o with
 | none=>exact(show False from r).elim
 | some u=>exact⟨u,rfl,r⟩
theorem vZ2 {v:V} {u:Value} (r:RelV v u):PySem.W.handedIn u=true:=by
 cases v with
 | non=>cases(show u=Value.none from r);rfl
 | bl b=>cases(show u=Value.bool b from r);rfl
 | int i=>obtain⟨t,e⟩:=(show∃t,u=Value.int i t from r);cases e;rfl
 | str x=>obtain⟨t,e⟩:=(show∃t,u=Value.str x t from r);cases e;rfl
 | byt b=>obtain⟨t,e⟩:=(show∃t,u=Value.bytes b t from r);cases e;rfl
 | flt b=>obtain⟨t,e⟩:=(show∃t,u=Value.float b t from r);cases e;rfl
 | ref a=>cases(show u=Value.ref a from r);rfl
 | ty n=>cases(show u=Value.type n from r);rfl
section
variable {P:aH} {w:bJ} {H H' :Hp} {h h' :Heap} {a C dx:aZ} {fs fs' :List (Str×V)}
theorem qW8 (hok:HOk P w H h) (e:H a=some (.ins C dx fs)):∃mA,ObjM h a dx C mA/\(∀f,RelO (fs.lookup f) (mA f))/\PySem.Within mA (fs.map (·.1))/\fs.length<=1000/\H dx=some (.own a):=by
 obtain⟨d,z,ne,ob,mA,n,r,q⟩:=(show vJ P w H h a (.ins C dx fs) from hok a _ e)
 exact⟨mA,⟨ob,n,ne⟩,r,q,z,d⟩
end
structure Cls (K:aQ) (C:aZ):Prop where
 pg:PySem.W.plainGet K C Str.empty=true
 hd:PySem.W.hasDictIn K C=true
 po:PySem.W.plainOver K C=true
 sa:eJ K (.ref C) "__setattr__"=some (some (.builtin "object.__setattr__"))
theorem Cls.get {K:aQ} {C:aZ} (c:Cls K C) (f:Str):PySem.W.plainGet K C f=true:=c.pg
def jU (K:aQ) (C:aZ) (f:Str):Prop:=eJ K (.ref C) f=some none
theorem jU.taker {K:aQ} {C:aZ} {f:Str} (n:jU K C f):PySem.W.takerIn K C f=some none:=by
 unfold PySem.W.takerIn
 rw [show eJ K (.ref C) f=some none from n]
 rfl
section
variable {X:Cx} {pins:List (aZ×Obj)} {σ:St} {H:Hp} {s:aJ} {a C dx:aZ} {fs:List (Str×V)} {f:Str} {v:V} {A:bF} {E:Value->aJ->Prop}
theorem qK7 {b:Bool} {Q:Value->aJ->Prop} (I:Inv X pins σ H s) (e:H a=some (.ins C dx fs)) (c:Cls X.K C) (n:jU X.K C f) (l:fs.lookup f=some v)
  (h:∀u s',Inv X pins σ H s' ->RelV v u->Q u s'):aR (model X.prog X.w) A (getAttr (.ref a) f b) Q E s:=by
 obtain⟨mA,O,r,_,_,_⟩:=qW8 I.hok e
 obtain⟨u,hu,ru⟩:=RelO.some_of (v:=v) (o:=mA f) (by rw [←l];exact r f)
 exact zQ4 I.kIn O (c.get f) c.hd n hu (vZ2 ru) (h u _ (I.tok _) ru)
theorem qKz {y:V} {u:Value} {Q:Unit->aJ->Prop} (I:Inv X pins σ H s) (e:H a=some (.ins C dx fs)) (c:Cls X.K C) (n:jU X.K C f) (hl:fs.length < 1000) (ry:RelV y u)
  (h:∀s',Inv X pins σ (upd H a (.ins C dx (putF f y fs))) s' ->Q () s'):aR (model X.prog X.w) A (setAttr (.ref a) f u) Q E s:=by
 obtain⟨mA,O,r,wi,_,ho⟩:=qW8 I.hok e
 have hz:(fs.map (·.1)).length<=bX:=by rw [aY,sizeLine_eq];omega
 refine vKb I.kIn O c.sa c.po n.taker c.hd wi hz fun h' O' sb=>h _ ?_
 have hd:∃o,h'.get? dx=some o:=let ⟨o,_,_,e',_⟩:=O'.ns;⟨o,e'⟩
 refine I.write (x:=a) (e:=dx) (by rw [e];exact True.intro) (.inr ho) (fun b q hb z=>(sb.2 b hb).trans z) hd ?_
 refine⟨by rw [qU O.ne];exact ho,?_,O.ne,O'.obj,_,O'.ns,fun g=>?_,fun g hg=>?_⟩
 ·have:=qV8 f y fs;omega
 ·show RelO ((putF f y fs).lookup g) (if g=f then some u else mA g)
  rw [qV6]
  by_cases q:g=f
  ·rw [if_pos q,if_pos q];exact ry
  ·rw [if_neg q,if_neg q];exact r g
 ·by_cases q:g=f
  ·rw [q];exact(qVs f y fs).1
  ·refine(qVs f y fs).2 g (wi g fun z=>hg ?_)
   show(if g=f then some u else mA g)=none
   rw [if_neg q];exact z
theorem Inv.made (I:Inv X pins σ H s):Inv X pins σ (upd (upd H s.heap.objs.size (.own (s.heap.objs.size + 1))) (s.heap.objs.size + 1) (.ins C s.heap.objs.size []))
  {s with heap:=(s.heap.push cT).push (dR C s.heap.objs.size)}:=by
 have e1:(s.heap.push cT).get? s.heap.objs.size=some cT:=aL s.heap rfl
 have e2:((s.heap.push cT).push (dR C s.heap.objs.size)).get? (s.heap.objs.size + 1)=some (dR C s.heap.objs.size):=by
  have:=aL (s.heap.push cT) (o:=dR C s.heap.objs.size) rfl
  rwa [cZ] at this
 have e3:(s.heap.push cT).Ns s.heap.objs.size (fun _=>none):=⟨cT,#[],_,e1,rfl,(fun e he=>absurd he (by simp)),fun _=>rfl⟩
 have I1:=I.laid (a:=s.heap.objs.size) (o:= .own (s.heap.objs.size + 1)) (h' :=s.heap.push cT) (t' :=s.toks) (fun b u q=>aX _ q) (aG _) ⟨_,e1⟩
 refine I1.laid (a:=s.heap.objs.size + 1) (o:= .ins C s.heap.objs.size []) (t' :=s.toks) (fun b u q=>aX _ q) (Nat.le_of_eq (cZ _ _)) ?_
 have ne:s.heap.objs.size≠s.heap.objs.size + 1:=bZ (Nat.lt_succ_self _)
 refine⟨by rw [qU ne,upd_same],cH _,ne,e2,fun _=>none,(Heap.Ns1.of_empty e3).at fun o q=>aX _ q,fun _=>True.intro,fun y hy=>absurd rfl hy⟩
theorem zVl {prog:aH} {w:bJ} {env:Env} {e:Expr} {f:Str} {pos:Pos} {s:aJ} {Q:Value->aJ->Prop} (hb:attributeBase e f env (eval e env)=eval e env)
  (h:aR (model prog w) A (eval e env) (fun o s₁=>aR (model prog w) A (getAttr o f true) Q E s₁) E s):aR (model prog w) A (eval (.Attribute e f pos) env) Q E s:=
 Attribute_any_ h (by rw [arm_eval_Attribute,hb])
end
def tFld (K:aQ) (ta:TE) (f:Str):TE:=fun σ H Q=>ta σ H fun x H1=>∃a C dx fs v,x= .ref a/\H1 a=some (.ins C dx fs)/\Cls K C/\jU K C f/\fs.lookup f=some v/\Q v H1
def sFld (K:aQ) (ta tv:TE) (f:Str):TS:=fun D σ H=>tv σ H fun y H1=>ta σ H1 fun x H2=>∃a C dx fs,x= .ref a/\H2 a=some (.ins C dx fs)/\Cls K C/\jU K C f/\fs.length < 1000/\
 D.nx σ (upd H2 a (.ins C dx (putF f y fs)))
section
variable {X:Cx} {o e value:Expr} {f:Str} {pos pos' tpos:Pos} {ta tv:TE}
theorem zJq (he:PE X e ta) (hb:attributeBase e f X.env (eval e X.env)=eval e X.env):PE X (.Attribute e f pos) (tFld X.K ta f):=by
 intro pins s σ H Q I h
 refine zVl hb (thn (he pins s σ H _ I h) fun u s1 ⟨x,H1,I1,rx,a,C,dx,fs,v,ex,ea,c,n,l,q⟩=>?_)
 subst ex
 obtain rfl:u=Value.ref a:=rx
 exact qK7 I1 ea c n l fun u' s2 I2 ru=>⟨v,H1,I2,ru,q⟩
theorem zJc (ha:PE X o ta) (hv:PE X value tv) (hs:swapsWith value (some (.Attribute o f pos')) pos.line X.env=pure false):PS X (.Assign [.Attribute o f pos'] value pos) (sFld X.K ta tv f):=by
 intro pins s σ H D I h
 refine plainObj_wpAny_Assign_Attribute (thn (hv pins s σ H _ I h) fun u s1 ⟨y,H1,I1,ry,q⟩=>thn (ha pins s1 σ H1 _ I1 q) fun ov s2 ⟨x,H2,I2,rx,a,C,dx,fs,ex,ea,c,n,l,q2⟩=>?_) hs
 subst ex
 obtain rfl:ov=Value.ref a:=rx
 exact qKz I2 ea c n l ry fun s3 I3=>⟨σ,_,I3,q2⟩
end
section
variable {X:Cx} {pins:List (aZ×Obj)} {σ:St} {H:Hp} {s:aJ} {A:bF} {E:Value->aJ->Prop} {Q:Value->aJ->Prop} {c:Value} {b:Bool}
inductive TyOf (K:aQ) (H:Hp):V->Value->Prop where
 | non:TyOf K H .non (.type "NoneType")
 | bl (x:Bool):TyOf K H (.bl x) (.type "bool")
 | int (i:Int):TyOf K H (.int i) (.type "int")
 | str (x:Str):TyOf K H (.str x) (.type "str")
 | flt (x:UInt64):TyOf K H (.flt x) (.type "float")
 | lst {a:aZ} {xs:List V} (e:H a=some (.lst xs)):TyOf K H (.ref a) (.type "list")
 | frz {a:aZ} {o:Obj} {xs:List V} (e:H a=some (.frz o (.lst xs))):TyOf K H (.ref a) (.type "list")
 | tup {a:aZ} {xs:List V} (e:H a=some (.tup xs)):TyOf K H (.ref a) (.type "tuple")
 | dK {a:aZ} {kvs:List (Key×V)} (e:H a=some (.dK kvs)):TyOf K H (.ref a) (.type "dict")
 | dT {a:aZ} {kvs:List (List Key×V)} (e:H a=some (.dT kvs)):TyOf K H (.ref a) (.type "dict")
 | ins {a C dx:aZ} {fs:List (Str×V)} (e:H a=some (.ins C dx fs)) (cl:Cls K C) (ha:eJ K (.ref C) "__class__"=some (some (.builtin "object.__class__")))
   (hn:PySem.W.specialIn K (.builtin "object.__class__") "__get__"=some (some (.builtin "getset_descriptor.__get__"))) (htk:PySem.W.takesIn K (.builtin "object.__class__")=some true)
   (hm:PySem.W.mroIn K C (.type "object")=some true):TyOf K H (.ref a) (.ref C)
theorem vZy {x:V} {u t:Value} (I:Inv X pins σ H s) (rx:RelV x u) (ty:TyOf X.K H x t) (e:cE X.K t c=some b) (h:∀tk,Q (.bool b) {s with toks:=tk}):
  aR (model X.prog X.w) A (call (.builtin "isinstance") [u,c]) Q E s:=by
 cases ty with
 | non=>cases(show u=Value.none from rx);exact cD PySem.W.kitx_none I.kIn True.intro e (fun z=>nomatch z) h
 | bl y=>cases(show u=Value.bool y from rx);exact cD PySem.W.kitx_bool I.kIn True.intro e (fun z=>nomatch z) h
 | int i=>obtain⟨t,q⟩:=(show∃t,u=Value.int i t from rx);cases q;exact cD PySem.W.kitx_int I.kIn True.intro e (fun z=>nomatch z) h
 | str y=>obtain⟨t,q⟩:=(show∃t,u=Value.str y t from rx);cases q;exact cD PySem.W.kitx_str I.kIn True.intro e (fun z=>nomatch z) h
 | flt y=>obtain⟨t,q⟩:=(show∃t,u=Value.float y t from rx);cases q;exact cD PySem.W.kitx_float I.kIn True.intro e (fun z=>nomatch z) h
 | @lst a xs ea=>
   cases(show u=Value.ref a from rx)
   obtain⟨_,_,n,_,h1⟩:=(show vJ X.prog X.w H s.heap a (.lst xs) from I.hok a _ ea)
   exact cD PySem.W.kitx_list I.kIn ⟨_,h1,rfl⟩ e (fun z=>nomatch z) h
 | @frz a ob xs ea=>
   cases(show u=Value.ref a from rx)
   obtain⟨_,_,_,n,_,h1⟩:=(show vJ X.prog X.w H s.heap a (.frz ob (.lst xs)) from I.hok a _ ea)
   exact cD PySem.W.kitx_list I.kIn ⟨_,h1,rfl⟩ e (fun z=>nomatch z) h
 | @tup a xs ea=>
   cases(show u=Value.ref a from rx)
   obtain⟨_,_,_,p⟩:=(show vJ X.prog X.w H s.heap a (.tup xs) from I.hok a _ ea)
   obtain⟨o,h1,h2,_⟩:=p
   exact cD PySem.W.kitx_tuple I.kIn ⟨o,h1,h2⟩ e (fun z=>nomatch z) h
 | @dK a kvs ea=>
   cases(show u=Value.ref a from rx)
   obtain⟨_,_,vs,_,p⟩:=(show vJ X.prog X.w H s.heap a (.dK kvs) from I.hok a _ ea)
   obtain⟨o,es,ep,h1,h2,_⟩:=p
   exact cD PySem.W.kitx_dict I.kIn ⟨o,h1,h2.1⟩ e (fun z=>nomatch z) h
 | @dT a kvs ea=>
   cases(show u=Value.ref a from rx)
   obtain⟨_,_,xs,_,o,es,ep,h1,h2,_⟩:=(show vJ X.prog X.w H s.heap a (.dT kvs) from I.hok a _ ea)
   exact cD PySem.W.kitx_dict I.kIn ⟨o,h1,h2.1⟩ e (fun z=>nomatch z) h
 | @ins a C dx fs ea cl ha hn htk hm=>
   cases(show u=Value.ref a from rx)
   obtain⟨mA,O,_⟩:=qW8 I.hok ea
   obtain⟨od,J,_⟩:=O.look
   exact cD (PySem.W.kitx_own (cl.get _) cl.hd ha hn htk hm) I.kIn J e (fun z=>nomatch z) h
end
structure Room (k:Nat) (A:bF):Prop where
 hd:A.handled=none
 dp:A.depth + 3 * k + 5 < recursionLimit
 un:A.units + 16 * k + 200 < dC
 gd:A.guards=some []
theorem Room.mono {j k:Nat} {A:bF} (r:Room k A) (h:j<=k):Room j A:=⟨r.hd,by have:=r.dp;omega,by have:=r.un;omega,r.gd⟩
theorem Room.deeper {k:Nat} {A:bF} (r:Room (k + 1) A) (env:Env):Room k (A.deeper env):=
 ⟨r.hd,by have:=r.dp;show A.depth + 1 + 3 * k + 5 < _;omega,by have:=r.un;show A.units + 3 + 16 * k + 200 < _;omega,r.gd⟩
theorem Room.in1 {k:Nat} {A:bF} (r:Room (k + 1) A):Room k A.in1:=
 ⟨r.hd,by have:=r.dp;show A.depth + 3 * k + 5 < _;omega,by have:=r.un;show A.units + 1 + 16 * k + 200 < _;omega,r.gd⟩
theorem qK5 {A:bF} {C:aZ} {us:List Value} {kw:List (Str×Value)}:(A.under (.builtin "type.__call__" ⟨.ref C::us,kw⟩)).depth=A.depth + 1:=by
 first | rfl | simp [Around.under,Code.weight,Code.isCreation,Code.isGuard,Code.isCaller,Code.frames,Code.isFrame,guardIds]
theorem qK4 {A:bF} {C:aZ} {us:List Value} {kw:List (Str×Value)}:(A.under (.builtin "type.__call__" ⟨.ref C::us,kw⟩)).units=A.units + 1:=by
 first | rfl | simp [Around.under,Code.cUnits,Code.frames,Code.isFrame]
theorem qY6 {A:bF} {C:aZ} {us:List Value} {kw:List (Str×Value)}:(A.under (.builtin "type.__call__" ⟨.ref C::us,kw⟩)).guards=A.guards:=by
 first | rfl | simp [Around.under,Code.isGuard,guardIds]
theorem Room.make {k:Nat} {A:bF} (r:Room (k + 1) A) (C:aZ) (us:List Value) (kw:List (Str×Value)):Room k (A.under (.builtin "type.__call__" ⟨.ref C::us,kw⟩)):=
 ⟨r.hd,by have:=r.dp;rw [qK5];omega,by have:=r.un;rw [qK4];omega,by rw [qY6];exact r.gd⟩
theorem Room.depth {k:Nat} {A:bF} (r:Room k A):A.depth < recursionLimit:=by have:=r.dp;omega
theorem Room.units {k:Nat} {A:bF} (r:Room k A):A.units + 64 < dC:=by have:=r.un;omega
def tNil:TA:=fun _ H Q=>Q [] H
def qJu (ta:TE) (tr:TA):TA:=fun σ H Q=>ta σ H fun x H1=>tr σ H1 fun xs H2=>Q (x::xs) H2
section
variable {X:Cx} {e:Expr} {es:List Expr} {te:TE} {t:TA} {pos:Pos}
theorem xI:PA X [] tNil:=fun _ _ _ _ H Q I h=>Calls.spliced_nil ⟨[],H,I, .nil,h⟩
theorem jR (ha:PE X e te) (hr:PA X es t) (hs:aU (e::es) X.env=(false,eval e X.env)::aU es X.env:=by rfl):PA X (e::es) (qJu te t):=by
 intro pos pins s σ H Q I h
 rw [hs]
 show aR _ _ (spliced ((false,eval e X.env)::cM pos (aU es X.env))) _ _ s
 refine Calls.spliced_cons (thn (ha pins s σ H _ I h) fun u s1 ⟨x,H1,I1,r1,q1⟩=>?_)
 exact thn (hr pos pins s1 σ H1 _ I1 q1) fun us s2 ⟨xs,H2,I2,r2,q2⟩=>⟨x::xs,H2,I2, .cons r1 r2,q2⟩
def tTup (t:TA):TE:=fun σ H Q=>t σ H fun xs H1=>xs.length<=bX/\∀p,H1 p=none->Q (.ref p) (upd H1 p (.tup xs))
def tLst (t:TA):TE:=fun σ H Q=>t σ H fun xs H1=>xs.length<=bX/\∀p,H1 p=none->Q (.ref p) (upd H1 p (.lst xs))
theorem vWg {x1} (h:PA X es t):PE X (.Tuple es x1 pos) (tTup t):=by
 intro pins s σ H Q I hq
 refine wpAny_Tuple_spliced (thn (h pos pins s σ H _ I hq) fun us s1 ⟨xs,H1,I1,r,z,q⟩=>⟨by rw [←r.length];exact z,?_⟩)
 have hf:H1 s1.heap.objs.size=none:=I1.hok.fresh (aG _)
 refine⟨.ref s1.heap.objs.size,upd H1 s1.heap.objs.size (.tup xs),I1.laid (t' :=s1.toks) (fun b u e=>aX _ e) (aG _) ?_,rfl,q _ hf⟩
 exact⟨z,us,r,⟨_,aL _ rfl,rfl,_,rfl⟩⟩
theorem zJo (h:PA X es t):PE X (.List es pos) (tLst t):=by
 intro pins s σ H Q I hq
 refine wpAny_List_spliced (thn (h pos pins s σ H _ I hq) fun us s1 ⟨xs,H1,I1,r,z,q⟩=>⟨by rw [←r.length];exact z,?_⟩)
 have hf:H1 s1.heap.objs.size=none:=I1.hok.fresh (aG _)
 refine⟨.ref s1.heap.objs.size,upd H1 s1.heap.objs.size (.lst xs),I1.laid (t' :=s1.toks) (fun b u e=>aX _ e) (aG _) ?_,rfl,q _ hf⟩
 exact⟨z,us,0,r,aL _ rfl⟩
end
abbrev Sp:=List V->Hp->VK->XK->Prop
abbrev CXT:=List Env->Hp->aJ->XK->Value->aJ->Prop
structure Env0 (P:aH) (w:bJ) (K:aQ) (mg:Str->Option Value) (base:Heap) (A:bF) (outer:List Env) (s:aJ) (H:Hp):Prop where
 frames:A.frames=some outer
 mod:Mod K mg base
 bs:∀b o,base.get? b=some o->s.heap.get? b=some o/\H b=none
 bsz:base.objs.size<=s.heap.objs.size
 funs:s.heap.FunFrames base outer
 frf:∀b∈frs outer,H b=none
 hok:HOk P w H s.heap
 bare:AllBare s.gens
def CE (outer:List Env) (P:aH) (w:bJ) (H:Hp) (s:aJ) (Q:VK) (u:Value) (s' :aJ):Prop:=
 ∃v H',s'.os=s.os/\AllBare s'.gens/\Un (frs outer) [] H H' s.heap s'.heap/\HOk P w H' s'.heap/\RelV v u/\Q v H'
def CR (CX:CXT) (outer:List Env) (P:aH) (w:bJ) (H:Hp) (s:aJ) (Q:VK) (E:XK) (r:Result) (s' :aJ):Prop:=
 match r with
 | .ok (.ret u)=>CE outer P w H s Q u s'
 | .ok _=>False
 | .error e=>CX outer H s E e s'
structure FnOk (P:aH) (w:bJ) (K:aQ) (mg:Str->Option Value) (base:Heap) (CX:CXT) (k:Nat) (f:aZ) (fd:bW) (ps:List Str) (sp:Sp):Prop where
 len:∀vs H Q E,sp vs H Q E->vs.length=ps.length
 run:∀(A:bF) (outer:List Env) (s:aJ) (H:Hp) (args:Args) (us:List Value) (vs:List V) (Q:VK) (E:XK),Room k A->Env0 P w K mg base A outer s H->BindsTo s fd args (ps.zip us)->Vals vs us->sp vs H Q E->
  codeAny (model P w) A (.call (.ref f) args) (CR CX outer P w H s Q E) s
theorem FnOk.imp {P:aH} {w:bJ} {K:aQ} {mg:Str->Option Value} {base:Heap} {CX:CXT} {k:Nat} {f:aZ} {fd:bW} {ps:List Str} {sp sp' :Sp} (F:FnOk P w K mg base CX k f fd ps sp)
  (h:∀vs H Q E,sp' vs H Q E->sp vs H Q E):FnOk P w K mg base CX k f fd ps sp' :=
 ⟨fun vs H Q E q=>F.len vs H Q E (h _ _ _ _ q),fun A outer s H args us vs Q E hr he hb hv hs=>F.run A outer s H args us vs Q E hr he hb hv (h _ _ _ _ hs)⟩
theorem Env0.make {P:aH} {w:bJ} {K:aQ} {mg:Str->Option Value} {base:Heap} {A:bF} {outer:List Env} {s:aJ} {H:Hp} (e:Env0 P w K mg base A outer s H) (C:aZ) (us:List Value) (kw:List (Str×Value)):
  Env0 P w K mg base (A.under (.builtin "type.__call__" ⟨.ref C::us,kw⟩)) outer s H:=⟨by first | exact e.frames | (simpa [Around.under,Code.envs,Code.isFrame,pushEnvs] using e.frames),e.mod,e.bs,e.bsz,e.funs,e.frf,e.hok,e.bare⟩
section
variable {X:Cx} {pins:List (aZ×Obj)} {σ:St} {H:Hp} {s s' :aJ}
theorem Inv.env0 (I:Inv X pins σ H s):Env0 X.prog X.w X.K X.mg X.base X.A X.stack s H:=
 ⟨I.ok.frames,I.ok.mod,I.bs,bT I.ok.bsz I.sz,I.stack,I.stkFree,I.hok,I.bare⟩
theorem Inv.after {Q:VK} {u:Value} (I:Inv X pins σ H s) (h:CE X.stack X.prog X.w H s Q u s'):EP X pins σ Q u s' :=by
 obtain⟨v,H',os,bare,un,hok,r,q⟩:=h
 obtain⟨hh,g,d,t,os'⟩:=s'
 obtain rfl:os' =s.os:=os
 exact⟨v,H',I.call (h' :=hh) (g' :=g) (d' :=d) (t' :=t) (ch:=[]) un hok bare (fun b z=>absurd z (by simp)),r,q⟩
end
def zVr (sp:Sp) (dvs:List V) (E:XK) (t:TA):TE:=fun σ H Q=>t σ H fun vs H1=>sp (vs ++ dvs) H1 Q E
def zVq (C:aZ) (sp:Sp) (dvs:List V) (E:XK) (t:TA):TE:=fun σ H Q=>t σ H fun vs H1=>∀x dx,H1 x=none->H1 dx=none->dx≠x->
 sp (.ref x::(vs ++ dvs)) (upd (upd H1 dx (.own x)) x (.ins C dx [])) (fun v H2=>v= .non/\Q (.ref x) H2) E
def yD (K:aQ) (fd:bW) (ps:List Str) (ds:List Value):Prop:=
 ∀(s:aJ) (us:List Value),K.In s.heap->(us ++ ds).length=ps.length->BindsTo s fd ⟨us,[]⟩ (ps.zip (us ++ ds))
theorem yD.all {K:aQ} {fd:bW} {ps:List Str} (h:∀us:List Value,us.length=ps.length->bindArgs fd ⟨us,[]⟩=pure (ps.zip us)):yD K fd ps []:=fun s us _ hl=>by
 rw [bR] at hl⊢
 exact .of_eq (h us hl)
def qQz (CX:CXT) (X:Cx) (E:XK):Prop:=∀(pins:List (aZ×Obj)) (σ:St) (H:Hp) (s:aJ) (e:Value) (s' :aJ),Inv X pins σ H s->CX X.stack H s E e s' ->X.xe e s'
section
variable {X:Cx} {CX:CXT} {k:Nat} {f C:aZ} {fd:bW} {ps:List Str} {sp:Sp} {dvs:List V} {ds:List Value} {E:XK} {x m:Str} {p pos apos:Pos} {e o:Expr} {es:List Expr} {ta:TE} {t:TA}
theorem zZw {pins:List (aZ×Obj)} {σ:St} {H:Hp} {s:aJ} {Q:VK} {us:List Value} {vs:List V} (F:FnOk X.prog X.w X.K X.mg X.base CX k f fd ps sp) (hr:Room k X.A) (hb:yD X.K fd ps ds) (hd:Vals dvs ds) (hx:qQz CX X E)
  (I:Inv X pins σ H s) (r:Vals vs us) (h:sp (vs ++ dvs) H Q E):aR (model X.prog X.w) X.A (call (.ref f) us) (EP X pins σ Q) X.xe s:=by
 have r2:Vals (vs ++ dvs) (us ++ ds):=r.append hd
 have hl:(us ++ ds).length=ps.length:=by rw [←r2.length];exact F.len _ _ _ _ h
 refine wpAny_call (codeAny_mono (F.run X.A X.stack s H ⟨us,[]⟩ (us ++ ds) (vs ++ dvs) Q E hr I.env0 (hb s us I.kIn hl) r2 h) fun r s' hq=>?_)
 cases r with
 | error e=>exact hx pins σ H s e s' I hq
 | ok fl=>
   cases fl with
   | ret u=>exact I.after hq
   | next=>exact False.elim hq
   | brk=>exact False.elim hq
   | cont=>exact False.elim hq
theorem vK9 (F:FnOk X.prog X.w X.K X.mg X.base CX k f fd ps sp) (hr:Room k X.A) (hg:Gl X x) (hm:X.mg x=some (.ref f)) (hk:eN X.K (.ref f)=true) (hb:yD X.K fd ps ds) (hd:Vals dvs ds) (hx:qQz CX X E)
  (ha:PA X (e::es) t) (hdb:(x == ("__debug__":Str))=false:=by decide) (he:aU (e::es) X.env=(false,eval e X.env)::aU es X.env:=by rfl) (hpl:(cM pos (aU es X.env)).any (·.1)=false:=by rfl):
  PE X (.Call (.Name x p) (e::es) [] pos) (zVr sp dvs E t):=by
 intro pins s σ H Q I h
 refine eO (vVd I hg hm ?_ hdb)
 refine PySem.W.callWith_K (h₀:=X.base) I.ok.mod.kin hk (thn (ha pos pins s σ H _ I h) fun us s1 ⟨vs,H1,I1,r,q⟩=>⟨I1.kIn,?_⟩) he hpl
 exact zZw F hr hb hd hx I1 r q
structure Mk (K:aQ) (C f:aZ):Prop where
 makes:PySem.W.makesIn K C=true
 init:eJ K (.ref C) "__init__"=some (some (.ref f))
 fn:PySem.W.isFn K (.ref f)=true
 kp:eN K (.ref C)=true
theorem vXl {pins:List (aZ×Obj)} {σ:St} {H:Hp} {s:aJ} {Q:VK} {us:List Value} {vs:List V} (M:Mk X.K C f) (F:FnOk X.prog X.w X.K X.mg X.base CX k f fd ps sp) (hr:Room (k + 1) X.A) (hb:yD X.K fd ps ds) (hd:Vals dvs ds)
  (hx:qQz CX X E) (I:Inv X pins σ H s) (r:Vals vs us)
  (h:∀x dx,H x=none->H dx=none->dx≠x->sp (.ref x::(vs ++ dvs)) (upd (upd H dx (.own x)) x (.ins C dx [])) (fun v H2=>v= .non/\Q (.ref x) H2) E):
  aR (model X.prog X.w) X.A (call (.ref C) us) (EP X pins σ Q) X.xe s:=by
 have hq:=h (s.heap.objs.size + 1) s.heap.objs.size (I.hok.fresh (eA _)) (I.hok.fresh (aG _)) (bZ (Nat.lt_succ_self _))
 have I2:=Inv.made (C:=C) I
 have r2:Vals (V.ref (s.heap.objs.size + 1)::(vs ++ dvs)) (Value.ref (s.heap.objs.size + 1)::(us ++ ds)):= .cons rfl (r.append hd)
 have hl:(Value.ref (s.heap.objs.size + 1)::us ++ ds).length=ps.length:=by
  have e:=r2.length
  rw [F.len _ _ _ _ hq] at e
  exact e.symm
 refine wpAny_call (vX8 (f:=f) I.kIn M.makes M.init (beq_iff_eq.mp M.fn) (codeAny_mono (F.run _ X.stack _ _ ⟨Value.ref (s.heap.objs.size + 1)::us,[]⟩ (Value.ref (s.heap.objs.size + 1)::(us ++ ds)) _ _ E (hr.make C us [])
  (I2.env0.make C us []) (hb _ (Value.ref (s.heap.objs.size + 1)::us) I2.kIn hl) r2 hq) fun r s' hq' =>?_))
 cases r with
 | error e=>exact hx pins σ _ _ e s' I2 hq'
 | ok fl=>
   cases fl with
   | ret u=>
     obtain⟨v,H',I3,rv,ev,q3⟩:=I2.after hq'
     subst ev
     exact⟨rv,⟨V.ref (s.heap.objs.size + 1),H',I3,rfl,q3⟩⟩
   | next=>exact False.elim hq'
   | brk=>exact False.elim hq'
   | cont=>exact False.elim hq'
theorem vK5 (M:Mk X.K C f) (F:FnOk X.prog X.w X.K X.mg X.base CX k f fd ps sp) (hr:Room (k + 1) X.A) (hg:Gl X x) (hm:X.mg x=some (.ref C)) (hb:yD X.K fd ps ds) (hd:Vals dvs ds) (hx:qQz CX X E)
  (ha:PA X (e::es) t) (hdb:(x == ("__debug__":Str))=false:=by decide) (he:aU (e::es) X.env=(false,eval e X.env)::aU es X.env:=by rfl) (hpl:(cM pos (aU es X.env)).any (·.1)=false:=by rfl):
  PE X (.Call (.Name x p) (e::es) [] pos) (zVq C sp dvs E t):=by
 intro pins s σ H Q I h
 refine eO (vVd I hg hm ?_ hdb)
 refine PySem.W.callWith_K (h₀:=X.base) I.ok.mod.kin M.kp (thn (ha pos pins s σ H _ I h) fun us s1 ⟨vs,H1,I1,r,q⟩=>⟨I1.kIn,?_⟩) he hpl
 exact vXl M F hr hb hd hx I1 r q
end
def PK (X:Cx) (kws:List Keyword) (t:TA):Prop:=
 ∀(pos:Pos) (pins:List (aZ×Obj)) (s:aJ) (σ:St) (H:Hp) (Q:List V->Hp->Prop),Inv X pins σ H s->t σ H Q->aR (model X.prog X.w) X.A (evalAll ((backToKw pos (keywordEach kws X.env)).map (·.2))) (AP X pins σ Q) X.xe s
section
variable {X:Cx} {CX:CXT} {k:Nat} {f C:aZ} {fd:bW} {ps ks:List Str} {sp:Sp} {E:XK} {x m:Str} {p pos apos kpos:Pos} {e o:Expr} {es:List Expr} {kws:List Keyword} {te ta:TE} {t tk:TA} {nm:Option Str}
theorem vWe:PK X [] tNil:=fun _ _ _ _ H Q I h=>wpAny_evalAll_nil ⟨[],H,I, .nil,h⟩
theorem qW5 (ha:PE X e te) (hr:PK X kws t):PK X (⟨nm,e,kpos⟩::kws) (qJu te t):=by
 intro pos pins s σ H Q I h
 show aR _ _ (evalAll ((do let v ←eval e X.env;standAt pos;pure v)::(backToKw pos (keywordEach kws X.env)).map (·.2))) _ _ s
 refine wpAny_evalAll_cons (aV (thn (ha pins s σ H _ I h) fun u s1 ⟨x,H1,I1,r1,q1⟩=>aV (wpAny_standAt (aW ?_))))
 exact thn (hr pos pins s1 σ H1 _ I1 q1) fun us s2 ⟨xs,H2,I2,r2,q2⟩=>⟨x::xs,H2,I2, .cons r1 r2,q2⟩
variable {g:List Value->List Value->List Value} {gV:List V->List V->List V}
end
structure FnScope (N P:List Str) (sc:Scope):Prop where
 kind:sc.kind= .function
 co:sc.isCoroutine=false
 gen:sc.isGenerator=false
 nd:N.Nodup
 pre:N.take P.length=P
 par:∀x∈P,sc.names.lookup x=some .local\/sc.names.lookup x=some .cell
 nofree:∀y∈sc.names,y.2≠ .free
theorem qWl {kindOf:Str->Option NameKind} {x:Str}:∀ {binds:List (Str×Value)} {m:Str->Option Value},(∀v,(x,v)∉binds)->bindL kindOf binds m x=m x
 | [],_,_=>rfl
 | (n,v)::r,m,h=>by
   unfold bindL
   rw [qWl fun w hw=>h w (aE _ hw)]
   split
   ·have:x≠n:=by rintro rfl;exact h v aI
    simp [this]
   ·rfl
theorem qWn {kindOf:Str->Option NameKind} {x:Str}:∀ {binds:List (Str×Value)} {m:Str->Option Value},(∀v,(x,v)∉binds)->bindC kindOf binds m x=m x
 | [],_,_=>rfl
 | (n,v)::r,m,h=>by
   unfold bindC
   rw [qWn fun w hw=>h w (aE _ hw)]
   split
   ·rfl
   ·have:x≠n:=by rintro rfl;exact h v aI
    simp [this]
theorem qWm {kindOf:Str->Option NameKind} {x:Str} {v:Value}:∀ {P:List Str} {vs:List Value} {i:Nat} {m:Str->Option Value},P.Nodup->P[i]?=some x->vs[i]?=some v->kindOf x=some .local->
  bindL kindOf (P.zip vs) m x=some v
 | [],_,_,_,_,h,_,_=>by simp at h
 | _::_,[],_,_,_,_,h,_=>by simp at h
 | p::P,w::vs,0,m,nd,h1,h2,hk=>by
   simp at h1 h2;subst h1;subst h2
   show bindL kindOf ((p,w)::P.zip vs) m p=_
   unfold bindL
   rw [qWl fun v hv=>(bO.mp nd).1 (List.of_mem_zip hv).1,if_pos hk]
   simp
 | p::P,w::vs,i + 1,m,nd,h1,h2,hk=>by
   show bindL kindOf ((p,w)::P.zip vs) m x=_
   unfold bindL
   exact qWm (i:=i) (bO.mp nd).2 (by simpa using h1) (by simpa using h2) hk
theorem qWo {kindOf:Str->Option NameKind} {x:Str} {v:Value}:∀ {P:List Str} {vs:List Value} {i:Nat} {m:Str->Option Value},P.Nodup->P[i]?=some x->vs[i]?=some v->kindOf x≠some .local->
  bindC kindOf (P.zip vs) m x=some v
 | [],_,_,_,_,h,_,_=>by simp at h
 | _::_,[],_,_,_,_,h,_=>by simp at h
 | p::P,w::vs,0,m,nd,h1,h2,hk=>by
   simp at h1 h2;subst h1;subst h2
   show bindC kindOf ((p,w)::P.zip vs) m p=_
   unfold bindC
   rw [qWn fun v hv=>(bO.mp nd).1 (List.of_mem_zip hv).1,if_neg hk]
   simp
 | p::P,w::vs,i + 1,m,nd,h1,h2,hk=>by
   show bindC kindOf ((p,w)::P.zip vs) m x=_
   unfold bindC
   exact qWo (i:=i) (bO.mp nd).2 (by simpa using h1) (by simpa using h2) hk
def yK (N:List Str) (vs:List V):St:=vs.map some ++ List.replicate (N.length - vs.length) none
def cxOf (CX:CXT) (P:aH) (w:bJ) (K:aQ) (mg:Str->Option Value) (base:Heap) (N:List Str) (qual:Str) (scope:Scope) (f:aZ) (cd:Value) (A:bF) (outer:List Env) (s:aJ) (H:Hp) (E:XK):Cx where
 prog:=P
 w:=w
 K:=K
 mg:=mg
 base:=base
 A:=A.deeper (envOfC qual scope s.heap.objs.size f cd)
 N:=N
 s₀:=s
 H₀:=H
 env:=envOfC qual scope s.heap.objs.size f cd
 outer:=outer
 stack:=envOfC qual scope s.heap.objs.size f cd::outer
 ex:=[]
 calm:=true
 fn:=fun _=>true
 pn:=[]
 xe:=fun e s' =>aR (model P w) (A.deeper (envOfC qual scope s.heap.objs.size f cd)) (leaving (envOfC qual scope s.heap.objs.size f cd) e) (fun _ s'' =>CX outer H s E e s'') (fun e' s'' =>CX outer H s E e' s'') s'
theorem cell_has {sc:Scope} {n:Nat} {x:Str} (h:sc.names.lookup x=some .cell):∃c,(cellsFrom n sc.names []).lookup x=some c:=by
 have q:=PySem.W.cellsFrom_some sc.names n [] (.inl h)
 exact Option.isSome_iff_exists.mp q
theorem vZz {CX:CXT} {P:aH} {w:bJ} {K:aQ} {mg:Str->Option Value} {base:Heap} {N ps:List Str} {qual:Str} {scope:Scope} {f:aZ} {cd:Value} {A:bF} {outer:List Env} {s s1:aJ} {H:Hp} {E:XK} {us:List Value} {vs:List V}
  (S:FnScope N ps scope) (hd:A.handled=none) (e0:Env0 P w K mg base A outer s H) (hl:vs.length=ps.length) (r:Vals vs us)
  (x:InCallC s s.heap.objs.size (bindL (envOfC qual scope s.heap.objs.size f cd).kindOf (ps.zip us) fun _=>none) (cellsFrom (s.heap.objs.size + 1) scope.names []) (bindC (envOfC qual scope s.heap.objs.size f cd).kindOf (ps.zip us) fun _=>none) s1):
  Inv (cxOf CX P w K mg base N qual scope f cd A outer s H E) [] (yK N vs) H s1:=by
 have hpl:ps.length<=N.length:=by have:=congrArg List.length S.pre;rw [dX] at this;omega
 obtain⟨h1,tk,rfl,hk⟩:=x.done
 have noA:∀b:aZ,b∉(cxOf CX P w K mg base N qual scope f cd A outer s H E).ex:=fun b z=>absurd (show b∈([]:List aZ) from z) (by simp)
 refine⟨⟨e0.mod,S.kind,rfl,rfl,aG _,fun y z c h1 h2=>?_,fun y hy=>?_,fun y c _ h=>?_,fun _=>hd,Around.frames_deeper e0.frames, .inr ⟨rfl,rfl⟩,fun b z=>absurd z (noA b),e0.bs,e0.bsz,fun b _ _=>noA b,fun b z=>absurd z (noA b),e0.funs,e0.frf⟩,
  rfl,e0.bare,Un.kept hk,⟨_,x.toInCall.ns,fun i y v h1 h2 h3=>?_⟩,fun y c h=>⟨_,x.cell y c h⟩,e0.hok.fresh (aG _),fun y c h=>?_,fun p hp=>absurd (show p∈([]:List (aZ×Obj)) from hp) (by simp),e0.hok.kept hk,?_⟩
 ·exact name_of_addr x.apart (cV h1) (cV h2)
 ·have hy:scope.names.lookup y=some .cell\/scope.names.lookup y=some .free:=hy
  rcases hy with hy | hy
  ·exact cell_has hy
  ·exact absurd rfl (S.nofree _ (cV hy))
 ·exact dL (x.above y c (cV h))
 ·have hi:i < vs.length:=by
   unfold yK at h2
   by_cases hi:i < vs.length
   ·exact hi
   ·rw [cQ (by simpa using hi)] at h2
    rw [List.getElem?_replicate] at h2
    split at h2 <;> cases h2
  have ha:vs[i]?=some v:=by
   unfold yK at h2
   rw [bS (by simpa using hi),bP] at h2
   cases e:vs[i]? with
   | none=>rw [e] at h2;cases h2
   | some a=>rw [e] at h2;cases h2;rfl
  obtain⟨u,hu,rv⟩:=r.get ha
  have hp:ps[i]?=some y:=by
   rw [←S.pre,List.getElem?_take_of_lt (by omega)];exact h1
  have ndP:ps.Nodup:=by rw [←S.pre];exact S.nd.sublist (List.take_sublist _ _)
  refine⟨u,rv,?_⟩
  rcases S.par y (dP hp) with k | k
  ·exact .inl ⟨k,qWm ndP hp hu k⟩
  ·obtain⟨c,e⟩:=cell_has (n:=s.heap.objs.size + 1) k
   refine .inr ⟨.inl k,c,e,?_⟩
   have q:=x.cell y c e
   rw [qWo ndP hp hu (by show scope.names.lookup y≠_;rw [k];decide)] at q
   exact q
 ·exact e0.hok.fresh (dL (x.above y c (cV h)))
 ·unfold yK
  show _=N.length
  rw [aP,aY,List.length_replicate]
  omega
theorem zZf {CX:CXT} {P:aH} {w:bJ} {K:aQ} {mg:Str->Option Value} {base:Heap} {k:Nat} {f:aZ} {name qual:Str} {params:Arguments} {body:List Stmt} {scope:Scope} {dV kV doc pm cdv ct oc:Value} {an od:Option aZ}
  {osl:Array (Option Value)} {N ps:List Str} {sp:Sp} (lk:K.lookup f=some ⟨oc,od, .func (cS name qual params body scope dV kV doc pm an cdv ct),osl⟩) (hcd:PySem.W.codeIn K cdv qual=true) (S:FnScope N ps scope)
  (len:∀vs H Q E,sp vs H Q E->vs.length=ps.length)
  (hbody:∀(A:bF) (outer:List Env) (s:aJ) (H:Hp) (vs:List V) (Q:VK) (E:XK),Room k (A.deeper (envOfC qual scope s.heap.objs.size f cdv))->sp vs H Q E->
   ∃t,PSs (cxOf CX P w K mg base N qual scope f cdv A outer s H E) body t/\t {nx:=fun _ H' =>Q .non H',rt:=Q} (yK N vs) H):
  FnOk P w K mg base CX (k + 1) f (cS name qual params body scope dV kV doc pm an cdv ct) ps sp:=by
 refine⟨len,fun A outer s H args us vs Q E hr e0 hb r hsp=>?_⟩
 have hl:=len _ _ _ _ hsp
 have KX:K.In s.heap:=e0.mod.kin.keeps fun b o e=>(e0.bs b o e).1
 have lim:s.heap.NoLimit:=e0.mod.nolimit.keeps fun b o e=>(e0.bs b o e).1
 have hkind:∀y∈ps.zip us,scope.names.lookup y.1=some .local\/(scope.names.lookup y.1=some .cell/\((cellsFrom (s.heap.objs.size + 1) scope.names []).lookup y.1).isSome=true):=fun⟨n,v⟩ hy=>by
  rcases S.par n (List.of_mem_zip hy).1 with q | q
  ·exact .inl q
  ·exact .inr ⟨q,PySem.W.cellsFrom_some _ _ _ (.inl q)⟩
 refine codeAny_call_function hr.depth (KX _ _ lk) rfl S.co S.gen rfl (PySem.W.codeRec_of KX hcd) (hb _ _ _ _ ?_)
 refine wpAny_newFunctionEnv_cells S.kind hkind fun env he s1 x=>?_
 subst he
 refine⟨lim.keeps x.toInCall.keep,codeAny_func ?_⟩
 obtain⟨t,ht,hq⟩:=hbody A outer s H vs Q E (hr.deeper _) hsp
 have I:Inv (cxOf CX P w K mg base N qual scope f cdv A outer s H E) [] (yK N vs) H s1:=vZz S hr.hd e0 hl r x
 refine dB (ht [] s1 (yK N vs) H _ I hq) (fun fl s' hs=>?_) fun e s' hs=>hs
 have fin:∀ {σ' :St} {H' :Hp} {v:V} {u:Value},Inv (cxOf CX P w K mg base N qual scope f cdv A outer s H E) [] σ' H' s' ->RelV v u->Q v H' ->CE outer P w H s Q u s' :=
  fun {σ' H' v u} J rv q=>⟨v,H',J.os,J.bare,J.base,J.hok,rv,q⟩
 cases fl with
 | ret u=>
   obtain⟨v,σ',H',J,rv,q⟩:=hs
   exact fin J rv q
 | next=>
   obtain⟨σ',H',J,q⟩:=hs
   exact fin (v:=V.non) (u:=Value.none) J rfl q
 | brk=>
   obtain⟨_,_,_,q⟩:=hs
   exact False.elim q
 | cont=>
   obtain⟨_,_,_,q⟩:=hs
   exact False.elim q
section
variable {X:Cx} {x:Str} {p pos:Pos} {e:Expr} {es:List Expr} {t:TA} {id T:String} {r:List V->Hp->VK->Prop}
def tCB (r:List V->Hp->VK->Prop) (t:TA):TE:=fun σ H Q=>t σ H fun vs H1=>r vs H1 Q
theorem yR (hc:zZ X (.builtin id) r) (hg:Gl X x) (hm:X.mg x=none) (hv:cO x=some (.builtin id)) (ha:PA X (e::es) t) (hn:x≠"__name__":=by decide) (hdb:(x == ("__debug__":Str))=false:=by decide)
  (he:aU (e::es) X.env=(false,eval e X.env)::aU es X.env:=by rfl) (hpl:(cM pos (aU es X.env)).any (·.1)=false:=by rfl):PE X (.Call (.Name x p) (e::es) [] pos) (tCB r t):=by
 intro pins s σ H Q I h
 refine eO (yG I hg hm hv ?_ hn hdb)
 exact PyProof.Rows.callWith_builtin1 (thn (ha pos pins s σ H _ I h) fun us s1 ⟨vs,H1,I1,r1,q1⟩=>hc pins s1 σ H1 vs us Q I1 r1 q1) he hpl
theorem qJ8 (hc:zZ X (.type T) r) (hg:Gl X x) (hm:X.mg x=none) (hv:cO x=some (.type T)) (ha:PA X (e::es) t) (hn:x≠"__name__":=by decide) (hdb:(x == ("__debug__":Str))=false:=by decide)
  (he:aU (e::es) X.env=(false,eval e X.env)::aU es X.env:=by rfl) (hpl:(cM pos (aU es X.env)).any (·.1)=false:=by rfl):PE X (.Call (.Name x p) (e::es) [] pos) (tCB r t):=by
 intro pins s σ H Q I h
 refine eO (yG I hg hm hv ?_ hn hdb)
 exact eK (thn (ha pos pins s σ H _ I h) fun us s1 ⟨vs,H1,I1,r1,q1⟩=>hc pins s1 σ H1 vs us Q I1 r1 q1) he hpl
end
end L2
namespace HT
open PySem PyProof.Rows
section
variable {prog:aH} {w:bJ} {A:bF} {E:Value->aJ->Prop} {s:aJ}
def sIx (n d:Nat):Option Int->Nat
 | none=>d
 | some v=>if v < 0 then(v + (n:Int)).toNat else min v.toNat n
theorem vKe (n d k:Nat):sIx n d (some (k:Int))=min k n:=by
 show(if(k:Int) < 0 then((k:Int) + (n:Int)).toNat else min (k:Int).toNat n)=min k n
 rw [if_neg (by omega),Int.toNat_natCast]
end
end HT
namespace L2
open PySem PySem.Spec PyProof.Rows
abbrev TO:=St->Hp->(Option Int->Hp->Prop)->Prop
def PO (X:Cx) (e:Option Expr) (t:TO):Prop:=
 ∀(pins:List (aZ×Obj)) (s:aJ) (σ:St) (H:Hp) (Q:Option Int->Hp->Prop),Inv X pins σ H s->t σ H Q->
  aR (model X.prog X.w) X.A (evalPart e X.env) (fun u s' =>∃o H',Inv X pins σ H' s' /\IsPart u o/\Q o H') X.xe s
def tNoPart:TO:=fun _ H Q=>Q none H
def zW4 (t:TE):TO:=fun σ H Q=>t σ H fun x H1=>∃i,x= .int i/\Q (some i) H1
theorem yQ {ns:List Int}:∀ {us:List Value},Vals (ns.map V.int) us->IntsAre us ns:=by
 induction ns with
 | nil=>intro us r;rw [List.map_nil] at r;cases r;exact .nil
 | cons n ns ih=>
   intro us r
   rw [aC] at r
   cases r with
   | cons r1 r2=>
     obtain⟨t,e⟩:=r1
     subst e
     exact .cons n t (ih r2)
section
variable {X:Cx} {e:Expr} {te:TE} {lo hi:Option Expr} {tl th:TO} {pos p2:Pos}
theorem vKz:PO X none tNoPart:=by
 intro pins s σ H Q I h
 rw [evalPart_none]
 exact aW ⟨none,H,I, .none,h⟩
theorem vKy (h:PE X e te):PO X (some e) (zW4 te):=by
 intro pins s σ H Q I hw
 rw [evalPart_some]
 refine thn (h pins s σ H _ I hw) fun u s1 ⟨x,H1,I1,r1,q1⟩=>?_
 obtain⟨i,rfl,q⟩:=q1
 obtain⟨t,rfl⟩:=r1
 exact⟨some i,H1,I1, .int i t,q⟩
def SlR (X:Cx) (r:V->Option Int->Option Int->Hp->VK->Prop):Prop:=
 ∀(pins:List (aZ×Obj)) (s:aJ) (σ:St) (H:Hp) (x:V) (v vl vu:Value) (lo hi:Option Int) (sl:aZ) (Q:VK),Inv X pins σ H s->RelV x v->s.heap.IsSliceOf sl vl vu .none->IsPart vl lo->IsPart vu hi->r x lo hi H Q->
  ∃T id,typeLookup (.type T) "__getitem__"=pure (some (.builtin id))/\s.TypeIs v T/\aR (model X.prog X.w) X.A (getItem v (.ref sl)) (EP X pins σ Q) X.xe s
def tSl (r:V->Option Int->Option Int->Hp->VK->Prop) (te:TE) (tl th:TO):TE:=fun σ H Q=>te σ H fun x H1=>tl σ H1 fun l H2=>th σ H2 fun u H3=>r x l u H3 Q
theorem vXy {r:V->Option Int->Option Int->Hp->VK->Prop} (hr:SlR X r) (he:PE X e te) (hl:PO X lo tl) (hu:PO X hi th):PE X (.Subscript e (.Slice lo hi none p2) pos) (tSl r te tl th):=by
 intro pins s σ H Q I h
 refine Subscript_ (thn (he pins s σ H _ I h) fun v s1 ⟨x,H1,I1,r1,q1⟩=>?_)
 refine wpAny_Slice (thn (hl pins s1 σ H1 _ I1 q1) fun vl s2 ⟨l,H2,I2,pl,q2⟩=>thn (hu pins s2 σ H2 _ I2 q2) fun vu s3 ⟨u,H3,I3,pu,q3⟩=>?_)
 rw [evalPart_none]
 refine aW ?_
 have I4:Inv X pins σ H3 {s3 with heap:=s3.heap.push {cls:= .type "slice",data:= .fields #[vl,vu, .none]}}:=I3.kept (t' :=s3.toks) fun b ob q=>aX _ q
 obtain⟨T,id,hT,ht,hg⟩:=hr pins {s3 with heap:=s3.heap.push {cls:= .type "slice",data:= .fields #[vl,vu, .none]}} σ H3 x v vl vu l u s3.heap.objs.size Q I4 r1 (Heap.IsSliceOf.new ..) pl pu q3
 show aR (model X.prog X.w) X.A (subscriptTail e (.Slice lo hi none p2) v (.ref s3.heap.objs.size)) (EP X pins σ Q) X.xe {s3 with heap:=s3.heap.push {cls:= .type "slice",data:= .fields #[vl,vu, .none]}}
 exact tail_any (ops:=[.ref s3.heap.objs.size,v]) ht hT hg (by with_unfolding_all rfl)
def cutV (xs:List V) (lo hi:Option Int):List V:=(xs.drop (HT.sIx xs.length 0 lo)).take (HT.sIx xs.length xs.length hi - HT.sIx xs.length 0 lo)
theorem qKa (xs:List V) (lo hi:Option Int):(cutV xs lo hi).length<=xs.length:=by
 unfold cutV
 rw [dX,List.length_drop]
 omega
end
def ixN (n:Nat) (i:Int):Option Nat:=if 0<=i then(if i < n then some i.toNat else none) else if -(n:Int)<=i then some (i + n).toNat else none
def atI {α:Type} (xs:List α) (i:Int):Option α:=(ixN xs.length i).bind fun j=>xs[j]?
theorem zQs {n:Nat} {i:Int} {j:Nat} (h:ixN n i=some j):seqIndex? i n=some j/\j < n/\ -(n:Int)<=i/\i < n:=by
 unfold ixN at h
 by_cases h0:0<=i
 ·rw [if_pos h0] at h
  by_cases h1:i < n
  ·rw [if_pos h1] at h
   have e:i.toNat=j:=Option.some.inj h
   exact⟨by rw [seqIndex_of h0 h1,e],by omega,by omega,h1⟩
  ·rw [if_neg h1] at h;cases h
 ·rw [if_neg h0] at h
  by_cases h1: -(n:Int)<=i
  ·rw [if_pos h1] at h
   have e:(i + n).toNat=j:=Option.some.inj h
   exact⟨by rw [seqIndex_neg (by omega) h1,e],by omega,h1,by omega⟩
  ·rw [if_neg h1] at h;cases h
theorem qXh {α:Type} {xs:List α} {i:Int} {v:α} (h:atI xs i=some v):∃j,seqIndex? i xs.length=some j/\xs[j]?=some v/\j < xs.length/\ -(xs.length:Int)<=i/\i < xs.length:=by
 unfold atI at h
 cases e:ixN xs.length i with
 | none=>rw [e] at h;cases h
 | some j=>
   rw [e] at h
   obtain⟨h1,h2,h3,h4⟩:=zQs e
   exact⟨j,h1,h,h2,h3,h4⟩
def qXj (b:Expr):Prop:=∀o i,subscripted b false o i=operate [o,i] (getItem o i)
def IxR (X:Cx) (r:R2):Prop:=
 ∀(value slice:Expr) (pins:List (aZ×Obj)) (s:aJ) (σ:St) (H:Hp) (x y:V) (v u:Value) (Q:VK),Inv X pins σ H s->RelV x v->RelV y u->r x y H Q->
  subscripted slice false v u=operate [v,u] (getItem v u)->aR (model X.prog X.w) X.A (subscriptTail value slice v u) (EP X pins σ Q) X.xe s
def MtR (X:Cx) (id:String) (r:V->List V->Hp->VK->Prop):Prop:=
 ∀(pins:List (aZ×Obj)) (s:aJ) (σ:St) (H:Hp) (x:V) (xs:List V) (v:Value) (us:List Value) (Q:VK),Inv X pins σ H s->RelV x v->Vals xs us->r x xs H Q->
  aR (model X.prog X.w) X.A (call (.builtin id) (v::us)) (EP X pins σ Q) X.xe s
section
variable {X:Cx} {a b:Expr} {ta tb:TE} {pos:Pos}
theorem IxR.or {r r' :R2} (h:IxR X r) (h' :IxR X r'):IxR X (fun x y H Q=>r x y H Q\/r' x y H Q):=by
 intro value slice pins s σ H x y v u Q I rx ry q hs
 rcases q with q | q
 ·exact h value slice pins s σ H x y v u Q I rx ry q hs
 ·exact h' value slice pins s σ H x y v u Q I rx ry q hs
theorem zV2 {r:R2} (hr:IxR X r) (ha:PE X a ta) (hb:PE X b tb) (hs:qXj b):PE X (.Subscript a b pos) (tOp r ta tb):=by
 intro pins s σ H Q I h
 exact Subscript_ (binT ha hb I h fun v u s2 x y H2 I2 rx ry q=>hr a b pins s2 σ H2 x y v u Q I2 rx ry q (hs _ _))
def rIxL (K:aQ):R2:=fun x y H Q=>∃p xs i v,x= .ref p/\y= .int i/\SqL K H p xs/\atI xs i=some v/\Q v H
def rIxT (K:aQ):R2:=fun x y H Q=>∃p xs i v,x= .ref p/\y= .int i/\SqT K H p xs/\atI xs i=some v/\Q v H
def rIxS:R2:=fun x y H Q=>∃z i c,x= .str z/\y= .int i/\z.length<=bX/\atI z.cps.toList i=some c/\Q (.str ⟨#[c]⟩) H
theorem zQr:IxR X (rIxL X.K):=by
 intro value slice pins s σ H x y v u Q I rx ry h hs
 obtain⟨p,xs,i,z,rfl,rfl,hq,he,q⟩:=h
 cases rx
 obtain⟨t,rfl⟩:=ry
 obtain⟨its,r,pl,hz⟩:=I.list hq
 obtain⟨j,h1,h2,h3,h4,h5⟩:=qXh he
 obtain⟨w,ew,rw'⟩:=r.get h2
 have hl:=r.length
 have hn:=qZu
 have fin:EP X pins σ Q w s:=⟨z,H,I,rw',q⟩
 by_cases h0:0<=i
 ·have hj:i.toNat=j:=by
   rw [seqIndex_of h0 h5] at h1
   exact Option.some.inj h1
  exact item_listR pl.isList h0 (by omega) (by rw [hj];simpa using ew) fin hs
 ·have hj:(i + (its.toArray.size:Int)).toNat=j:=by
   rw [seqIndex_neg (by omega) h4] at h1
   rw [bQ,←hl]
   exact Option.some.inj h1
  exact subscriptTail_builtinR (x:=w) pl.isList.typeIs slot_list_getitem.lookup
   (wpAny_getItem_list_neg (Q:=fun r s' =>r=w/\EP X pins σ Q r s') pl.isList (by omega) (by rw [bQ] <;> omega) (by omega) (by rw [hj];simpa using ew) ⟨rfl,fin⟩) hs
theorem zWg:IxR X (rIxT X.K):=by
 intro value slice pins s σ H x y v u Q I rx ry h hs
 obtain⟨p,xs,i,z,rfl,rfl,hq,he,q⟩:=h
 cases rx
 obtain⟨t,rfl⟩:=ry
 obtain⟨its,r,pl,hz⟩:=I.tuple hq
 obtain⟨j,h1,h2,h3,h4,h5⟩:=qXh he
 obtain⟨w,ew,rw'⟩:=r.get h2
 have hl:=r.length
 have hn:=qZu
 have fin:EP X pins σ Q w s:=⟨z,H,I,rw',q⟩
 exact subscriptTail_builtinR (x:=w) pl.typeIs slot_tuple_getitem.lookup
  (getItem_tuple (j:=j) (Q:=fun r s' =>r=w/\EP X pins σ Q r s') pl (by omega) (by omega) (by rw [bQ,←hl];exact h1) (by simpa using ew) ⟨rfl,fin⟩) hs
theorem zWh:IxR X rIxS:=by
 intro value slice pins s σ H x y v u Q I rx ry h hs
 obtain⟨z,i,c,rfl,rfl,hz,he,q⟩:=h
 obtain⟨t,rfl⟩:=rx
 obtain⟨t',rfl⟩:=ry
 obtain⟨j,h1,h2,h3,h4,h5⟩:=qXh he
 have hl:z.cps.toList.length=z.length:=by simp [Str.length]
 rw [hl] at h1 h4 h5
 have hn:=qZu
 exact tail_any (typeIs_str s z t) slot_str_getitem.lookup (getItem_str (c:=c) (by
  have e1:decide (i < -(2 ^ 63:Int))=false:=decide_eq_false (by omega)
  have e2:decide (i≥2 ^ 63)=false:=decide_eq_false (by omega)
  rw [e1,e2,Bool.or_false]) (by rw [h1];simpa using h2) ⟨.str ⟨#[c]⟩,H,I.tok _,⟨_,rfl⟩,q⟩) hs
def rIx (K:aQ):R2:=fun x y H Q=>rIxL K x y H Q\/rIxT K x y H Q\/rIxS x y H Q
theorem zWi:IxR X (rIx X.K):=zQr.or (zWg.or zWh)
theorem qXo (lo hi:Option Int) (n:Nat):(sliceBounds lo hi none n).1=((HT.sIx n 0 lo:Nat):Int)/\(sliceBounds lo hi none n).2.1=((HT.sIx n n hi:Nat):Int)/\(sliceBounds lo hi none n).2.2=1:=by
 refine⟨?_,?_,rfl⟩
 ·cases lo with
  | none=>simp [sliceBounds,HT.sIx]
  | some i=>
    simp only [sliceBounds,HT.sIx,Option.getD_none,show(1:Int) > 0 by decide,if_true]
    by_cases h:i < 0
    ·simp only [h,if_true] <;> omega
    ·simp only [h,if_false] <;> omega
 ·cases hi with
  | none=>simp [sliceBounds,HT.sIx]
  | some i=>
    simp only [sliceBounds,HT.sIx,Option.getD_none,show(1:Int) > 0 by decide,if_true]
    by_cases h:i < 0
    ·simp only [h,if_true] <;> omega
    ·simp only [h,if_false] <;> omega
theorem qJo (its:List Value) (lo hi:Option Int):slicePick its.toArray lo hi none=((its.drop (HT.sIx its.length 0 lo)).take (HT.sIx its.length its.length hi - HT.sIx its.length 0 lo)).toArray:=by
 obtain⟨h1,h2,h3⟩:=qXo lo hi its.toArray.size
 unfold slicePick
 rw [h1,h2,h3]
 simp only [sliceRange_one,pick_run,bQ] <;> rfl
def rSlL (K:aQ):V->Option Int->Option Int->Hp->VK->Prop:=fun x lo hi H Q=>∃a xs,x= .ref a/\SqL K H a xs/\∀p,H p=none->Q (.ref p) (upd H p (.lst (cutV xs lo hi)))
theorem vKa:SlR X (rSlL X.K):=by
 intro pins s σ H x v vl vu lo hi sl Q I rx hs pl pu h
 obtain⟨a,xs,rfl,hx,q⟩:=h
 cases rx
 obtain⟨its,r,ht,hz⟩:=I.list hx
 have hlen:=r.length
 refine⟨"list",_,slot_list_getitem.lookup,ht.isList.typeIs,?_⟩
 refine wpAny_getItem_list_slice ht.isList hs pl pu .none (by simp) ?_ (by rw [bQ] <;> omega)
 rw [qJo,←hlen]
 refine⟨.ref s.heap.objs.size,_,I.laid (t' :=s.toks) (o:= .lst (cutV xs lo hi)) (fun b ob q=>aX _ q) (aG _) ?_,rfl,q _ (I.hok.fresh (aG _))⟩
 exact⟨bT (qKa xs lo hi) hz,_,0,(r.drop (HT.sIx xs.length 0 lo)).take (HT.sIx xs.length xs.length hi - HT.sIx xs.length 0 lo),aL _ rfl⟩
def qQo:V->Bool
 | .non=>true
 | .bl _=>true
 | .int _=>true
 | .str _=>true
 | _=>false
def eqV:V->V->Bool
 | .non, .non=>true
 | .bl a, .bl b=>a == b
 | .bl a, .int b=>(if a then 1 else 0) == b
 | .int a, .bl b=>a == (if b then 1 else 0)
 | .int a, .int b=>a == b
 | .str a, .str b=>a == b
 | _,_=>false
theorem zWu {A:bF} {s:aJ} {y x:V} {u v:Value} (ry:RelV y u) (rx:RelV x v) (fy:qQo y=true) (fx:qQo x=true):fV A s u v (eqV y x):=by
 cases y with
 | non=>
   cases ry
   cases x with
   | non=>cases rx;exact SeqAt.EqAt.same _
   | bl b=>cases rx;exact SeqAt.EqAt.none_bool b
   | int b=>obtain⟨t,rfl⟩:=rx;exact SeqAt.EqAt.none_int b t
   | str b=>obtain⟨t,rfl⟩:=rx;exact SeqAt.EqAt.none_str b t
   | _=>exact absurd (show false=true from fx) aA
 | bl a=>
   cases ry
   cases x with
   | non=>cases rx;exact SeqAt.EqAt.bool_none a
   | bl b=>cases rx;exact SeqAt.EqAt.bool_bool a b
   | int b=>obtain⟨t,rfl⟩:=rx;exact SeqAt.EqAt.bool_int a b t
   | str b=>obtain⟨t,rfl⟩:=rx;exact SeqAt.EqAt.bool_str a b t
   | _=>exact absurd (show false=true from fx) aA
 | int a=>
   obtain⟨t',rfl⟩:=ry
   cases x with
   | non=>cases rx;exact SeqAt.EqAt.int_none a t'
   | bl b=>cases rx;exact SeqAt.EqAt.int_bool a t' b
   | int b=>obtain⟨t,rfl⟩:=rx;exact SeqAt.EqAt.int_int a t' b t
   | str b=>obtain⟨t,rfl⟩:=rx;exact SeqAt.EqAt.int_str a t' b t
   | _=>exact absurd (show false=true from fx) aA
 | str a=>
   obtain⟨t',rfl⟩:=ry
   cases x with
   | non=>cases rx;exact SeqAt.EqAt.str_none a t'
   | bl b=>cases rx;exact SeqAt.EqAt.str_bool a t' b
   | int b=>obtain⟨t,rfl⟩:=rx;exact SeqAt.EqAt.str_int a t' b t
   | str b=>obtain⟨t,rfl⟩:=rx;exact SeqAt.EqAt.str_str a t' b t
   | _=>exact absurd (show false=true from fx) aA
 | _=>exact absurd (show false=true from fy) aA
def eqU (x:V) (u:Value):Bool:=match u with
 | .none=>eqV .non x
 | .bool b=>eqV (.bl b) x
 | .int i _=>eqV (.int i) x
 | .str z _=>eqV (.str z) x
 | _=>false
theorem vWw {x y:V} {u:Value} (r:RelV y u) (f:qQo y=true):eqU x u=eqV y x:=by
 cases y with
 | non=>cases r;rfl
 | bl b=>cases r;rfl
 | int i=>obtain⟨t,rfl⟩:=r;rfl
 | str z=>obtain⟨t,rfl⟩:=r;rfl
 | _=>exact absurd (show false=true from f) aA
theorem qQ7 {x:V}:∀ {xs:List V} {us:List Value},Vals xs us->xs.all qQo=true->us.any (eqU x)=xs.any fun y=>eqV y x
 | _,_, .nil,_=>rfl
 | y::xs,u::us, .cons r t,f=>by
   rw [List.all_cons,bD] at f
   rw [List.any_cons,List.any_cons,vWw r f.1,qQ7 t f.2]
theorem yT {A:bF} {s:aJ} {x:V} {v:Value} (rx:RelV x v) (fx:qQo x=true):∀ {xs:List V} {us:List Value},Vals xs us->xs.all qQo=true->∀u∈us,fV A s u v (eqU x u)
 | _,_, .nil,_=>fun u hu=>by cases hu
 | y::xs,u::us, .cons r t,f=>fun u' hu=>by
   rw [List.all_cons,bD] at f
   rcases aB.mp hu with rfl | hu
   ·rw [vWw r f.1];exact zWu r rx f.1 fx
   ·exact yT rx fx t f.2 u' hu
def inV (x:V) (xs:List V):Bool:=xs.any fun y=>eqV y x
def rIn (K:aQ) (neg:Bool):R2:=fun x y H Q=>∃p xs,y= .ref p/\(SqL K H p xs\/SqT K H p xs)/\qQo x=true/\xs.all qQo=true/\Q (.bl (if neg then !inV x xs else inV x xs)) H
theorem vZi:OpR X (bM .In) (rIn X.K false):=by
 intro pins s σ H x y v u Q I rx ry h
 obtain⟨p,xs,rfl,hq,fx,fs,q⟩:=h
 cases ry
 rcases hq with hq | hq
 ·obtain⟨its,r,pl,hz⟩:=I.list hq
  refine SeqAt.in_listAt (eqU x) pl.isList (fun w hw=>yT rx fx r fs w (by simpa using hw)) ⟨.bl _,H,I,rfl,?_⟩
  rw [show its.toArray.any (eqU x)=its.any (eqU x) by simp,qQ7 r fs]
  exact q
 ·obtain⟨its,r,pl,hz⟩:=I.tuple hq
  refine SeqAt.in_tupleAt (eqU x) pl (fun w hw=>yT rx fx r fs w (by simpa using hw)) ⟨.bl _,H,I,rfl,?_⟩
  rw [show its.toArray.any (eqU x)=its.any (eqU x) by simp,qQ7 r fs]
  exact q
theorem qXr:OpR X (bM .NotIn) (rIn X.K true):=by
 intro pins s σ H x y v u Q I rx ry h
 obtain⟨p,xs,rfl,hq,fx,fs,q⟩:=h
 cases ry
 rcases hq with hq | hq
 ·obtain⟨its,r,pl,hz⟩:=I.list hq
  refine SeqAt.notIn_listAt (eqU x) pl.isList (fun w hw=>yT rx fx r fs w (by simpa using hw)) ⟨.bl _,H,I,rfl,?_⟩
  rw [show its.toArray.any (eqU x)=its.any (eqU x) by simp,qQ7 r fs]
  exact q
 ·obtain⟨its,r,pl,hz⟩:=I.tuple hq
  refine SeqAt.notIn_tupleAt (eqU x) pl (fun w hw=>yT rx fx r fs w (by simpa using hw)) ⟨.bl _,H,I,rfl,?_⟩
  rw [show its.toArray.any (eqU x)=its.any (eqU x) by simp,qQ7 r fs]
  exact q
theorem qX1:zZ X (.builtin "len") (fun xs H Q=>∃p ys,xs=[.ref p]/\(SqL X.K H p ys\/SqT X.K H p ys)/\Q (.int ys.length) H):=by
 intro pins s σ H xs us Q I r h
 obtain⟨p,ys,rfl,hq,q⟩:=h
 obtain⟨u,rfl,rx⟩:=jI r
 cases rx
 have hn:=qZu
 rcases hq with hq | hq
 ·obtain⟨its,r',pl,hz⟩:=I.list hq
  have hlen:=r'.length
  exact Calls.call_len_list pl.isList (by simp only [bQ] <;> omega) ⟨.int ys.length,H,I.tok _,⟨s.toks + 1,by rw [bQ,hlen]⟩,q⟩
 ·obtain⟨its,r',pl,hz⟩:=I.tuple hq
  have hlen:=r'.length
  exact len_tuple pl (by simp only [bQ] <;> omega) ⟨.int ys.length,H,I.tok _,⟨s.toks + 1,by rw [bQ,hlen]⟩,q⟩
theorem qX0:zZ X (.builtin "len") (fun xs H Q=>∃z,xs=[.str z]/\z.length<=bX/\Q (.int z.length) H):=by
 intro pins s σ H xs us Q I r h
 obtain⟨z,rfl,hz,q⟩:=h
 obtain⟨u,rfl,t,rfl⟩:=jI r
 have hn:=qZu
 exact len_str (by omega) ⟨.int z.length,H,I.tok _,⟨_,rfl⟩,q⟩
theorem zZ.or {f:Value} {r r' :List V->Hp->VK->Prop} (h:zZ X f r) (h' :zZ X f r'):zZ X f (fun xs H Q=>r xs H Q\/r' xs H Q):=by
 intro pins s σ H xs us Q I rs q
 rcases q with q | q
 ·exact h pins s σ H xs us Q I rs q
 ·exact h' pins s σ H xs us Q I rs q
theorem qXz:zZ X (.type "list") (fun xs H Q=>∃p ys,xs=[.ref p]/\(SqL X.K H p ys\/SqT X.K H p ys)/\∀l,H l=none->Q (.ref l) (upd H l (.lst ys))):=by
 intro pins s σ H xs us Q I r h
 obtain⟨p,ys,rfl,hq,q⟩:=h
 obtain⟨u,rfl,rx⟩:=jI r
 cases rx
 have fin:∀(its:List Value),Vals ys its->ys.length<=bX->∀(h' :Heap) (c' :Nat),(∀b o',s.heap.get? b=some o' ->h'.get? b=some o')->
   h'.get? s.heap.objs.size=some {cls:= .type "list",dict:=none,data:= .seq its.toArray c',slots:=#[]}->EP X pins σ Q (.ref s.heap.objs.size) {s with heap:=h' }:=fun its r' hz h' c' kp e=>
  ⟨.ref s.heap.objs.size,_,I.laid (t' :=s.toks) kp (aG _) (show vJ X.prog X.w _ h' _ (.lst ys) from⟨hz,its,c',r',e⟩),rfl,q _ (I.hok.fresh (aG _))⟩
 rcases hq with hq | hq
 ·obtain⟨its,r',pl,hz⟩:=I.list hq
  have hlen:=r'.length
  obtain⟨o,ho,hc,n,hd⟩:=pl.isList
  exact call_list_seq p (.inl rfl) ho hc hd (fun h' c' kp e=>fin its r' hz h' c' kp e) (by simp only [bQ] <;> omega)
 ·obtain⟨its,r',pl,hz⟩:=I.tuple hq
  have hlen:=r'.length
  obtain⟨o,ho,hc,n,hd⟩:=pl
  exact call_list_seq p (.inr rfl) ho hc hd (fun h' c' kp e=>fin its r' hz h' c' kp e) (by simp only [bQ] <;> omega)
def tyV (K:aQ) (T:String) (x:V) (H:Hp):Prop:=match x with
 | .str _=>T="str"
 | .int _=>T="int"
 | .ref p=>(T="list"/\∃xs,SqL K H p xs)\/(T="tuple"/\∃o,K.lookup p=some o/\o.cls= .type "tuple"/\o.dict=none)\/
   (T="dict"/\((∃kvs,H p=some (.dK kvs))\/∃kvs,H p=some (.dT kvs)))\/(T="set"/\∃S n,H p=some (.set S n))
 | _=>False
theorem zZn {pins:List (aZ×Obj)} {σ:St} {H:Hp} {s:aJ} {T:String} {x:V} {v:Value} (I:Inv X pins σ H s) (r:RelV x v) (ty:tyV X.K T x H):
  s.TypeIs v T/\∀a,v= .ref a->∃ob,s.heap.get? a=some ob/\ob.dict=none:=by
 cases x with
 | str z=>
   obtain⟨t,rfl⟩:=r
   cases(show T="str" from ty)
   exact⟨typeIs_str s z t,fun _ e=>nomatch e⟩
 | int i=>
   obtain⟨t,rfl⟩:=r
   cases(show T="int" from ty)
   exact⟨typeIs_int s i t,fun _ e=>nomatch e⟩
 | ref p=>
   cases r
   rcases ty with⟨rfl,xs,hq⟩ | ⟨rfl,o,hk,hc,hd⟩ | ⟨rfl,hk⟩ | ⟨rfl,S,n,hk⟩
   ·obtain⟨its,_,pl,_⟩:=I.list hq
    refine⟨pl.isList.typeIs,fun a e=>?_⟩
    cases e
    obtain⟨o,n,e,c,hd,_⟩:=pl
    exact⟨o,e,hd⟩
   ·refine⟨⟨o,I.kIn p o hk,hc⟩,fun a e=>?_⟩
    cases e
    exact⟨o,I.kIn _ o hk,hd⟩
   ·have z:∃o,s.heap.get? p=some o/\o.ExactDict:=by
     rcases hk with⟨kvs,hk⟩ | ⟨kvs,hk⟩
     ·obtain⟨_,_,_,_,o,_,_,e,ex,_⟩:=I.hok p _ hk
      exact⟨o,e,ex⟩
     ·obtain⟨_,_,_,_,o,_,_,e,ex,_⟩:=I.hok p _ hk
      exact⟨o,e,ex⟩
    obtain⟨o,e,ex⟩:=z
    refine⟨⟨o,e,ex.1⟩,fun a e2=>?_⟩
    cases e2
    exact⟨o,e,ex.2.1⟩
   ·obtain⟨o,_,_,_,e,ex,_⟩:=I.hok p _ hk
    refine⟨⟨o,e,ex.1⟩,fun a e2=>?_⟩
    cases e2
    exact⟨o,e,ex.2.1⟩
 | _=>exact False.elim ty
def tBM (K:aQ) (T:String) (r:V->List V->Hp->VK->Prop) (to:TE) (t:TA):TE:=fun σ H Q=>to σ H fun x H1=>tyV K T x H1/\t σ H1 fun xs H2=>r x xs H2 Q
variable {o e:Expr} {es:List Expr} {to:TE} {t:TA} {name:Str} {apos cpos:Pos} {T id:String} {r:V->List V->Hp->VK->Prop}
theorem zV3 (pa:PlainAttrs T) (slot:Slot T name id) (hty:typeOf (.builtin id)=pure (.type "method_descriptor")) (hm:MtR X id r) (ho:PE X o to) (ha:PA X (e::es) t)
  (hbase:attributeBase o name X.env (eval o X.env)=eval o X.env:=by rfl)
  (hfew:((cM cpos (aU (e::es) X.env)).all (fun x=>!x.1) && (backToKw cpos (keywordEach [] X.env)).all (fun x=>x.1.isSome)
   && decide ((e::es).length + ([]:List Keyword).length + (if([]:List Keyword).isEmpty then 0 else 1) < 30))=true:=by rfl)
  (hline:(apos.endLine == cpos.line)=true:=by rfl) (hs:aU (e::es) X.env=(false,eval e X.env)::aU es X.env:=by rfl) (hplain:(cM cpos (aU es X.env)).any (·.1)=false:=by rfl):
  PE X (.Call (.Attribute o name apos) (e::es) [] cpos) (tBM X.K T r to t):=by
 intro pins s σ H Q I h
 refine wpAny_Call_method_late hbase hfew hline rfl (thn (ho pins s σ H _ I h) fun v s1 ⟨x,H1,I1,r1,ty,q1⟩=>?_)
 obtain⟨h1,h2⟩:=zZn I1 r1 ty
 refine⟨T,id,pa,slot,hty,h1,h2,?_⟩
 have hA:=ha cpos pins s1 σ H1 _ I1 q1
 rw [hs] at hA⊢
 refine Calls.callWith_builtin (by show(false || (cM cpos (aU es X.env)).any (·.1))=false;rw [hplain] <;> rfl) (Calls.evalArgs_plain ?_)
 exact thn hA fun us s2 ⟨vs,H2,I2,r2,q2⟩=>hm pins s2 σ H2 x vs v us Q I2 r1 r2 q2
end
def MtM (X:Cx) (id:String) (r:V->List V->Hp->VK->Prop):Prop:=
 ∀(pins:List (aZ×Obj)) (s:aJ) (σ:St) (H:Hp) (x:V) (xs:List V) (v:Value) (us:List Value) (Q:VK),Inv X pins σ H s->RelV x v->Vals xs us->r x xs H Q->
  aR (model X.prog X.w) X.A (call (.builtin id) (v::us)) (EP X pins σ Q) X.xe s
theorem Vals.one:∀ {x:V} {us:List Value},Vals [x] us->∃u,us=[u]/\RelV x u
 | _,_, .cons r .nil=>⟨_,rfl,r⟩
section
variable {X:Cx} {pins:List (aZ×Obj)} {σ:St} {H:Hp} {s:aJ} {l b:aZ} {xs ys zs:List V}
theorem Inv.lset {its its' :List Value} {n:Nat} {f:Array Value->Array Value} {t' :Nat} (I:Inv X pins σ H s) (hH:H l=some (.lst xs))
  (e:s.heap.get? l=some {cls:= .type "list",data:= .seq its.toArray n}) (hf:f its.toArray=its'.toArray) (hv:Vals ys its') (hz:ys.length<=bX):
  Inv X pins σ (upd H l (.lst ys)) {s with heap:=s.heap.update l (Obj.mapSeq f),toks:=t' }:=by
 have q:=PySem.IsL.update e f
 rw [hf] at q
 refine I.write (x:=l) (e:=l) (by rw [hH];exact trivial) (.inl rfl) (fun b' u hb hu=>(cC s.heap (Obj.mapSeq f) (Ne.symm hb)).trans hu) ⟨_,q⟩ ?_
 exact⟨hz,its',_,hv,q⟩
theorem Inv.lnew {its:List Value} {t' :Nat} (I:Inv X pins σ H s) (hv:Vals ys its) (hz:ys.length<=bX):
  Inv X pins σ (upd H s.heap.objs.size (.lst ys)) {s with heap:=s.heap.push {cls:= .type "list",data:= .seq its.toArray},toks:=t' }:=
 I.laid (fun _ _ q=>aX _ q) (aG _) ⟨hz,its,0,hv,aL _ rfl⟩
theorem Inv.fresh (I:Inv X pins σ H s):H s.heap.objs.size=none:=I.hok.fresh (aG _)
theorem Inv.lstM (I:Inv X pins σ H s) (hH:H l=some (.lst xs)):xs.length<=bX/\∃(its:List Value) (n:Nat),Vals xs its/\xs.length=its.length/\s.heap.get? l=some {cls:= .type "list",data:= .seq its.toArray n}:=by
 obtain⟨z,its,n,r,e⟩:=I.hok l _ hH
 exact⟨z,its,n,r,r.length,e⟩
theorem vX4 {n:Nat} (h:n<=bX):Builtin.List.listTooLong n=false:=by
 unfold Builtin.List.listTooLong
 exact decide_eq_false (by omega)
end
section
variable {X:Cx}
def rAppend:V->List V->Hp->VK->Prop:=fun x vs H Q=>∃l xs y,x= .ref l/\vs=[y]/\H l=some (.lst xs)/\xs.length < bX/\Q .non (upd H l (.lst (xs ++ [y])))
theorem qWa:MtM X "list.append" rAppend:=by
 intro pins s σ H x vs v us Q I rx rv h
 obtain⟨l,xs,y,rfl,rfl,hH,hz,q⟩:=h
 cases rx
 obtain⟨u,rfl,ru⟩:=rv.one
 obtain⟨z,its,n,r,hl,e⟩:=I.lstM hH
 refine call_meets F.slot_list_append ⟨_,e,rfl⟩ F.entry_list_append (F.args_list_append_2 _ _) (PySem.list_append l its.toArray n u (by rw [bQ];omega)) ⟨e,?_⟩
 refine⟨.non,_,I.lset (its' :=its ++ [u]) hH e (by simp) (r.append (.cons ru .nil)) ?_,rfl,q⟩
 rw [aP,List.length_singleton]
 omega
def rExtend:V->List V->Hp->VK->Prop:=fun x vs H Q=>∃l b xs zs,x= .ref l/\vs=[.ref b]/\H l=some (.lst xs)/\H b=some (.lst zs)/\xs.length + zs.length<=bX/\Q .non (upd H l (.lst (xs ++ zs)))
theorem vZk:MtM X "list.extend" rExtend:=by
 intro pins s σ H x vs v us Q I rx rv h
 obtain⟨l,b,xs,zs,rfl,rfl,hH,hB,hz,q⟩:=h
 cases rx
 obtain⟨u,rfl,ru⟩:=rv.one
 cases ru
 obtain⟨z,its,n,r,hl,e⟩:=I.lstM hH
 obtain⟨z2,its2,n2,r2,hl2,e2⟩:=I.lstM hB
 have hsz:its.toArray.size + its2.toArray.size<=bX:=by rw [bQ,bQ];omega
 have hlong:¬(!its.toArray.isEmpty && Builtin.List.listTooLong (its.toArray.size + its2.toArray.size))=true:=by
  rw [vX4 hsz,Bool.and_false]
  exact aA
 refine call_meets F.slot_list_extend ⟨_,e,rfl⟩ F.entry_list_extend (F.args_list_extend_2 _ _)
  (AutoSeq1.list_extend_list_list_0 l its.toArray n b its2.toArray n2 hlong (by rw [bQ];omega) (by omega)) ⟨e,e2,?_⟩
 refine⟨.non,_,I.lset (its' :=its ++ its2) hH e (by simp) (r.append r2) ?_,rfl,q⟩
 rw [aP]
 omega
end
end L2
namespace Att
open PySem PySem.W PySem.Calls PyProof.Rows
theorem qZa {P:Params} {h:Heap}:∀(ns:List Int) (vs:List Value),WellAll P h vs (ns.map WData.int)->IntsAre vs ns:=by
 intro ns
 induction ns with
 | nil=>
   intro vs w
   rw [List.map_nil] at w
   cases w
   exact .nil
 | cons n ns ih=>
   intro vs w
   rw [aC] at w
   cases w with
   | cons a b=>
     cases a
     exact .cons _ _ (ih _ b)
theorem vV8 {l:OpenLaw} {n:Nat} (hn:l.most=some n) {P:Params} {h:Heap} {args:List WData} {vals:List Value}
  (hpre:l.row.toRowW.claim.pre args=true) (hwl:WellAll P h vals args):
  ∃a vs ns,vals=[Value.ref a]/\args=[WData.list (ns.map WData.int)]/\h.get? a=some {cls:= .type "list",data:= .seq vs.toArray}/\IntsAre vs ns/\ns.length<=n:=by
 have hsh:WShape.hasAll [] args [.list .int]=true:=(pre_splitW hpre).1
 have hc:l.pre.holds [] {args:=args}=true:=(pre_splitW hpre).2
 obtain⟨d,r,rfl,h1,h2⟩:=hasAllW_cons hsh
 obtain rfl:=hasAllW_nil h2
 obtain⟨xs,rfl,h3⟩:=hasW_list h1
 obtain⟨ns,rfl⟩:=items_int h3
 have hlen:ns.length<=n:=by
  unfold OpenLaw.pre at hc
  have h4:(WTm.not (.lt (.lit (.int (n:Int))) (.len (.arg 0)))).holds [] {args:=[.list (ns.map .int)]}=true:=by
   have h4:=(holds_andW hc).1
   rw [hn] at h4
   exact h4
  have h5:=condW_of h4 (w_not (w_lt w_lit (w_len_list (w_arg rfl))))
  rw [aY] at h5
  refine Nat.le_of_not_lt fun q=>?_
  have q' :(n:Int) < ((ns.length:Nat):Int):=by omega
  first
   | (rw [decide_eq_true q'] at h5;exact absurd h5 (by decide))
   | (simp at h5;omega)
 cases hwl with
 | cons w1 w2=>
   cases w2
   cases w1 with
   | list ho hall=>exact⟨_,_,ns,rfl,rfl,ho,qZa ns _ hall,hlen⟩
theorem vZc (l:OpenLaw) (args:List WData):l.row.toRowW.claim.post args (.bool true) args=true:=
 postW_of (r:=l.row.toRowW) (X:=(true == true))
  (show WShape.has [] (.bool true) .bool=true by first | rfl | decide | simp [WShape.has,WShape.arms,WShape.armsAll])
  (show(WTm.eq .res (.lit (.bool true))).value [] {args:=args,res:=some (.bool true),after:=args}=some (.bool (true == true)) from w_eq_bool (w_res rfl) w_lit) rfl
end Att
namespace L2
open PySem PySem.Spec PyProof.Rows
theorem qQj:∀ {vs:List Value} {ns:List Int},IntsAre vs ns->Vals (ns.map V.int) vs
 | _,_, .nil=> .nil
 | _,_, .cons n t h=> .cons ⟨t,rfl⟩ (qQj h)
def zQw (s:Stmt) (j:Nat):Stmt:=match s with
 | .ClassDef _ _ _ body _ _ _ _ _ _ _=>body.getD j (.Pass ⟨0,0,0,0⟩)
 | _=> .Pass ⟨0,0,0,0⟩
def qN (s:Stmt):Arguments:=match s with
 | .FunctionDef _ a _ _ _ _ _ _ _ _=>a
 | _=> {posonlyargs:=[],args:=[],vararg:=none,kwonlyargs:=[],kw_defaults:=[],kwarg:=none,defaults:=[]}
def qH (s:Stmt):List Stmt:=match s with
 | .FunctionDef _ _ b _ _ _ _ _ _ _=>b
 | _=> []
def qJ (s:Stmt):Scope:=match s with
 | .FunctionDef _ _ _ _ _ _ sc _ _ _=>sc
 | _=> {kind:= .function,names:=[],isGenerator:=false,isCoroutine:=false}
abbrev CX0:CXT:=fun _ _ _ _ _ _=>False
abbrev E0:XK:=fun _ _ _=>False
structure Fun (K:aQ) (x qual:Str) (st:Stmt) (f:aZ) (fd:bW):Prop where
 ex:∃(oc:Value) (od:Option aZ) (kV doc pm:Value) (an:Option aZ) (cdv ct:Value) (osl:Array (Option Value)),
  fd=cS x qual (qN st) (qH st) (qJ st) .none kV doc pm an cdv ct/\K.lookup f=some ⟨oc,od, .func fd,osl⟩/\PySem.W.codeIn K cdv qual=true
 kp:eN K (.ref f)=true
section
variable {P:aH} {w:bJ} {K:aQ} {mg:Str->Option Value} {base:Heap}
theorem Fun.binds {x qual:Str} {st:Stmt} {f:aZ} {fd:bW} {ps:List Str} (F:Fun K x qual st f fd)
  (h:∀(kV doc pm:Value) (an:Option aZ) (cdv ct:Value) (us:List Value),us.length=ps.length->bindArgs (cS x qual (qN st) (qH st) (qJ st) .none kV doc pm an cdv ct) ⟨us,[]⟩=pure (ps.zip us)):yD K fd ps []:=by
 obtain⟨oc,od,kV,doc,pm,an,cdv,ct,osl,rfl,lk,hcd⟩:=F.ex
 exact .all (h kV doc pm an cdv ct)
theorem qWw {x qual:Str} {st:Stmt} {f:aZ} {oc:Value} {od an:Option aZ} {osl:Array (Option Value)} {kV doc pm cdv ct:Value} (l:K.lookup f=some ⟨oc,od, .func (cS x qual (qN st) (qH st) (qJ st) .none kV doc pm an cdv ct),osl⟩)
  (c:PySem.W.codeIn K cdv qual=true) (k:eN K (.ref f)=true):Fun K x qual st f (cS x qual (qN st) (qH st) (qJ st) .none kV doc pm an cdv ct):=⟨⟨oc,od,kV,doc,pm,an,cdv,ct,osl,rfl,l,c⟩,k⟩
end
theorem qZk {A:bF} {k:Nat} (hr:Room k A):A.units + 1 < dC:=dN (Nat.add_le_add_left (by decide:1<=64) _) hr.units
theorem vV7 {n:Nat} (h:n<=1000):n < bX:=dN h (by decide)
section
variable {X:Cx}
theorem pv (i:Nat) {x:Str} {pos:Pos} (hN:X.N[i]?=some x:=by rfl) (hv:Vis X.env.scope x:=by first | exact Or.inl rfl | exact Or.inr (Or.inl rfl) | exact Or.inr (Or.inr rfl)) (hd:(x == ("__debug__":Str))=false:=by decide)
  (hcd:(x == ("__classdict__":Str))=false:=by decide):PE X (.Name x pos) (tVar i):=zJk hN hv hd hcd
end
def Same (H H' :Hp):Prop:=∀b o,H b=some o->H' b=some o
theorem Same.refl (H:Hp):Same H H:=fun _ _ h=>h
theorem Same.trans {H H1 H2:Hp} (a:Same H H1) (b:Same H1 H2):Same H H2:=fun c o h=>b c o (a c o h)
end L2
namespace GE
abbrev Gr:=List (Int×List Int)
def nb (G:Gr) (a:Int):List Int:=(G.lookup a).getD []
def ks (G:Gr):List Int:=G.map (·.1)
def up (G:Gr) (f:Int->List Int->List Int):Gr:=G.map fun p=>(p.1,f p.1 p.2)
theorem qJy (G:Gr) (f:Int->List Int->List Int):ks (up G f)=ks G:=by
 unfold ks up
 rw [bH];rfl
theorem zZa (f:Int->List Int->List Int) (a:Int):∀G:Gr,(up G f).lookup a=(G.lookup a).map (f a)
 | []=>rfl
 | (k,v)::G=>by
   show List.lookup a ((k,f k v)::up G f)=_
   rw [bC,bC]
   cases h:a == k with
   | true=>
     have:a=k:=by simpa using h
     rw [this];rfl
   | false=>exact zZa f a G
theorem vVb {a:Int}:∀ {G:Gr},a∈ks G->∃v,G.lookup a=some v
 | (k,v)::G,h=>by
   rw [bC]
   cases e:a == k with
   | true=>exact⟨v,rfl⟩
   | false=>
     have ne:a≠k:=by simpa using e
     rcases aB.mp h with h | h
     ·exact absurd h ne
     ·exact vVb h
theorem vVc {a:Int}:∀ {G:Gr},a∉ks G->G.lookup a=none
 | [],_=>rfl
 | (k,v)::G,h=>by
   rw [bC]
   have h1:a≠k:=fun z=>h (by rw [z];exact aI ..)
   have h2:a∉ks G:=fun z=>h (aE _ z)
   rw [show(a == k)=false by simpa using h1]
   exact vVc h2
theorem qJw {G:Gr} {f:Int->List Int->List Int} {a:Int} (h:a∈ks G):nb (up G f) a=f a (nb G a):=by
 obtain⟨v,e⟩:=vVb h
 unfold nb
 rw [zZa,e];rfl
theorem wT {G:Gr} {a:Int} (h:a∉ks G):nb G a=[]:=by
 unfold nb
 rw [vVc h];rfl
def put (xs:List Int) (o:Int):List Int:=if o∈xs then xs else xs ++ [o]
theorem vKk {xs:List Int} {o b:Int}:b∈put xs o↔b∈xs\/b=o:=by
 unfold put
 split
 ·rename_i h
  exact⟨.inl,fun z=>z.elim id fun z=>z▸h⟩
 ·simp
theorem zZ7 {xs:List Int} {o:Int} (h:xs.Nodup):(put xs o).Nodup:=by
 unfold put
 split
 ·exact h
 ·rename_i n
  rw [cF]
  exact⟨h,cN _ _,fun a ha b hb z=>n (by rw [←aS.mp hb,←z];exact ha)⟩
def add (G:Gr) (s o:Int):Gr:=up G fun k v=>if k=s then put v o else v
theorem xO (G:Gr) (s o:Int):ks (add G s o)=ks G:=qJy _ _
theorem zJ8 {G:Gr} {s o a b:Int}:b∈nb (add G s o) a↔b∈nb G a\/(a=s/\b=o/\a∈ks G):=by
 by_cases h:a∈ks G
 ·unfold add
  rw [qJw h]
  split
  ·rename_i e
   rw [vKk]
   exact⟨fun z=>z.elim .inl fun z=> .inr ⟨e,z,h⟩,fun z=>z.elim .inl fun z=> .inr z.2.1⟩
  ·rename_i e
   exact⟨.inl,fun z=>z.elim id fun z=>absurd z.1 e⟩
 ·rw [wT (by rw [xO];exact h),wT h]
  exact⟨fun z=>absurd z aN,fun z=>z.elim (fun z=>absurd z aN) fun z=>absurd z.2.2 h⟩
theorem zJ7 {G:Gr} {s o:Int} (h:∀a,(nb G a).Nodup):∀a,(nb (add G s o) a).Nodup:=fun a=>by
 by_cases k:a∈ks G
 ·unfold add
  rw [qJw k]
  split
  ·exact zZ7 (h a)
  ·exact h a
 ·rw [wT (by rw [xO];exact k)]
  exact dW
def row (s:Int) (G:Gr) (xs:List Int):Gr:=xs.foldl (fun G o=>if o≠s then add G s o else G) G
theorem qKh (s:Int):∀(xs:List Int) (G:Gr),(∀a,(nb G a).Nodup)->ks (row s G xs)=ks G/\(∀a,(nb (row s G xs) a).Nodup)/\∀a b,b∈nb (row s G xs) a↔b∈nb G a\/(a=s/\b∈xs/\b≠s/\a∈ks G)
 | [],G,h=>⟨rfl,h,fun a b=>⟨.inl,fun z=>z.elim id fun z=>absurd z.2.1 aN⟩⟩
 | x::xs,G,h=>by
   by_cases e:x≠s
   ·obtain⟨h1,h2,h3⟩:=qKh s xs (add G s x) (zJ7 h)
    have eq:row s G (x::xs)=row s (add G s x) xs:=by show List.foldl _ (if x≠s then add G s x else G) xs=_;rw [if_pos e];rfl
    rw [eq]
    refine⟨h1.trans (xO ..),h2,fun a b=>?_⟩
    rw [h3,zJ8,xO,aB]
    constructor
    ·rintro((z | ⟨z1,z2,z3⟩) | ⟨z1,z2,z3,z4⟩)
     ·exact .inl z
     ·exact .inr ⟨z1, .inl z2,z2▸e,z3⟩
     ·exact .inr ⟨z1, .inr z2,z3,z4⟩
    ·rintro(z | ⟨z1,z2 | z2,z3,z4⟩)
     ·exact .inl (.inl z)
     ·exact .inl (.inr ⟨z1,z2,z4⟩)
     ·exact .inr ⟨z1,z2,z3,z4⟩
   ·have e:x=s:=dM e
    obtain⟨h1,h2,h3⟩:=qKh s xs G h
    have eq:row s G (x::xs)=row s G xs:=by show List.foldl _ (if x≠s then add G s x else G) xs=_;rw [if_neg (fun z=>z e)];rfl
    rw [eq]
    refine⟨h1,h2,fun a b=>?_⟩
    rw [h3,aB]
    exact⟨fun z=>z.elim .inl fun⟨z1,z2,z3⟩=> .inr ⟨z1, .inr z2,z3⟩,fun z=>z.elim .inl fun⟨z1,z2,z3,z4⟩=> .inr ⟨z1,z2.elim (fun z=>absurd (z.trans e) z3) id,z3,z4⟩⟩
def mk (G:Gr) (xs:List Int):Gr:=xs.foldl (fun G s=>row s G xs) G
theorem zV8 (ys:List Int):∀(xs:List Int) (G:Gr),(∀a,(nb G a).Nodup)->ks (xs.foldl (fun G s=>row s G ys) G)=ks G/\(∀a,(nb (xs.foldl (fun G s=>row s G ys) G) a).Nodup)/\
  ∀a b,b∈nb (xs.foldl (fun G s=>row s G ys) G) a↔b∈nb G a\/(a∈xs/\b∈ys/\b≠a/\a∈ks G)
 | [],G,h=>⟨rfl,h,fun a b=>⟨.inl,fun z=>z.elim id fun z=>absurd z.1 aN⟩⟩
 | x::xs,G,h=>by
   obtain⟨h1,h2,h3⟩:=qKh x ys G h
   obtain⟨g1,g2,g3⟩:=zV8 ys xs (row x G ys) h2
   refine⟨g1.trans h1,g2,fun a b=>(g3 a b).trans ?_⟩
   rw [h3,h1,aB]
   constructor
   ·rintro((z | ⟨rfl,z2,z3,z4⟩) | ⟨z1,z2,z3,z4⟩)
    ·exact .inl z
    ·exact .inr ⟨.inl rfl,z2,z3,z4⟩
    ·exact .inr ⟨.inr z1,z2,z3,z4⟩
   ·rintro(z | ⟨rfl | z1,z2,z3,z4⟩)
    ·exact .inl (.inl z)
    ·exact .inl (.inr ⟨rfl,z2,z3,z4⟩)
    ·exact .inr ⟨z1,z2,z3,z4⟩
theorem vJq (G:Gr) (xs:List Int) (h:∀a,(nb G a).Nodup):ks (mk G xs)=ks G/\(∀a,(nb (mk G xs) a).Nodup)/\∀a b,b∈nb (mk G xs) a↔b∈nb G a\/(a∈xs/\b∈xs/\b≠a/\a∈ks G):=zV8 xs xs G h
def del (G:Gr) (os:List Int) (s:Int):Gr:=os.foldl (fun G o=>up G fun k v=>if k=o then v.erase s else v) G
theorem qKn (s:Int):∀(os:List Int) (G:Gr),(∀a,(nb G a).Nodup)->ks (del G os s)=ks G/\(∀a,(nb (del G os s) a).Nodup)/\∀a b,b∈nb (del G os s) a↔b∈nb G a/\¬(b=s/\a∈os)
 | [],G,h=>⟨rfl,h,fun a b=>⟨fun z=>⟨z,fun y=>absurd y.2 aN⟩,fun z=>z.1⟩⟩
 | x::os,G,h=>by
   have e0:∀a,nb (up G fun k v=>if k=x then v.erase s else v) a=if a=x then(nb G a).erase s else nb G a:=fun a=>by
    by_cases k:a∈ks G
    ·exact qJw k
    ·rw [wT (by rw [qJy];exact k),wT k]
     split <;> rfl
   obtain⟨h1,h2,h3⟩:=qKn s os (up G fun k v=>if k=x then v.erase s else v) fun a=>by
    rw [e0]
    split
    ·exact(h a).erase s
    ·exact h a
   refine⟨h1.trans (qJy ..),h2,fun a b=>(h3 a b).trans ?_⟩
   rw [e0,aB]
   split
   ·rename_i e
    rw [(h a).mem_erase_iff]
    exact⟨fun⟨⟨z1,z2⟩,z3⟩=>⟨z2,fun y=>z1 y.1⟩,fun⟨z1,z2⟩=>⟨⟨fun y=>z2 ⟨y, .inl e⟩,z1⟩,fun y=>z2 ⟨y.1, .inl e⟩⟩⟩
   ·rename_i e
    exact⟨fun⟨z1,z2⟩=>⟨z1,fun y=>z2 ⟨y.1,y.2.elim (fun q=>absurd q e) id⟩⟩,fun⟨z1,z2⟩=>⟨z1,fun y=>z2 ⟨y.1, .inr y.2⟩⟩⟩
def but (G:Gr) (s:Int):Gr:=G.filter fun p=>p.1 != s
theorem xN (s:Int):∀G:Gr,ks (but G s)=(ks G).filter (·!= s)
 | []=>rfl
 | (k,v)::G=>by
   have ih:=xN s G
   unfold but ks at ih⊢
   rw [dY,aC,dY]
   dsimp only
   split <;> simp_all
theorem qZt {s a:Int} (h:a≠s):∀G:Gr,nb (but G s) a=nb G a:=by
 have:∀G:Gr,(but G s).lookup a=G.lookup a:=fun G=>by
  induction G with
  | nil=>rfl
  | cons p G ih=>
    obtain⟨k,v⟩:=p
    unfold but at ih⊢
    rw [dY,bC]
    dsimp only
    by_cases e:k=s
    ·rw [if_neg (by simp [e]),ih]
     rw [show(a == k)=false by simpa [e] using h]
    ·rw [if_pos (by simpa using e),bC,ih]
 intro G
 unfold nb
 rw [this]
structure Gd (G:Gr):Prop where
 kn:(ks G).Nodup
 nn:∀a,(nb G a).Nodup
 sy:∀a b,b∈nb G a->a∈nb G b
 no:∀a,a∉nb G a
theorem Gd.key {G:Gr} (g:Gd G) {a b:Int} (h:b∈nb G a):b∈ks G/\a∈ks G:=by
 have h' :=g.sy a b h
 refine⟨dM fun z=>?_,dM fun z=>?_⟩
 ·rw [wT z] at h';exact absurd h' aN
 ·rw [wT z] at h;exact absurd h aN
def out (G:Gr) (s:Int):Gr:=mk (del (but G s) (nb G s) s) (nb G s)
theorem qVl {G:Gr} (g:Gd G) (s:Int):Gd (out G s)/\ks (out G s)=(ks G).filter (·!= s)/\∀a b,b∈nb (out G s) a↔a≠s/\b≠s/\(b∈nb G a\/(a∈nb G s/\b∈nb G s/\b≠a)):=by
 have n0:∀a,(nb (but G s) a).Nodup:=fun a=>by
  by_cases e:a=s
  ·rw [wT (by rw [xN,e];simp)];exact dW
  ·rw [qZt e];exact g.nn a
 obtain⟨d1,d2,d3⟩:=qKn s (nb G s) (but G s) n0
 obtain⟨m1,m2,m3⟩:=vJq (del (but G s) (nb G s) s) (nb G s) d2
 have kk:ks (out G s)=(ks G).filter (·!= s):=(m1.trans d1).trans (xN s G)
 have mem:∀a b,b∈nb (out G s) a↔a≠s/\b≠s/\(b∈nb G a\/(a∈nb G s/\b∈nb G s/\b≠a)):=fun a b=>by
  refine(m3 a b).trans ?_
  rw [d3,d1,xN]
  by_cases e:a=s
  ·rw [wT (G:=but G s) (by rw [xN,e];simp)]
   constructor
   ·rintro(⟨z,_⟩ | ⟨z,_⟩)
    ·exact absurd z aN
    ·exact absurd (e▸z) (g.no s)
   ·exact fun z=>absurd e z.1
  ·rw [qZt e]
   constructor
   ·rintro(⟨z1,z2⟩ | ⟨z1,z2,z3,_⟩)
    ·refine⟨e,fun y=>z2 ⟨y,g.sy a s (y▸z1)⟩, .inl z1⟩
    ·exact⟨e,fun y=>g.no s (y▸z2), .inr ⟨z1,z2,z3⟩⟩
   ·rintro⟨z1,z2,z3 | ⟨z3,z4,z5⟩⟩
    ·exact .inl ⟨z3,fun y=>z2 y.1⟩
    ·exact .inr ⟨z3,z4,z5,cL.mpr ⟨(g.key z3).1,by simpa using e⟩⟩
 refine⟨⟨by rw [kk];exact g.kn.filter _,m2,fun a b h=>?_,fun a h=>?_⟩,kk,mem⟩
 ·obtain⟨h1,h2,h3⟩:=(mem a b).mp h
  exact(mem b a).mpr ⟨h2,h1,h3.elim (fun z=> .inl (g.sy a b z)) fun⟨z1,z2,z3⟩=> .inr ⟨z2,z1,Ne.symm z3⟩⟩
 ·obtain⟨h1,h2,h3⟩:=(mem a a).mp h
  exact h3.elim (g.no a) fun z=>z.2.2 rfl
inductive Run:Gr->List (Int×List Int)->Prop
 | nil {G:Gr}:ks G=[]->Run G []
 | cons {G:Gr} {s:Int} {r:List (Int×List Int)}:s∈ks G->Run (out G s) r->Run G ((s,nb G s)::r)
theorem Run.slots {G:Gr} {r:List (Int×List Int)} (h:Run G r):Gd G->(r.map (·.1)).Perm (ks G):=by
 induction h with
 | nil e=>intro _;rw [e];exact .refl _
 | @cons G s r hs _ ih=>
   intro g
   obtain⟨g',k,_⟩:=qVl g s
   have p:=ih g'
   rw [k] at p
   refine(p.cons s).trans ?_
   rw [←g.kn.erase_eq_filter]
   exact(List.perm_cons_erase hs).symm
def Clq (G:Gr) (C:List Int):Prop:=∀a∈C,a∈ks G/\∀b∈C,b≠a->b∈nb G a
theorem Run.held {G:Gr} {r:List (Int×List Int)} (h:Run G r):Gd G->∀ {C:List Int},Clq G C->C≠ []->∃pre s os post,r=pre ++ (s,os)::post/\s∈C/\(∀p∈pre,p.1∉C)/\∀b∈C,b≠s->b∈os:=by
 induction h with
 | nil e=>
   intro _ C c n
   obtain⟨a,ha⟩:=List.exists_mem_of_ne_nil C n
   have:=(c a ha).1
   rw [e] at this
   exact absurd this aN
 | @cons G s r hs _ ih=>
   intro g C c n
   by_cases e:s∈C
   ·exact⟨[],s,nb G s,r,rfl,e,fun p hp=>absurd hp aN,fun b hb ne=>(c s e).2 b hb ne⟩
   ·obtain⟨g',k,m⟩:=qVl g s
    have ns:∀a∈C,a≠s:=fun a ha z=>e (z▸ha)
    obtain⟨pre,t,os,post,h1,h2,h3,h4⟩:=ih g' (C:=C) (fun a ha=>⟨by rw [k];exact cL.mpr ⟨(c a ha).1,by simpa using ns a ha⟩,fun b hb ne=>(m a b).mpr ⟨ns a ha,ns b hb, .inl ((c a ha).2 b hb ne)⟩⟩) n
    refine⟨(s,nb G s)::pre,t,os,post,by rw [h1];rfl,h2,fun p hp=>?_,h4⟩
    rcases aB.mp hp with hp | hp
    ·rw [hp];exact e
    ·exact h3 p hp
theorem Run.hangs {G:Gr} {r:List (Int×List Int)} (h:Run G r):Gd G->∀ {pre post:List (Int×List Int)} {s:Int} {os:List Int},r=pre ++ (s,os)::post->os≠ []->
  ∃p2 t ot q2,post=p2 ++ (t,ot)::q2/\t∈os/\(∀p∈p2,p.1∉os)/\∀b∈os,b≠t->b∈ot:=by
 induction h with
 | nil e=>intro _ pre post s os h;cases pre <;> cases h
 | @cons G s r hs hr ih=>
   intro g pre post t os e n
   obtain⟨g',k,m⟩:=qVl g s
   cases pre with
   | nil=>
     cases e
     exact hr.held g' (C:=nb G s) (fun a ha=>by
      have na:a≠s:=fun z=>g.no s (z▸ha)
      exact⟨by rw [k];exact cL.mpr ⟨(g.key ha).1,by simpa using na⟩,fun b hb ne=>(m a b).mpr ⟨na,fun z=>g.no s (z▸hb), .inr ⟨ha,hb,ne⟩⟩⟩) n
   | cons p pre=>
     cases e
     exact ih g' rfl n
end GE
namespace L2
open PySem PySem.Spec PyProof.Rows
structure FnAt (K:aQ) (mg:Str->Option Value) (x:Str) (st:Stmt) (ps:List Str) (f:aZ) (fd:bW):Prop where
 F:Fun K x x st f fd
 b:yD K fd ps []
 m:mg x=some (.ref f)
theorem Same.upd {H:Hp} {p:aZ} {o:HO} (h:H p=Option.none):Same H (upd H p o):=fun b u e=>by
 rw [qU (qT e h)]
 exact e
theorem Same.tup {K:aQ} {H H' :Hp} {a:aZ} {xs:List V} (e:Same H H') (h:SqT K H a xs):SqT K H' a xs:=by
 rcases h with(h | ⟨o,h⟩) | h
 ·exact .inl (.inl (e _ _ h))
 ·exact .inl (.inr ⟨o,e _ _ h⟩)
 ·exact .inr h
theorem vJ0:(2:Nat)<=bX:=by decide
end L2
namespace Att
open PySem PySem.W PySem.Calls PyProof.Rows
theorem qJf:∀ {ns:List Int} {n:Int},n∈ns->WData.weight (.int n)<=WData.weightAll (ns.map WData.int)
 | m::r,n,h=>by
   show WData.weight (.int n)<=WData.weight (.int m) + 1 + WData.weightAll (r.map WData.int)
   rcases aB.mp h with e | e
   ·subst e
    omega
   ·have:=qJf (ns:=r) e
    omega
theorem qKc {ns:List Int} (h:WData.layableAll [WData.list (ns.map WData.int)]=true):∀n∈ns,Builtin.Int.intBits n<=2 ^ 20:=by
 intro n hn
 have h1:(WData.list (ns.map WData.int)).layable=true:=(layW_cons h).1
 have h2:WData.weight (WData.list (ns.map WData.int))<=2 ^ 20:=of_decide_eq_true (Bool.and_eq_true_iff.mp h1).2
 have h3:WData.weightAll (ns.map WData.int)<=2 ^ 20:=by simpa only [WData.weight] using h2
 have h4:=qJf hn
 have h5:WData.weight (.int n)<=2 ^ 20:=bT h4 h3
 simpa only [WData.weight,Builtin.Int.intBits] using h5
theorem qX2 {l:OpenLaw} {n:Nat} {q:aH} {loose:List Str} {XP:(Str->Option Value)->Heap->Prop} {YP:bJ->Heap->Prop} {d:DefRec}
  (hn:l.most=some n) (hdf:d.params.defaults=[])
  (call:∀(w:bJ) (s₀ s₁:aJ) (mg mb:Str->Option Value) (fa:aZ) (a:aZ) (vs:List Value) (ns:List Int),
   Ground q loose [] XP w s₀ mg mb s₁.heap->YP w s₁.heap->mg d.name=some (.ref fa)->
   s₁.heap.get? a=some {cls:= .type "list",data:= .seq vs.toArray}->IntsAre vs ns->ns.length<=n->(∀x∈ns,Builtin.Int.intBits x<=2 ^ 20)->s₁.gens=#[]->
   codeAny (model l.prog w) callerA (.call (.ref fa) ⟨[.ref a],[]⟩) (fun r s' =>r= .ok (.ret (.bool true))/\OldK s₁.heap s'.heap/\s'.os=s₁.os/\AllBare s'.gens) s₁):
  WalkO q loose XP YP l.row.toRowW d [] (fun f vs=>PySem.call f vs):=by
 intro w s₀ s₁ mg mb G Y fa o pm cd doc dV kV ho hd hcd hD hmg hg args vals as hpre hlay hrd hwl hlo
 obtain rfl:dV= .none:=Dflts.none hD hdf
 obtain rfl:kV= .none:=Dflts.noKw hD
 obtain⟨a,vs,ns,rfl,rfl,hobj,hints,hlen⟩:=vV8 hn hpre hwl
 refine enter_call (codeAny_mono (call w s₀ s₁ mg mb fa a vs ns G Y hmg hobj hints hlen (qKc hlay) hg) fun r s' hq=>?_)
 obtain⟨rfl,h2,h3,h4⟩:=hq
 exact⟨.inl ⟨.bool true, .bool true,[],rfl,fun _=>rfl, .bool true,vZc l _,fun _=>⟨List.Pairwise.nil,fun _ hm=>(nomatch hm)⟩⟩,h2,h3,h4⟩
end Att
namespace L2
open PySem PySem.Spec PyProof.Rows
theorem vR {K:aQ} {mg:Str->Option Value} {h:Heap} {x:Str} {st:Stmt} {ps:List Str} {f:aZ} {oc:Value} {od an:Option aZ} {osl:Array (Option Value)} {kV doc pm cdv ct:Value} (X:K.In h) (G:h.Ns cK mg)
  (a:PySem.W.nsIn K cK x=some (some (.ref f)))
  (l:K.lookup f=some ⟨oc,od, .func (cS x x (qN st) (qH st) (qJ st) .none kV doc pm an cdv ct),osl⟩)
  (c:PySem.W.codeIn K cdv x=true) (k:eN K (.ref f)=true)
  (b:∀(kV doc pm:Value) (an:Option aZ) (cdv ct:Value) (us:List Value),us.length=ps.length->bindArgs (cS x x (qN st) (qH st) (qJ st) .none kV doc pm an cdv ct) ⟨us,[]⟩=pure (ps.zip us)):
  FnAt K mg x st ps f (cS x x (qN st) (qH st) (qJ st) .none kV doc pm an cdv ct):=
 ⟨qWw l c k,(qWw l c k).binds b,PySem.W.mg_of X G a⟩
section
variable {X:Cx}
theorem zQe:OpR X (binaryOp .Mult) (rI IntMulOk fun i j=> .int (i * j)):=opI fun _ _ _ _ _ _ _ hc q=>mul_int q hc
def vQq (_ j:Int):Prop:=0 < j/\j.natAbs.log2 < 9000
theorem vX3:OpR X (binaryOp .FloorDiv) (rI vQq fun i j=> .int (i / j)):=opI fun i j _ _ _ _ _ hc q=>by
 have h0:(0:Int) < j:=hc.1
 refine floordiv_int (by omega) ?_ (.inl (PyProof.noPylong_of_log2 hc.2))
 rw [Int.fdiv_eq_ediv_of_nonneg _ (Int.le_of_lt h0)]
 exact q
def rIsi (K:aQ):List V->Hp->VK->Prop:=fun xs H Q=>∃x n t b,xs=[x, .ty n]/\TyOf K H x t/\cE K t (.type n)=some b/\Q (.bl b) H
theorem vYx:zZ X (.builtin "isinstance") (rIsi X.K):=by
 intro pins s σ H xs us Q I r h
 obtain⟨x,n,t,b,rfl,ty,e,q⟩:=h
 obtain⟨u,w',rfl,r1,r2⟩:=vQf r
 cases(show w' =Value.type n from r2)
 exact vZy I r1 ty e fun tk=>⟨.bl b,H,I.tok tk,rfl,q⟩
end
def cCx (X:Cx) (scope:Scope) (cl:List (Str×aZ)) (C:aZ) (Nc:List Str) (s:aJ) (H:Hp) (fp:List aZ):Cx where
 prog:=X.prog
 w:=X.w
 K:=X.K
 mg:=X.mg
 base:=X.base
 A:=X.A
 N:=Nc
 s₀:=s
 H₀:=H
 env:=compEnvC scope cl C X.env
 outer:=X.stack
 stack:=X.stack
 ex:=fp
 fn:=fun _=>false
 calm:=X.calm
 pn:=[]
 xe:=fun _ _=>False
def PTs (X:Cx) (ifs:List Expr) (t:TT):Prop:=
 ∀(pins:List (aZ×Obj)) (s:aJ) (σ:St) (H:Hp) (Q:Bool->Hp->Prop),Inv X pins σ H s->t σ H Q->
  aR (model X.prog X.w) X.A (forIn ifs true fun c r=>if r=true then do let ok ←isTrue c X.env (eval c X.env);pure (ForInStep.yield ok) else pure (ForInStep.yield r)) (TP X pins σ Q) X.xe s
def tTrue:TT:=fun _ H Q=>Q true H
theorem vKm {X:Cx}:PTs X [] tTrue:=fun _ _ _ H _ I h=>wpAny_tests_nil ⟨H,I,h⟩
theorem vKl {X:Cx} {c:Expr} {t:TT} (h:PT X c t):PTs X [c] t:=fun pins s σ H Q I q=>wpAny_tests_one (h pins s σ H Q I q)
theorem vQb {prog:aH} {w:bJ} {A:bF} {R:Result->aJ->Prop} {s:aJ} {elt target iter:Expr} {ifs:List Expr} {scope:Scope} {pos:Pos} {it acc:Value} {env:Env} (I:Nat->aJ->Prop)
  (turn:∀n s,I n s->aR (model prog w) A (pyNext it) (fun r s₁=>match r with
   | none=>R (.ok .next) s₁
   | some v=>aR (model prog w) A (letOwnedTupleGo target it v) (fun _ s₂=>aR (model prog w) A (assign target env v) (fun _ s₃=>
     aR (model prog w) A (forIn ifs true fun c r=>if r=true then do let ok ←isTrue c env (eval c env);pure (ForInStep.yield ok) else pure (ForInStep.yield r)) (fun ok s₄=>
      if ok=true then aR (model prog w) A (eval elt env) (fun x s₅=>
       aR (model prog w) A (call (.builtin "list.append") [acc,x]) (fun _ s₆=>∃m,m < n/\I m s₆) (fun _ _=>False) s₅) (fun _ _=>False) s₄
      else∃m,m < n/\I m s₄) (fun _ _=>False) s₃) (fun _ _=>False) s₂) (fun _ _=>False) s₁) (fun _ _=>False) s)
  (n:Nat) (h:I n s):
  codeAny (model prog w) A (.compLoop (.ListComp elt [⟨target,iter,ifs,0⟩] scope pos) 0 it acc env) R s:=by
 refine codeAny_loop rfl I (fun n s hI=>?_) n h
 show aR _ A ((compTurn (.ListComp elt [⟨target,iter,ifs,0⟩] scope pos) 0 it acc env).onRaise (fun x=>do noteFrame x env;theTreesLotGoes x)) _ _ s
 refine wpAny_noted ?_
 rw [compTurn_list]
 refine aV (wpAny_standAt (aV (dB (turn n s hI) (fun r s₁ h₁=>?_) fun _ _ h' =>h'.elim)))
 cases r with
 | none=>exact aW h₁
 | some v=>
   refine aV (dB h₁ (fun _ s₂ h₂=>aV (dB h₂ (fun _ s₃ h₃=>aV (dB h₃ (fun ok s₄ h₄=>?_) fun _ _ h' =>h'.elim)) fun _ _ h' =>h'.elim)) fun _ _ h' =>h'.elim)
   cases ok with
   | false=>exact aW ⟨rfl,h₄⟩
   | true=>
     exact aV (aV (dB h₄ (fun x s₅ h₅=>aV (dB h₅ (fun _ s₆ h₆=>aW (aW ⟨rfl,h₆⟩)) fun _ _ h' =>h'.elim)) fun _ _ h' =>h'.elim))
def zZi (J:It) (g:TG) (tt:TT) (te:TE) (σ0:St) (Q:VK) (D:aZ) (H1:Hp):Prop:=
 ∃W:Nat->Nat->St->List V->Hp->Prop,(∃m,W 0 m σ0 [] H1)/\∀i m σ2 ys H2,W i m σ2 ys H2->H2 D=some (.lst ys)/\ys.length < bX/\
  ((J.stop i H2/\Q (.ref D) H2)\/(J.go i H2/\∀x H3,J.yld i H2 x H3->g x σ2 H3 fun σ4 H4=>tt σ4 H4 fun b H5=>
    if b=true then te σ4 H5 fun v H6=>H6 D=some (.lst ys)/\∃m',m' < m/\W (i + 1) m' σ4 (ys ++ [v]) (upd H6 D (.lst (ys ++ [v])))
    else∃m',m' < m/\W (i + 1) m' σ4 ys H5))
def tComp (wi:TI) (g:TG) (tt:TT) (te:TE) (σc:St->St):TE:=fun σ H Q=>wi σ H fun J H1=>∀D,H1 D=none->zZi J g tt te (σc σ) Q D (upd H1 D (.lst []))
structure Caps (X:Cx) (scope:Scope) (cl:List (Str×aZ)) (Nc:List Str) (σc:St->St):Prop where
 clos:closureFor scope X.env=pure cl
 kind:scope.kind= .function
 nocell:∀y∈scope.names,y.2≠ .cell
 names:∀y∈scope.names,y.2= .local->scope.names.lookup y.1=some .local
 cells:∀x c,cl.lookup x=some c->X.env.cells.lookup x=some c
 has:∀x,((relabel scope X.env).names.lookup x=some .cell\/(relabel scope X.env).names.lookup x=some .free)->∃c,cl.lookup x=some c
 len:∀σ,(σc σ).length=Nc.length
 cap:∀σ (i:Nat) x v,Nc[i]?=some x->(σc σ)[i]?=some (some v)->Vis (relabel scope X.env) x->
  ((relabel scope X.env).names.lookup x=some .cell\/(relabel scope X.env).names.lookup x=some .free)/\
  (X.env.kindOf x=some .cell\/X.env.kindOf x=some .free)/\∃j:Nat,X.N[j]?=some x/\σ[j]?=some (some v)/\Vis X.env.scope x
section
variable {X:Cx} {tg iter elt:Expr} {ifs:List Expr} {scope:Scope} {cl:List (Str×aZ)} {Nc:List Str} {σc:St->St} {pos:Pos} {wi:TI} {g:TG} {tt:TT} {te:TE}
theorem vW3 {pins:List (aZ×Obj)} {σ:St} {H:Hp} {s:aJ} {fp:List aZ} {C:aZ} (I:Inv X pins σ H s) (c:Caps X scope cl Nc σc) (hC:s.heap.objs.size<=C) (hf:∀b∈fp,FpOk X pins H b) (hlt:∀b∈fp,b < s.heap.objs.size):
  (cCx X scope cl C Nc s H fp).Ok where
 mod:=I.ok.mod
 kind:=c.kind
 glob:=I.ok.glob
 blt:=I.ok.blt
 above:=hC
 inj:=fun x y a h1 h2=>I.ok.inj x y a (c.cells x a h1) (c.cells y a h2)
 has:=c.has
 cab:=fun _ _ h _=>absurd (show false=true from h) aA
 hd:=I.ok.hd
 frames:=I.ok.frames
 stk:= .inl rfl
 exf:=fun b hb=>⟨fun z=>absurd (aM (hlt b hb) hC) (by
    have z' :b=C:=z
    rw [z']
    exact bN _),fun x a h z=>(hf b hb).2.2.2.2.1 x a (c.cells x a h) z⟩
 bs:=I.bs
 bsz:=bT I.ok.bsz I.sz
 noex:=fun b o e hb=>by
  rcases(hf b hb).2.2.2.1 with z | z
  ·exact I.ok.noex b o e z
  ·exact absurd (aM (aD e) (bT I.ok.bsz z)) (bN _)
 exfs:=fun b hb z=>by
  rcases aB.mp (I.stkSub b z) with q | q
  ·exact(hf b hb).2.1 q
  ·exact(hf b hb).2.2.1 q
 funs:=I.stack
 frf:=I.stkFree
theorem zVi {pins:List (aZ×Obj)} {σ:St} {H:Hp} {s:aJ} {fp:List aZ} {C:aZ} {h' :Heap} {t' :Nat} {m:Str->Option Value} (I:Inv X pins σ H s) (c:Caps X scope cl Nc σc) (hC:s.heap.objs.size<=C)
  (hf:∀b∈fp,FpOk X pins H b) (hlt:∀b∈fp,b < s.heap.objs.size) (hk:∀b o,s.heap.get? b=some o->h'.get? b=some o) (hn:h'.Ns C m):
  Inv (cCx X scope cl C Nc s H fp) [] (σc σ) H {s with heap:=h',toks:=t' }:=by
 refine⟨vW3 I c hC hf hlt,rfl,I.bare,Un.kept hk,⟨m,hn,fun i x v e1 e2 e3=>?_⟩,fun x a h=>?_,I.hok.fresh hC,fun x a h=>I.freeC x a (c.cells x a h),fun p hp=>absurd (show p∈([]:List (aZ×Obj)) from hp) (by simp),I.hok.kept hk,c.len σ⟩
 ·obtain⟨k1,k2,j,n1,n2,n3⟩:=c.cap σ i x v e1 e2 e3
  obtain⟨m0,_,hl⟩:=I.loc
  obtain⟨u,ru,lk⟩:=hl j x v n1 n2 n3
  refine⟨u,ru, .inr ⟨k1,?_⟩⟩
  rcases lk with⟨z,_⟩ | ⟨_,a,ha,hcell⟩
  ·rcases k2 with k2 | k2 <;> rw [k2] at z <;> cases z
  ·obtain⟨a',ha'⟩:=c.has x k1
   have e:=c.cells x a' ha'
   rw [ha] at e
   cases e
   obtain⟨o,ho,hd⟩:=hcell
   exact⟨a,ha',⟨o,hk _ _ ho,hd⟩⟩
 ·obtain⟨v,o,ho,hd⟩:=I.cell x a (c.cells x a h)
  exact⟨v,o,hk _ _ ho,hd⟩
theorem qJj {pins:List (aZ×Obj)} {σ:St} {H:Hp} {s:aJ} {Q:VK} {J:It} {fp:List aZ} {it:aZ} {tn:Nat->Heap->Prop} {RR:Value->aZ->Result->aJ->Prop} {E:Value->aJ->Prop}
  (hc:X.calm=true) (c:Caps X scope cl Nc σc)
  (hg:∀C s H fp,PG (cCx X scope cl C Nc s H fp) tg g) (ht:∀C s H fp,PTs (cCx X scope cl C Nc s H fp) ifs tt) (he:∀C s H fp,PE (cCx X scope cl C Nc s H fp) elt te)
  (I:Inv X pins σ H s) (T:Turn X.prog X.w X.K tg J fp it tn) (st:tn 0 s.heap) (hf:∀b∈fp,FpOk X pins H b)
  (h:∀D,H D=none->zZi J g tt te (σc σ) Q D (upd H D (.lst [])))
  (hRR:∀D C H' s' m,Inv X pins σ H' s' ->H' C=none->s.heap.objs.size<=C->s'.heap.Ns C m->Q (.ref D) H' ->RR (.ref D) C (.ok .next) s'):
  aR (model X.prog X.w) X.A (newList []) (fun acc s₃=>aR (model X.prog X.w) X.A (newFunctionEnv scope X.env.globals cl [] X.env.qual none .none (some X.env)) (fun cenv s₄=>
   codeAny (model X.prog X.w) X.A (.compStart (.ListComp elt [⟨tg,iter,ifs,0⟩] scope pos) 0 (.ref it) acc {cenv with scope:=relabel scope X.env}) (RR acc cenv.locals) s₄) E s₃) E s:=by
 have fit:∀b∈fp,b < s.heap.objs.size:=fun b hb=>by
  obtain⟨o,e,_⟩:=T.obj _ _ st b hb
  exact aD e
 obtain⟨W,⟨m0,w0⟩,turn⟩:=h s.heap.objs.size (I.hok.fresh (aG _))
 refine cB (wpAny_newFunctionEnv c.nocell (by intro y hy;simp at hy) (fun h₁ hns₁ hsb₁=>?_) c.kind)
 dsimp only at hns₁ hsb₁⊢
 have I1:Inv X pins σ (upd H s.heap.objs.size (.lst [])) {s with heap:=s.heap.push {cls:= .type "list",dict:=none,data:= .seq ([]:List Value).toArray}}:=
  I.laid (t' :=s.toks) (fun b u e=>aX _ e) (aG _) ⟨cH _,[],0, .nil,aL _ rfl⟩
 generalize hH2:s.heap.push {cls:= .type "list",dict:=none,data:= .seq ([]:List Value).toArray}=G at hns₁ hsb₁ I1⊢
 have hG:G.objs.size=s.heap.objs.size + 1:=by rw [←hH2,cZ]
 have old:∀b o,G.get? b=some o->h₁.get? b=some o:=fun b o e=>hsb₁.extBut b o (bZ (aD e)) (aX _ e)
 have hf1:∀b∈fp,FpOk X pins (upd H s.heap.objs.size (.lst [])) b:=fun b hb=>
  ⟨by rw [qU (bZ (fit b hb))];exact(hf b hb).1,(hf b hb).2⟩
 have hlt1:∀b∈fp,b < G.objs.size:=fun b hb=>aM (fit b hb) (by rw [hG];exact eA _)
 have I2:=zVi (C:=G.objs.size) (t' :=s.toks + ([]:List (Str×Value)).length) I1 c (aG _) hf1 hlt1 old hns₁
 have st1:tn 0 h₁:=T.keep _ _ _ st fun b hb o e=>old b o (by rw [←hH2];exact aX _ e)
 have fpB:∀ {H' :Hp},(∀b∈fp,H' b=none)->∀b∈fp,FpOk (cCx X scope cl G.objs.size Nc {s with heap:=G} (upd H s.heap.objs.size (.lst [])) fp) [] H' b:=fun {H'} hn b hb=>by
  have ok:=vW3 (C:=G.objs.size) I1 c (aG _) hf1 hlt1
  obtain⟨e1,e2⟩:=ok.exf b hb
  exact⟨hn b hb,e1,ok.exfs b hb, .inl hb,e2,fun p hp=>absurd (show p∈([]:List (aZ×Obj)) from hp) (by simp)⟩
 have loop:∀s₃:aJ,s₃={s with heap:=h₁,toks:=s.toks + ([]:List (Str×Value)).length}->
   codeAny (model X.prog X.w) X.A (.compLoop (.ListComp elt [⟨tg,iter,ifs,0⟩] scope pos) 0 (.ref it) (.ref s.heap.objs.size) (compEnvC scope cl G.objs.size X.env))
    (RR (.ref s.heap.objs.size) G.objs.size) s₃:=by
  rintro s₃ rfl
  refine vQb (fun n s' =>∃i σ' ys H',Inv (cCx X scope cl G.objs.size Nc {s with heap:=G} (upd H s.heap.objs.size (.lst [])) fp) [] σ' H' s' /\tn i s'.heap/\(∀b∈fp,H' b=none)/\W i n σ' ys H') ?_ m0
   ⟨0,σc σ,[],_,I2,st1,fun b hb=>(hf1 b hb).1,w0⟩
  rintro n s5 ⟨i,σ5,ys,H5,I5,st5,fr5,w5⟩
  obtain⟨hD,hsz,alt⟩:=turn i n σ5 ys H5 w5
  rcases alt with⟨stop,q⟩ | ⟨go,step⟩
  ·refine thn (T.done (cCx X scope cl G.objs.size Nc {s with heap:=G} (upd H s.heap.objs.size (.lst [])) fp) rfl rfl rfl hc i [] s5 σ5 H5 _ I5 (fpB fr5) st5 stop) fun r s6 ⟨hr,I6⟩=>?_
   subst hr
   obtain⟨m6,n6,_⟩:=I6.loc
   have I7:Inv X pins σ H5 s6:=I1.call' I6.os I6.base I6.hok I6.bare fun b hb=>⟨(hf1 b hb).2.2.2.1,(hf1 b hb).2.1,(hf1 b hb).2.2.2.2.1,(hf1 b hb).2.2.2.2.2⟩
   exact hRR _ _ H5 s6 m6 I7 I6.free (by rw [hG];exact eA _) n6 q
  ·refine thn (T.item (cCx X scope cl G.objs.size Nc {s with heap:=G} (upd H s.heap.objs.size (.lst [])) fp) rfl rfl rfl hc i [] s5 σ5 H5 _ I5 (fpB fr5) st5 go) fun r s6 ⟨u,hr,h6⟩=>?_
   subst hr
   refine thn h6 fun _ s7 ⟨x,H7,I7,r7,y7,st7,fr7⟩=>?_
   have I7' :=I7.pinned (fpB fr7) (T.obj _ _ st7)
   refine thn (hg _ _ _ _ _ s7 σ5 H7 x u _ I7' r7 (step x H7 y7)) fun _ s8 ⟨σ8,H8,I8,q8⟩=>?_
   refine thn (ht _ _ _ _ _ s8 σ8 H8 _ I8 q8) fun ok s9 ⟨H9,I9,q9⟩=>?_
   have again:∀ {σ' :St} {H' :Hp} {s' :aJ} {ys' :List V} {m' :Nat},Inv (cCx X scope cl G.objs.size Nc {s with heap:=G} (upd H s.heap.objs.size (.lst [])) fp) ([] ++ qZp fp s7.heap) σ' H' s' ->m' < n->W (i + 1) m' σ' ys' H' ->
     ∃m,m < n/\∃i σ' ys H',Inv (cCx X scope cl G.objs.size Nc {s with heap:=G} (upd H s.heap.objs.size (.lst [])) fp) [] σ' H' s' /\tn i s'.heap/\(∀b∈fp,H' b=none)/\W i m σ' ys H' :=fun {σ' H' s' ys' m'} J7 hm hw=>by
    refine⟨m',hm,i + 1,σ',ys',H',J7.unpinned,T.keep _ _ _ st7 fun b hb o e=>(J7.pin (b,o) (bB _ (bB _ (xT hb e)))).1,fun b hb=>?_,hw⟩
    obtain⟨o,e,d⟩:=T.obj _ _ st7 b hb
    exact(J7.pin (b,o) (bB _ (bB _ (xT hb e)))).2.1
   cases ok with
   | false=>
     rw [if_neg aA] at q9⊢
     obtain⟨m',hm,hw⟩:=q9
     exact again I9 hm hw
   | true=>
     rw [if_pos rfl] at q9⊢
     refine thn (he _ _ _ _ _ s9 σ8 H9 _ I9 q9) fun v s10 ⟨y,H10,I10,r10,hD10,m',hm,hw⟩=>?_
     refine thn (qWa _ s10 σ8 H10 (.ref s.heap.objs.size) [y] (.ref s.heap.objs.size) [v] (fun _ H' =>H' =upd H10 s.heap.objs.size (.lst (ys ++ [y]))) I10 rfl (.cons r10 .nil) ⟨_,ys,y,rfl,rfl,hD10,hsz,rfl⟩) fun _ s11 ⟨z,H11,I11,_,e11⟩=>?_
     subst e11
     exact again I11 hm hw
 exact codeAny_compStart_list (loop _ rfl) (T.self _ 0 _ _ _ st1 (loop _ rfl))
theorem vK7 (hc:X.calm=true) (c:Caps X scope cl Nc σc) (hi:PI X tg iter wi)
  (hg:∀C s H fp,PG (cCx X scope cl C Nc s H fp) tg g) (ht:∀C s H fp,PTs (cCx X scope cl C Nc s H fp) ifs tt) (he:∀C s H fp,PE (cCx X scope cl C Nc s H fp) elt te)
  (hs:∀x,foldedSetIterable iter X.env x=pure x:=by intro _;rfl):PE X (.ListComp elt [⟨tg,iter,ifs,0⟩] scope pos) (tComp wi g tt te σc):=by
 intro pins s σ H Q I h
 rw [eval_ListComp]
 refine wpAny_comprehension_free (use:=none) rfl hs c.clos c.kind c.names (thn (hi pins s σ H _ I h) fun v s1 h1=>thn h1 fun itv s2 h2=>?_)
 obtain⟨it,fp,tn,J,H2,rfl,I2,T,st2,f2,W⟩:=h2
 refine qJj (Q:=Q) hc c hg ht he I2 T st2 f2 W ?_
 intro D C H' s' m I' hC hCs hn q
 refine⟨m,hn,fun h' sb=>⟨.ref D,H',?_,rfl,q⟩⟩
 have nl:C≠X.env.locals:=dI (aM I2.lt hCs)
 refine I'.turned (t' :=s'.toks) (it:=C) (fun b o hb e=>sb.extBut b o hb e) hC nl (.inr (bT I2.sz hCs)) (fun x a e z=>?_) (fun p hp z=>?_)
 ·obtain⟨v,q⟩:=I2.cell x a e
  exact absurd (aM q.lt hCs) (by rw [z];exact bN _)
 ·exact absurd (aM (aD (I2.pin p hp).1) hCs) (by rw [z];exact bN _)
theorem vKs {i:Nat} {y:Str} {py spos:Pos} (hc:X.calm=true) (hN:X.N.Nodup) (hiy:X.N[i]?=some y) (hy:Loc X.env.scope y) (c:Caps X scope cl Nc σc) (hi:PI X tg iter wi)
  (hg:∀C s H fp,PG (cCx X scope cl C Nc s H fp) tg g) (ht:∀C s H fp,PTs (cCx X scope cl C Nc s H fp) ifs tt) (he:∀C s H fp,PE (cCx X scope cl C Nc s H fp) elt te)
  (hsw:swapsWith (.ListComp elt [⟨tg,iter,ifs,0⟩] scope pos) (some (.Name y py)) spos.line X.env=pure true:=by rfl)
  (hs:∀x,foldedSetIterable iter X.env x=pure x:=by intro _;rfl) (hf:X.fn y=true\/X.env.scope.names.lookup y=some .local:=by first | exact .inl rfl | exact .inr rfl | assumption):
  PS X (.Assign [.Name y py] (.ListComp elt [⟨tg,iter,ifs,0⟩] scope pos) spos) (tAsg (tComp wi g tt te σc) (qZl i)):=by
 intro pins s σ H D I h
 rw [exec_Assign_Name_used _ _ _ _ hsw]
 refine aV (wpAny_standAt (aV ?_))
 show aR _ X.A (do let _ ←comprehension (.ListComp elt [⟨tg,iter,ifs,0⟩] scope pos) scope X.env _ (newList []) false (eval iter X.env) (some (assign (.Name y py) X.env))) _ _ s
 refine aV (dB (wpAny_comprehension_free (use:=some (assign (.Name y py) X.env)) (Q:=fun _ s' =>SP X pins D .next s') rfl hs c.clos c.kind c.names
  (thn (hi pins s σ H _ I h) fun v s1 h1=>thn h1 fun itv s2 h2=>?_)) (fun _ s' hq=>aW (aW hq)) fun _ _ e=>e)
 obtain⟨it,fp,tn,J,H2,rfl,I2,T,st2,f2,W⟩:=h2
 refine qJj (Q:=fun v H' =>D.nx (σ.set i (some v)) H') hc c hg ht he I2 T st2 f2 W ?_
 intro L C H' s' m I' hC hCs hn q
 have nl:C≠X.env.locals:=dI (aM I2.lt hCs)
 have nfs:C∉X.fs:=I2.nofs hCs
 obtain⟨oC,es,ep,hoC,hdC,hrC⟩:=id hn
 have ncell:∀v,oC.data≠ .cell v:=fun v z=>by rw [hdC] at z;cases z
 have I'' :Inv X (pins ++ [(C,oC)]) σ H' s' :=I'.pins_of fun p hp=>by
  rcases bL.mp hp with z | z
  ·exact I'.pin p (bB _ z)
  ·have e:p=(C,oC):=by simpa using z
   subst e
   exact⟨hoC,hC,nl,nfs,ncell⟩
 show aR _ X.A (assign (.Name y py) X.env (.ref L)) _ _ _
 refine wpAny_assign_Name (qZ2 I'' hN hiy hy (v:= .ref L) rfl (fun s3 I3=>?_) hf)
 have hn3:s3.heap.Ns C m:=⟨oC,es,ep,(I3.pin (C,oC) (by simp)).1,hdC,hrC⟩
 refine⟨m,hn3,fun h' sb=>⟨σ.set i (some (.ref L)),H',?_,q⟩⟩
 refine I3.unpinned.turned (t' :=s3.toks) (it:=C) (fun b o hb e=>sb.extBut b o hb e) hC nl (.inr (bT I2.sz hCs)) (fun x a e z=>?_) (fun p hp z=>?_)
 ·obtain⟨v,q⟩:=I2.cell x a e
  exact absurd (aM q.lt hCs) (by rw [z];exact bN _)
 ·exact absurd (aM (aD (I2.pin p hp).1) hCs) (by rw [z];exact bN _)
theorem zYl (hk:scope.kind= .function) (hfree:∀x∈scope.names,x.2≠ .free) (hcell:∀x∈scope.names,x.2≠ .cell) (hnames:∀y∈scope.names,y.2= .local->scope.names.lookup y.1=some .local):
  Caps X scope [] Nc (fun _=>List.replicate Nc.length none) where
 clos:=closureFor_none hfree
 kind:=hk
 nocell:=hcell
 names:=hnames
 cells:=fun x c e=>by cases e
 has:=fun x h=>by
  have hm:(relabel scope X.env).names=scope.names:=by
   unfold relabel
   refine map_eq_self fun y hy=>?_
   obtain⟨n,k⟩:=y
   have:(k == NameKind.free)=false:=by simpa using hfree _ hy
   simp [this]
  rw [hm] at h
  rcases h with h | h
  ·exact absurd rfl (hcell _ (cV h))
  ·exact absurd rfl (hfree _ (cV h))
 len:=fun _=>by simp
 cap:=fun σ i x v _ e _=>by
  rw [List.getElem?_replicate] at e
  split at e <;> cases e
end
def Itz (K:aQ) (a b:aZ):It:=
 ⟨fun i H=>∃xs ys x y,SqL K H a xs/\SqL K H b ys/\xs[i]?=some x/\ys[i]?=some y,
  fun i H v H' =>∃p,v= .ref p/\H p=none/\∀xs ys x y,SqL K H a xs->SqL K H b ys->xs[i]?=some x->ys[i]?=some y->H' =upd H p (.tup [x,y]),
  fun i H=>∃xs ys,SqL K H a xs/\SqL K H b ys/\(xs.length<=i\/ys.length<=i)⟩
section
variable {X:Cx} {pins:List (aZ×Obj)} {σ:St} {H:Hp} {s:aJ} {h' :Heap}
theorem Inv.turnedLaid {t' :Nat} {ch:List aZ} {p:aZ} {o:HO} (I:Inv X pins σ H s) (k:∀b u,b∉ch->s.heap.get? b=some u->h'.get? b=some u) (hf:∀b∈ch,FpOk X pins H b)
  (hp:s.heap.objs.size<=p) (new:vJ X.prog X.w (upd H p o) h' p o):Inv X pins σ (upd H p o) {s with heap:=h',toks:=t' }:=by
 have hn:=I.hok.fresh hp
 have nch:∀b u,H b=some u->b∉ch:=fun b u e z=>by rw [(hf b z).1] at e;cases e
 refine I.call (g' :=s.gens) (d' :=s.drawn) (ch:=ch) ⟨fun b u e _ _ hc=>k b u hc e,fun b u e _ _ hc=>⟨u.slots,k b u hc e⟩,fun b u e n _=>?_,fun b u e hc=>⟨u,k b u hc e⟩,fun b xs e=>?_,fun b u xs e=>?_,fun b ps e=>?_⟩ (fun b u e=>?_) I.bare
  fun b hb=>⟨(hf b hb).2.2.2.1,(hf b hb).2.1,(hf b hb).2.2.2.2.1,(hf b hb).2.2.2.2.2⟩
 ·rw [qU (bZ (aM (aD e) hp))]
  exact n
 ·rw [qU (qT e hn)]
  exact e
 ·rw [qU (qT e hn)]
  exact e
 ·exact⟨#[],by rw [qU (qT e hn),e];simp⟩
 ·by_cases hb:b=p
  ·subst hb
   rw [upd_same] at e
   cases e
   exact new
  ·rw [qU hb] at e
   refine(I.hok b u e).stay (fun c v hc q=>k c v ?_ q) (fun c q=>by rw [qU (qT q hn)];exact q) fun c xs q=>by rw [qU (qT q hn)];exact q
   rcases hc with z | z
   ·rw [z]
    exact nch b u e
   ·exact nch c _ z
theorem Inv.turnedAll {t' :Nat} {ch:List aZ} (I:Inv X pins σ H s) (k:∀b u,b∉ch->s.heap.get? b=some u->h'.get? b=some u) (hf:∀b∈ch,FpOk X pins H b):Inv X pins σ H {s with heap:=h',toks:=t' }:=by
 have nch:∀b u,H b=some u->b∉ch:=fun b u e z=>by rw [(hf b z).1] at e;cases e
 refine I.call (g' :=s.gens) (d' :=s.drawn) (ch:=ch) ⟨fun b u e _ _ hc=>k b u hc e,fun b u e _ _ hc=>⟨u.slots,k b u hc e⟩,fun b u e n _=>n,fun b u e hc=>⟨u,k b u hc e⟩,fun b xs e=>e,fun b u xs e=>e,fun b ps e=>⟨#[],by rw [e];simp⟩⟩ (fun b u e=>?_) I.bare
  fun b hb=>⟨(hf b hb).2.2.2.1,(hf b hb).2.1,(hf b hb).2.2.2.2.1,(hf b hb).2.2.2.2.2⟩
 refine(I.hok b u e).stay (fun c v hc q=>k c v ?_ q) (fun c q=>q) fun c xs q=>q
 rcases hc with z | z
 ·rw [z]
  exact nch b u e
 ·exact nch c _ z
end
theorem vW7 {P:aH} {w:bJ} {K:aQ} {elts:List Expr} {kk:Nat} {pos:Pos} (a b z TI TO i1 i2:aZ) (D:ZipApart z TI TO i1 i2 a b):
  Turn P w K (.Tuple elts kk pos) (Itz K a b) [z,TI,TO,i1,i2] z (fun i h=>IsZip h z TI TO .none/\IsPair h TI (.ref i1) (.ref i2)/\(∃x y,IsPair h TO x y)/\h.IsListIter i1 a i/\h.IsListIter i2 b i) where
 mem:=by simp
 obj:=fun i h st c hc=>by
  obtain⟨hz,hTI,⟨x,y,hTO⟩,⟨o1,e1,c1,d1⟩,⟨o2,e2,c2,d2⟩⟩:=st
  have hc' :c=z\/c=TI\/c=TO\/c=i1\/c=i2:=by simpa using hc
  rcases hc' with rfl | rfl | rfl | rfl | rfl
  ·exact⟨_,hz,fun v q=>by have q' :Data.fields _=Data.cell v:=q;cases q'⟩
  ·exact⟨_,hTI,fun v q=>by have q' :Data.seq _ _=Data.cell v:=q;cases q'⟩
  ·exact⟨_,hTO,fun v q=>by have q' :Data.seq _ _=Data.cell v:=q;cases q'⟩
  ·exact⟨_,e1,fun v q=>by rw [d1] at q;cases q⟩
  ·exact⟨_,e2,fun v q=>by rw [d2] at q;cases q⟩
 keep:=fun i h h' st k=>by
  obtain⟨hz,hTI,⟨x,y,hTO⟩,h1,h2⟩:=st
  exact⟨k z (by simp) _ hz,k TI (by simp) _ hTI,⟨x,y,k TO (by simp) _ hTO⟩,h1.at fun o e=>k i1 (by simp) o e,h2.at fun o e=>k i2 (by simp) o e⟩
 item:=by
  intro X hP hw hK hc i pins s σ H E I hf st hg
  subst hP hw hK
  obtain⟨xs,ys,x,y,hq1,hq2,hx,hy⟩:=hg
  obtain⟨its,rv,p1,hz1⟩:=I.list hq1
  obtain⟨its2,rv2,p2,hz2⟩:=I.list hq2
  obtain⟨u,hu,ru⟩:=rv.get hx
  obtain⟨v,hv,rvv⟩:=rv2.get hy
  obtain⟨hz,hTI,⟨ta,tb,hTO⟩,h1,h2⟩:=st
  refine wpAny_pyNext_zip_item D hz hTI hTO h1 h2 p1.isList p2.isList (x:=u) (y:=v) (by simpa using hu) (by simpa using hv) fun h' a1 a2 a3 a4 a5 a6 hk=>?_
  refine⟨_,rfl,wpAny_letOwnedTupleGo_zip a1 fun h'' hz'' sb=>?_⟩
  have nz:s.heap.objs.size≠z:=dI (aD hz)
  have hk2:∀c o,c∉ [z,TI,TO,i1,i2]->s.heap.get? c=some o->h''.get? c=some o:=fun c o hc e=>by
   simp only [aB,aN,or_false,not_or] at hc
   exact sb.extBut c o hc.1 (hk c o hc.1 hc.2.2.1 hc.2.2.2.1 hc.2.2.2.2 e)
  refine⟨.ref s.heap.objs.size,upd H s.heap.objs.size (.tup [x,y]),I.turnedLaid (t' :=s.toks) hk2 hf (aG _) ⟨vJ0,[u,v], .cons ru (.cons rvv .nil),⟨_,sb.extBut _ _ nz a5,rfl,_,rfl⟩⟩,rfl,
   ⟨_,rfl,I.hok.fresh (aG _),fun xs' ys' x' y' e1 e2 e3 e4=>?_⟩,⟨hz'',sb.extBut _ _ D.TIz (hk _ _ D.TIz D.TITO D.TIi1 D.TIi2 hTI),⟨_,_,sb.extBut _ _ D.TOz a2⟩,a3.extBut sb.extBut D.i1z,a4.extBut sb.extBut D.i2z⟩,fun c hc=>?_⟩
  ·rw [I.list_inj e1 hq1,hx] at e3
   rw [I.list_inj e2 hq2,hy] at e4
   cases e3
   cases e4
   rfl
  ·obtain⟨o,e,_⟩:∃o,s.heap.get? c=some o/\True:=by
    have hc' :c=z\/c=TI\/c=TO\/c=i1\/c=i2:=by simpa using hc
    obtain⟨o1,e1,_⟩:=h1
    obtain⟨o2,e2,_⟩:=h2
    rcases hc' with rfl | rfl | rfl | rfl | rfl
    ·exact⟨_,hz,trivial⟩
    ·exact⟨_,hTI,trivial⟩
    ·exact⟨_,hTO,trivial⟩
    ·exact⟨_,e1,trivial⟩
    ·exact⟨_,e2,trivial⟩
   rw [qU (bZ (aD e))]
   exact(hf c hc).1
 done:=by
  intro X hP hw hK hc i pins s σ H E I hf st hg
  subst hP hw hK
  obtain⟨xs,ys,hq1,hq2,hend⟩:=hg
  obtain⟨its,rv,p1,hz1⟩:=I.list hq1
  obtain⟨its2,rv2,p2,hz2⟩:=I.list hq2
  obtain⟨hz,hTI,⟨ta,tb,hTO⟩,h1,h2⟩:=st
  have l1:=rv.length
  have l2:=rv2.length
  refine wpAny_pyNext_zip_end (I.ok.hd hc) D hz hTI hTO h1 h2 p1.isList p2.isList ?_ fun h' hk=>⟨rfl,I.turnedAll (t' :=s.toks) (ch:=[z,TI,TO,i1,i2]) (fun c o hc e=>?_) hf⟩
  ·rcases hend with q | q
   ·exact .inl (by simp;omega)
   ·exact .inr (by simp;omega)
  ·simp only [aB,aN,or_false,not_or] at hc
   exact hk c o hc.1 hc.2.2.1 hc.2.2.2.1 hc.2.2.2.2 e
 self:=fun _ _ _ _ _ st h=>wpAny_pyIter_zip st.1 h
section
variable {X:Cx} {elts:List Expr} {kk:Nat} {tpos:Pos}
def iZip (K:aQ) (ta:TA):TI:=fun σ H R=>ta σ H fun vs H1=>∃a b,vs=[.ref a, .ref b]/\(∃xs,SqL K H1 a xs)/\(∃ys,SqL K H1 b ys)/\R (Itz K a b) H1
theorem zJh {e1 e2:Expr} {ta:TA} {p pos:Pos} (hg:Gl X "zip") (hm:X.mg "zip"=none) (ha:PA X [e1,e2] ta)
  (hs:aU [e1,e2] X.env=[(false,eval e1 X.env),(false,eval e2 X.env)]:=by rfl) (hs2:aU [e2] X.env=[(false,eval e2 X.env)]:=by rfl):PI X (.Tuple elts kk tpos) (.Call (.Name "zip" p) [e1,e2] [] pos) (iZip X.K ta):=by
 intro pins s σ H R I h
 refine Call_ (yG I hg hm Boot.«zip» (eK (thn (ha pos pins s σ H _ I h) fun us s1 ⟨vs,H1,I1,r1,q1⟩=>?_) (by rw [hs,hs2]) (by rw [hs2];rfl)))
 obtain⟨a,b,e,⟨xs,hx⟩,⟨ys,hy⟩,q⟩:=q1
 subst e
 cases r1 with
 | cons r rr=>
   cases rr with
   | cons r' rr=>
     cases rr
     cases r
     cases r'
     obtain⟨its,rv,p1,hz1⟩:=I1.list hx
     obtain⟨its2,rv2,p2,hz2⟩:=I1.list hy
     have l1:a < s1.heap.objs.size:=by obtain⟨_,e,_⟩:=p1.isList;exact aD e
     have l2:b < s1.heap.objs.size:=by obtain⟨_,e,_⟩:=p2.isList;exact aD e
     refine call_zip_2 p1.isList p2.isList fun h' hz hTI hTO hi1 hi2 hsz hk=>?_
     refine wpAny_pyIter_zip hz ?_
     refine⟨s1.heap.objs.size + 4,[s1.heap.objs.size + 4,s1.heap.objs.size + 2,s1.heap.objs.size + 3,s1.heap.objs.size,s1.heap.objs.size + 1],_,_,H1,rfl,I1.kept (t' :=s1.toks) hk,vW7 a b _ _ _ _ _ (zipApart_new l1 l2),⟨hz,hTI,⟨_,_,hTO⟩,hi1,hi2⟩,fun c hc=>?_,q⟩
     have hc' :s1.heap.objs.size<=c:=by
      simp only [aB,aN,or_false] at hc
      rcases hc with e | e | e | e | e <;> rw [e] <;> first | exact aG _ | exact Nat.le_add_right _ _
     exact I1.fpOk hc' (I1.hok.fresh hc')
end
theorem vJ.there {P:aH} {w:bJ} {H:Hp} {h:Heap} {a:aZ} {o:HO} (x:vJ P w H h a o):∃ob,h.get? a=some ob:=by
 cases o with
 | lst xs=>obtain⟨_,_,_,_,e⟩:=x;exact⟨_,e⟩
 | tup xs=>obtain⟨_,_,_,_,e,_⟩:=x;exact⟨_,e⟩
 | dK kvs=>obtain⟨_,_,_,_,o,_,_,e,_⟩:=x;exact⟨_,e⟩
 | dT kvs=>obtain⟨_,_,_,_,o,_,_,e,_⟩:=x;exact⟨_,e⟩
 | set S n=>obtain⟨o,_,_,_,e,_⟩:=x;exact⟨_,e⟩
 | ins C dx fs=>obtain⟨_,_,_,e,_⟩:=x;exact⟨_,e⟩
 | own y=>exact x
 | xd fs=>obtain⟨_,⟨_,_,_,e,_⟩,_⟩:=x;exact⟨_,e⟩
 | rng lo hi=>obtain⟨_,_,_,e⟩:=x;exact⟨_,e⟩
 | frz ob u=>obtain⟨e,_⟩:=x;exact⟨_,e⟩
 | tbl ps=>exact⟨_,(show h.get? a=some _ from x)⟩
 | tab l c q=>obtain⟨_,e,_⟩:=x;exact⟨_,e⟩
 | met f y=>exact⟨_,(show h.get? a=some _ from x)⟩
 | ext φ=>obtain⟨_,e,_⟩:=x;exact e
theorem HOk.there {P:aH} {w:bJ} {H:Hp} {h:Heap} {a:aZ} {o:HO} (x:HOk P w H h) (e:H a=some o):∃ob,h.get? a=some ob:=(x a o e).there
section
variable {X:Cx}
theorem vYf {its:List Value} {ns:List Int} (i:IntsAre its ns):∀(j:Nat) v,its[j]?=some v->∃t,v=Value.int (ns.getD j 0) t:=by
 induction i with
 | nil=>intro j v h;simp at h
 | cons n t i ih=>
   intro j v h
   cases j with
   | zero=>simp at h;exact⟨t,h.symm⟩
   | succ j=>
     obtain⟨t',e⟩:=ih j v (by simpa using h)
     exact⟨t',by simpa using e⟩
theorem vYw (hc:X.calm=true):zZ X (.builtin "sum") (fun xs H Q=>∃(p:aZ) (ns:List Int),xs=[.ref p]/\SqL X.K H p (ns.map V.int)/\Q (.int ns.sum) H):=by
 intro pins s σ H xs us Q I r h
 obtain⟨p,ns,rfl,hp,q⟩:=h
 obtain⟨u,rfl,ru⟩:=jI r
 cases ru
 obtain⟨its,rv,pl,_⟩:=I.list hp
 have i1:IntsAre its ns:=yQ rv
 have lp:p < s.heap.objs.size:=by obtain⟨_,e,_⟩:=pl.isList;exact aD e
 refine call_sum_walkG (wpAny_pyIter_list pl.isList ?_)
 refine⟨s.heap.objs.size,_,_,_,_,_,fun j=>ns.getD j 0,rfl,Walks.list (A:=X.A.in1) (I.ok.hd hc) s.heap.objs.size p (bZ lp) its.toArray,⟨⟨_,aL _ rfl,rfl,rfl⟩,pl.isList.at fun o e=>aX _ e⟩,fun b hb=>?_,fun j v hj=>vYf i1 j v (by simpa using hj),fun h' tk t' kk=>?_⟩
 ·have hb' :b=s.heap.objs.size\/b=p:=by simpa using hb
  rcases hb' with rfl | rfl
  ·rw [cZ];exact Nat.lt_succ_self _
  ·rw [cZ];exact dE lp
 ·refine⟨.int ns.sum,H,I.kept (t' :=tk) fun b o e=>kk b o (fun z=>?_) (aX _ e),⟨t',?_⟩,q⟩
  ·have z' :b=s.heap.objs.size:=by simpa using z
   exact absurd (aD e) (by rw [z'];exact bN _)
  ·have l1:its.toArray.size=ns.length:=by rw [bQ];exact i1.length
   rw [preSum_getD,l1,List.take_of_length_le (aG _)]
end
inductive Dt where
 | non | int (i:Int) | str (x:Str) | tup (ds:List Dt)
mutual
def Dt.beq:Dt->Dt->Bool
 | .non, .non=>true
 | .int i, .int j=>i == j
 | .str x, .str y=>x == y
 | .tup a, .tup b=>Dt.beqs a b
 | _,_=>false
def Dt.beqs:List Dt->List Dt->Bool
 | [],[]=>true
 | x::xs,y::ys=>Dt.beq x y && Dt.beqs xs ys
 | _,_=>false
end
mutual
def Dt.hgt:Dt->Nat
 | .tup ds=>Dt.hgts ds + 1
 | _=>0
def Dt.hgts:List Dt->Nat
 | []=>0
 | d::r=>max (Dt.hgt d) (Dt.hgts r)
end
mutual
def qP (K:aQ) (H:Hp):V->Dt->Prop
 | v, .non=>v= .non
 | v, .int i=>v= .int i
 | v, .str x=>v= .str x
 | v, .tup ds=>∃r vs,v= .ref r/\SqT K H r vs/\DatsAt K H vs ds
def DatsAt (K:aQ) (H:Hp):List V->List Dt->Prop
 | [],[]=>True
 | v::vs,d::ds=>qP K H v d/\DatsAt K H vs ds
 | _,_=>False
end
mutual
theorem Dt.beq_iff:∀(x y:Dt),Dt.beq x y=true↔x=y
 | .non,y=>by cases y <;> simp [Dt.beq]
 | .int i,y=>by cases y <;> simp [Dt.beq]
 | .str i,y=>by cases y <;> simp [Dt.beq]
 | .tup a,y=>by
   cases y with
   | tup b=>
     have:=Dt.beqs_iff a b
     simp [Dt.beq,this]
   | _=>simp [Dt.beq]
theorem Dt.beqs_iff:∀(x y:List Dt),Dt.beqs x y=true↔x=y
 | [],y=>by cases y <;> simp [Dt.beqs]
 | a::r,y=>by
   cases y with
   | nil=>simp [Dt.beqs]
   | cons b t=>
     have h1:=Dt.beq_iff a b
     have h2:=Dt.beqs_iff r t
     simp [Dt.beqs,h1,h2]
end
theorem Dt.beq_self (x:Dt):Dt.beq x x=true:=(Dt.beq_iff x x).mpr rfl
theorem Dt.beqs_ne {x y:List Dt} (h:x≠y):Dt.beqs x y=false:=by
 cases e:Dt.beqs x y with
 | false=>rfl
 | true=>exact absurd ((Dt.beqs_iff x y).mp e) h
theorem Dt.hgt_mem:∀ {ds:List Dt} {d:Dt},d∈ds->d.hgt<=Dt.hgts ds
 | e::r,d,h=>by
   have e1:Dt.hgts (e::r)=max (Dt.hgt e) (Dt.hgts r):=by simp [Dt.hgts]
   rw [e1]
   rcases aB.mp h with z | z
   ·rw [z];omega
   ·have:=Dt.hgt_mem z
    omega
section
variable {K:aQ} {H H' :Hp}
theorem qP.non:qP K H .non .non:=by simp [qP]
theorem qP.int (i:Int):qP K H (.int i) (.int i):=by simp [qP]
theorem qP.str (i:Str):qP K H (.str i) (.str i):=by simp [qP]
theorem qP.tup {r:aZ} {vs:List V} {ds:List Dt} (h:SqT K H r vs) (k:DatsAt K H vs ds):qP K H (.ref r) (.tup ds):=by
 simp only [qP]
 exact⟨r,vs,rfl,h,k⟩
theorem DatsAt.nil:DatsAt K H [] []:=by simp [DatsAt]
theorem DatsAt.cons {v:V} {d:Dt} {vs:List V} {ds:List Dt} (h:qP K H v d) (k:DatsAt K H vs ds):DatsAt K H (v::vs) (d::ds):=by
 simp only [DatsAt]
 exact⟨h,k⟩
theorem qP.un {v:V} {ds:List Dt} (h:qP K H v (.tup ds)):∃r vs,v= .ref r/\SqT K H r vs/\DatsAt K H vs ds:=by
 simp only [qP] at h
 exact h
theorem DatsAt.un {vs:List V} {d:Dt} {ds:List Dt} (h:DatsAt K H vs (d::ds)):∃v r,vs=v::r/\qP K H v d/\DatsAt K H r ds:=by
 cases vs with
 | nil=>simp [DatsAt] at h
 | cons v r=>
   simp only [DatsAt] at h
   exact⟨v,r,rfl,h.1,h.2⟩
theorem DatsAt.un0 {vs:List V} (h:DatsAt K H vs []):vs=[]:=by
 cases vs with
 | nil=>rfl
 | cons v r=>simp [DatsAt] at h
theorem DatsAt.length:∀ {vs:List V} {ds:List Dt},DatsAt K H vs ds->vs.length=ds.length
 | vs,[],h=>by rw [h.un0];rfl
 | vs,d::ds,h=>by
   obtain⟨v,r,rfl,_,h2⟩:=h.un
   simp [DatsAt.length h2]
theorem DatsAt.get:∀ {vs:List V} {ds:List Dt} {i:Nat} {d:Dt},DatsAt K H vs ds->ds[i]?=some d->∃v,vs[i]?=some v/\qP K H v d
 | vs,[],i,d,h,e=>by simp at e
 | vs,c::ds,i,d,h,e=>by
   obtain⟨v,r,rfl,h1,h2⟩:=h.un
   cases i with
   | zero=>
     have e' :c=d:=by simpa using e
     subst e'
     exact⟨v,rfl,h1⟩
   | succ i=>
     obtain⟨u,e1,e2⟩:=DatsAt.get (i:=i) (d:=d) h2 (by simpa using e)
     exact⟨u,by simpa using e1,e2⟩
end
theorem Dt.all_beqs:∀(a b:List Dt),((List.range (min a.length b.length)).all (fun j=>Dt.beq (a.getD j .non) (b.getD j .non)) && a.length == b.length)=Dt.beqs a b
 | [],[]=>by simp [Dt.beqs]
 | [],_::_=>by simp [Dt.beqs]
 | _::_,[]=>by simp [Dt.beqs]
 | x::a,y::b=>by
   have ih:=Dt.all_beqs a b
   have e:min (x::a).length (y::b).length=min a.length b.length + 1:=by simp
   rw [e,List.range_succ_eq_map]
   simp only [List.all_cons,List.all_map,Dt.beqs,aK]
   rw [←ih,Bool.and_assoc]
   congr 1
   congr 1
   rw [Bool.eq_iff_iff]
   simp
section
variable {X:Cx} {pins:List (aZ×Obj)} {σ:St} {H:Hp} {s:aJ}
mutual
theorem qP.inj (I:Inv X pins σ H s):∀ {v:V} {d e:Dt},qP X.K H v d->qP X.K H v e->d=e
 | v, .non,e,h,k=>by
   have h' :v= .non:=by simpa [qP] using h
   subst h'
   cases e <;> simp [qP] at k⊢
 | v, .int i,e,h,k=>by
   have h' :v= .int i:=by simpa [qP] using h
   subst h'
   cases e <;> simp [qP] at k⊢
   exact k
 | v, .str i,e,h,k=>by
   have h' :v= .str i:=by simpa [qP] using h
   subst h'
   cases e <;> simp [qP] at k⊢
   exact k
 | v, .tup ds,e,h,k=>by
   obtain⟨r,vs,rfl,h1,h2⟩:=h.un
   cases e with
   | tup es=>
     obtain⟨r',ws,e',k1,k2⟩:=k.un
     cases e'
     have:=I.tuple_inj h1 k1
     subst this
     rw [DatsAt.inj I h2 k2]
   | _=>simp [qP] at k
theorem DatsAt.inj (I:Inv X pins σ H s):∀ {vs:List V} {ds es:List Dt},DatsAt X.K H vs ds->DatsAt X.K H vs es->ds=es
 | vs,[],es,h,k=>by
   have:=h.un0
   subst this
   cases es with
   | nil=>rfl
   | cons _ _=>simp [DatsAt] at k
 | vs,d::ds,es,h,k=>by
   obtain⟨v,r,rfl,h1,h2⟩:=h.un
   cases es with
   | nil=>simp [DatsAt] at k
   | cons e es=>
     simp only [DatsAt] at k
     rw [qP.inj I h1 k.1,DatsAt.inj I h2 k.2]
end
theorem vVi {α:Type} {xs:List α} {i:Nat} {x d:α} (h:xs[i]?=some x):xs.getD i d=x:=by
 rw [cW,h]
 rfl
theorem qQa {A:bF} {vs ws:List V} {ds es:List Dt} {its its2:List Value} (h:DatsAt X.K H vs ds) (k:DatsAt X.K H ws es) (r1:Vals vs its) (r2:Vals ws its2)
  (ih:∀(d e:Dt) (x y:V) (u v:Value),d∈ds->qP X.K H x d->qP X.K H y e->RelV x u->RelV y v->fV A s u v (Dt.beq d e)) (j:Nat) (h1:j < its.toArray.size) (h2:j < its2.toArray.size):
  fV A s its.toArray[j] its2.toArray[j] (Dt.beq (ds.getD j .non) (es.getD j .non)):=by
 have l1:=r1.length
 have l2:=r2.length
 have m1:=h.length
 have m2:=k.length
 rw [bQ] at h1 h2
 have g1:ds[j]?=some ds[j]:=aF (by omega)
 have g2:es[j]?=some es[j]:=aF (by omega)
 obtain⟨x,ex,hx⟩:=h.get g1
 obtain⟨y,ey,hy⟩:=k.get g2
 obtain⟨u,eu,ru⟩:=r1.get ex
 obtain⟨v,ev,rv⟩:=r2.get ey
 have f1:its.toArray[j]=u:=by
  have:=(aT.mp eu).2
  simpa using this
 have f2:its2.toArray[j]=v:=by
  have:=(aT.mp ev).2
  simpa using this
 rw [f1,f2,vVi g1,vVi g2]
 exact ih _ _ x y u v (eY _) hx hy ru rv
theorem qQk {vs ws:List V} {ds es:List Dt} {its its2:List Value} (h:DatsAt X.K H vs ds) (k:DatsAt X.K H ws es) (r1:Vals vs its) (r2:Vals ws its2):
  ((List.range (min its.toArray.size its2.toArray.size)).all (fun j=>Dt.beq (ds.getD j .non) (es.getD j .non)) && its.toArray.size == its2.toArray.size)=Dt.beqs ds es:=by
 have l1:=r1.length
 have l2:=r2.length
 have m1:=h.length
 have m2:=k.length
 rw [←Dt.all_beqs,bQ,bQ,←l1,←l2,m1,m2]
theorem qVd (I:Inv X pins σ H s):∀(n:Nat) (A:bF) (d e:Dt) (x y:V) (u v:Value),d.hgt<=n->A.units + n < dC->qP X.K H x d->qP X.K H y e->RelV x u->RelV y v->fV A s u v (Dt.beq d e):=by
 intro n
 induction n with
 | zero=>
   intro A d e x y u v hd hu hx hy ru rv
   have hu' :A.units < dC:=by omega
   cases d with
   | non=>
     have hx' :x= .non:=by simpa [qP] using hx
     subst hx'
     cases(show u=Value.none from ru)
     cases e with
     | non=>
       have hy' :y= .non:=by simpa [qP] using hy
       subst hy'
       cases(show v=Value.none from rv)
       exact SeqAt.EqAt.same _
     | int j=>
       have hy' :y= .int j:=by simpa [qP] using hy
       subst hy'
       obtain⟨t,rfl⟩:=(show∃t,v=Value.int j t from rv)
       exact SeqAt.EqAt.none_int _ _
     | str j=>
       have hy' :y= .str j:=by simpa [qP] using hy
       subst hy'
       obtain⟨t,rfl⟩:=(show∃t,v=Value.str j t from rv)
       exact SeqAt.EqAt.none_str _ _
     | tup es=>
       obtain⟨r,ws,rfl,k1,k2⟩:=hy.un
       cases(show v=Value.ref r from rv)
       obtain⟨its,_,p,_⟩:=I.tuple k1
       exact SeqAt.EqAt.none_tuple p hu'
   | int i=>
     have hx' :x= .int i:=by simpa [qP] using hx
     subst hx'
     obtain⟨t,rfl⟩:=(show∃t,u=Value.int i t from ru)
     cases e with
     | non=>
       have hy' :y= .non:=by simpa [qP] using hy
       subst hy'
       cases(show v=Value.none from rv)
       exact SeqAt.EqAt.int_none _ _
     | int j=>
       have hy' :y= .int j:=by simpa [qP] using hy
       subst hy'
       obtain⟨t,rfl⟩:=(show∃t,v=Value.int j t from rv)
       exact SeqAt.EqAt.int_int _ _ _ _
     | str j=>
       have hy' :y= .str j:=by simpa [qP] using hy
       subst hy'
       obtain⟨t,rfl⟩:=(show∃t,v=Value.str j t from rv)
       exact SeqAt.EqAt.int_str _ _ _ _
     | tup es=>
       obtain⟨r,ws,rfl,k1,k2⟩:=hy.un
       cases(show v=Value.ref r from rv)
       obtain⟨its,_,p,_⟩:=I.tuple k1
       exact SeqAt.EqAt.int_tuple _ _ p hu'
   | str i=>
     have hx' :x= .str i:=by simpa [qP] using hx
     subst hx'
     obtain⟨t,rfl⟩:=(show∃t,u=Value.str i t from ru)
     cases e with
     | non=>
       have hy' :y= .non:=by simpa [qP] using hy
       subst hy'
       cases(show v=Value.none from rv)
       exact SeqAt.EqAt.str_none _ _
     | int j=>
       have hy' :y= .int j:=by simpa [qP] using hy
       subst hy'
       obtain⟨t,rfl⟩:=(show∃t,v=Value.int j t from rv)
       exact SeqAt.EqAt.str_int _ _ _ _
     | str j=>
       have hy' :y= .str j:=by simpa [qP] using hy
       subst hy'
       obtain⟨t,rfl⟩:=(show∃t,v=Value.str j t from rv)
       exact SeqAt.EqAt.str_str _ _ _ _
     | tup es=>
       obtain⟨r,ws,rfl,k1,k2⟩:=hy.un
       cases(show v=Value.ref r from rv)
       obtain⟨its,_,p,_⟩:=I.tuple k1
       exact SeqAt.EqAt.str_tuple _ _ p hu'
   | tup ds=>simp [Dt.hgt] at hd
 | succ n ih=>
   intro A d e x y u v hd hu hx hy ru rv
   have hu' :A.units < dC:=by omega
   by_cases hflat:d.hgt<=n
   ·exact ih A d e x y u v hflat (by omega) hx hy ru rv
   ·cases d with
    | tup ds=>
      have hds:Dt.hgts ds<=n:=by simpa [Dt.hgt] using hd
      obtain⟨a,vs,rfl,h1,h2⟩:=hx.un
      cases(show u=Value.ref a from ru)
      obtain⟨its,r1,p1,_⟩:=I.tuple h1
      cases e with
      | non=>
        have hy' :y= .non:=by simpa [qP] using hy
        subst hy'
        cases(show v=Value.none from rv)
        exact SeqAt.EqAt.tuple_none p1 hu'
      | int j=>
        have hy' :y= .int j:=by simpa [qP] using hy
        subst hy'
        obtain⟨t,rfl⟩:=(show∃t,v=Value.int j t from rv)
        exact SeqAt.EqAt.tuple_int _ _ p1 hu'
      | str j=>
        have hy' :y= .str j:=by simpa [qP] using hy
        subst hy'
        obtain⟨t,rfl⟩:=(show∃t,v=Value.str j t from rv)
        exact SeqAt.EqAt.tuple_str _ _ p1 hu'
      | tup es=>
        obtain⟨b,ws,rfl,k1,k2⟩:=hy.un
        cases(show v=Value.ref b from rv)
        obtain⟨its2,r2,p2,_⟩:=I.tuple k1
        by_cases hab:a=b
        ·subst hab
         have e1:Dt.tup ds=Dt.tup es:=qP.inj I hx hy
         rw [e1,Dt.beq_self]
         exact SeqAt.EqAt.same _
        ·have e2:Dt.beq (.tup ds) (.tup es)=Dt.beqs ds es:=by simp [Dt.beq]
         rw [e2,←qQk h2 k2 r1 r2]
         refine SeqAt.EqAt.of_refs hab (SeqAt.RcAt.tuples p1 p2 hu' fun j j1 j2=>qQa h2 k2 r1 r2 (fun d e x y u v hm q1 q2 q3 q4=>?_) j j1 j2)
         exact ih A.in1 d e x y u v (bT (Dt.hgt_mem hm) hds) (by show A.units + 1 + n < dC;omega) q1 q2 q3 q4
    | _=>exact absurd (cH n) (by simpa [Dt.hgt] using hflat)
def rEqD (K:aQ):R2:=fun x y H Q=>∃d e,qP K H x d/\qP K H y e/\d.hgt<=30/\Q (.bl (Dt.beq d e)) H
def rNeD (K:aQ):R2:=fun x y H Q=>∃d e,qP K H x d/\qP K H y e/\d.hgt<=30/\Q (.bl (!Dt.beq d e)) H
theorem zJ0 (hu:X.A.units + 64 < dC):OpR X (bM .Eq) (rEqD X.K):=by
 intro pins s σ H x y u v Q I ru rv h
 obtain⟨d,e,hx,hy,hd,q⟩:=h
 have hu' :X.A.units < dC:=by omega
 have fin:∀ {k:Bool},SeqAt.RcAt X.A s u v k->k=Dt.beq d e->aR (model X.prog X.w) X.A (bM .Eq u v) (EP X pins σ Q) X.xe s:=fun {k} r ek=>by
  subst ek
  exact r _ _ _ _ (qL I q rfl)
 cases d with
 | non=>
   have hx' :x= .non:=by simpa [qP] using hx
   subst hx'
   cases(show u=Value.none from ru)
   cases e with
   | non=>
     have hy' :y= .non:=by simpa [qP] using hy
     subst hy'
     cases(show v=Value.none from rv)
     exact fin SeqAt.RcAt.none_none rfl
   | int j=>
     have hy' :y= .int j:=by simpa [qP] using hy
     subst hy'
     obtain⟨t,rfl⟩:=(show∃t,v=Value.int j t from rv)
     exact fin (SeqAt.RcAt.none_int _ _) rfl
   | str j=>
     have hy' :y= .str j:=by simpa [qP] using hy
     subst hy'
     obtain⟨t,rfl⟩:=(show∃t,v=Value.str j t from rv)
     exact fin (SeqAt.RcAt.none_str _ _) rfl
   | tup es=>
     obtain⟨r,ws,rfl,k1,k2⟩:=hy.un
     cases(show v=Value.ref r from rv)
     obtain⟨its,_,p,_⟩:=I.tuple k1
     exact fin (SeqAt.RcAt.none_tuple p hu') rfl
 | int i=>
   have hx' :x= .int i:=by simpa [qP] using hx
   subst hx'
   obtain⟨t,rfl⟩:=(show∃t,u=Value.int i t from ru)
   cases e with
   | non=>
     have hy' :y= .non:=by simpa [qP] using hy
     subst hy'
     cases(show v=Value.none from rv)
     exact fin (SeqAt.RcAt.int_none _ _) rfl
   | int j=>
     have hy' :y= .int j:=by simpa [qP] using hy
     subst hy'
     obtain⟨t,rfl⟩:=(show∃t,v=Value.int j t from rv)
     exact fin (SeqAt.RcAt.int_int _ _ _ _) rfl
   | str j=>
     have hy' :y= .str j:=by simpa [qP] using hy
     subst hy'
     obtain⟨t,rfl⟩:=(show∃t,v=Value.str j t from rv)
     exact fin (SeqAt.RcAt.int_str _ _ _ _) rfl
   | tup es=>
     obtain⟨r,ws,rfl,k1,k2⟩:=hy.un
     cases(show v=Value.ref r from rv)
     obtain⟨its,_,p,_⟩:=I.tuple k1
     exact fin (SeqAt.RcAt.int_tuple _ _ p hu') rfl
 | str i=>
   have hx' :x= .str i:=by simpa [qP] using hx
   subst hx'
   obtain⟨t,rfl⟩:=(show∃t,u=Value.str i t from ru)
   cases e with
   | non=>
     have hy' :y= .non:=by simpa [qP] using hy
     subst hy'
     cases(show v=Value.none from rv)
     exact fin (SeqAt.RcAt.str_none _ _) rfl
   | int j=>
     have hy' :y= .int j:=by simpa [qP] using hy
     subst hy'
     obtain⟨t,rfl⟩:=(show∃t,v=Value.int j t from rv)
     exact fin (SeqAt.RcAt.str_int _ _ _ _) rfl
   | str j=>
     have hy' :y= .str j:=by simpa [qP] using hy
     subst hy'
     obtain⟨t,rfl⟩:=(show∃t,v=Value.str j t from rv)
     exact fin (SeqAt.RcAt.str_str _ _ _ _) rfl
   | tup es=>
     obtain⟨r,ws,rfl,k1,k2⟩:=hy.un
     cases(show v=Value.ref r from rv)
     obtain⟨its,_,p,_⟩:=I.tuple k1
     exact fin (SeqAt.RcAt.str_tuple _ _ p hu') rfl
 | tup ds=>
   obtain⟨a,vs,rfl,h1,h2⟩:=hx.un
   cases(show u=Value.ref a from ru)
   obtain⟨its,r1,p1,_⟩:=I.tuple h1
   cases e with
   | non=>
     have hy' :y= .non:=by simpa [qP] using hy
     subst hy'
     cases(show v=Value.none from rv)
     exact fin (SeqAt.RcAt.tuple_none p1 hu') rfl
   | int j=>
     have hy' :y= .int j:=by simpa [qP] using hy
     subst hy'
     obtain⟨t,rfl⟩:=(show∃t,v=Value.int j t from rv)
     exact fin (SeqAt.RcAt.tuple_int _ _ p1 hu') rfl
   | str j=>
     have hy' :y= .str j:=by simpa [qP] using hy
     subst hy'
     obtain⟨t,rfl⟩:=(show∃t,v=Value.str j t from rv)
     exact fin (SeqAt.RcAt.tuple_str _ _ p1 hu') rfl
   | tup es=>
     obtain⟨b,ws,rfl,k1,k2⟩:=hy.un
     cases(show v=Value.ref b from rv)
     obtain⟨its2,r2,p2,_⟩:=I.tuple k1
     refine fin (SeqAt.RcAt.tuples p1 p2 hu' fun j j1 j2=>qQa h2 k2 r1 r2 (fun d e x y u v hm q1 q2 q3 q4=>?_) j j1 j2) ((qQk h2 k2 r1 r2).trans (by simp [Dt.beq]))
     exact qVd I 30 X.A.in1 d e x y u v (bT (Dt.hgt_mem hm) (by simp [Dt.hgt] at hd;omega)) (by show X.A.units + 1 + 30 < dC;omega) q1 q2 q3 q4
theorem zJu (hu:X.A.units + 64 < dC):OpR X (bM .NotEq) (rNeD X.K):=by
 intro pins s σ H x y u v Q I ru rv h
 obtain⟨d,e,hx,hy,hd,q⟩:=h
 have hu' :X.A.units < dC:=by omega
 have fin:∀ {k:Bool},SeqAt.RcNeAt X.A s u v k->k= !Dt.beq d e->aR (model X.prog X.w) X.A (bM .NotEq u v) (EP X pins σ Q) X.xe s:=fun {k} r ek=>by
  subst ek
  exact r _ _ _ _ (qL I q rfl)
 cases d with
 | non=>
   have hx' :x= .non:=by simpa [qP] using hx
   subst hx'
   cases(show u=Value.none from ru)
   cases e with
   | non=>
     have hy' :y= .non:=by simpa [qP] using hy
     subst hy'
     cases(show v=Value.none from rv)
     exact fin SeqAt.RcNeAt.none_none rfl
   | int j=>
     have hy' :y= .int j:=by simpa [qP] using hy
     subst hy'
     obtain⟨t,rfl⟩:=(show∃t,v=Value.int j t from rv)
     exact fin (SeqAt.RcNeAt.none_int _ _) rfl
   | str j=>
     have hy' :y= .str j:=by simpa [qP] using hy
     subst hy'
     obtain⟨t,rfl⟩:=(show∃t,v=Value.str j t from rv)
     exact fin (SeqAt.RcNeAt.none_str _ _) rfl
   | tup es=>
     obtain⟨r,ws,rfl,k1,k2⟩:=hy.un
     cases(show v=Value.ref r from rv)
     obtain⟨its,_,p,_⟩:=I.tuple k1
     exact fin (SeqAt.RcNeAt.none_tuple p hu') rfl
 | int i=>
   have hx' :x= .int i:=by simpa [qP] using hx
   subst hx'
   obtain⟨t,rfl⟩:=(show∃t,u=Value.int i t from ru)
   cases e with
   | non=>
     have hy' :y= .non:=by simpa [qP] using hy
     subst hy'
     cases(show v=Value.none from rv)
     exact fin (SeqAt.RcNeAt.int_none _ _) rfl
   | int j=>
     have hy' :y= .int j:=by simpa [qP] using hy
     subst hy'
     obtain⟨t,rfl⟩:=(show∃t,v=Value.int j t from rv)
     exact fin (SeqAt.RcNeAt.int_int _ _ _ _) rfl
   | str j=>
     have hy' :y= .str j:=by simpa [qP] using hy
     subst hy'
     obtain⟨t,rfl⟩:=(show∃t,v=Value.str j t from rv)
     exact fin (SeqAt.RcNeAt.int_str _ _ _ _) rfl
   | tup es=>
     obtain⟨r,ws,rfl,k1,k2⟩:=hy.un
     cases(show v=Value.ref r from rv)
     obtain⟨its,_,p,_⟩:=I.tuple k1
     exact fin (SeqAt.RcNeAt.int_tuple _ _ p hu') rfl
 | str i=>
   have hx' :x= .str i:=by simpa [qP] using hx
   subst hx'
   obtain⟨t,rfl⟩:=(show∃t,u=Value.str i t from ru)
   cases e with
   | non=>
     have hy' :y= .non:=by simpa [qP] using hy
     subst hy'
     cases(show v=Value.none from rv)
     exact fin (SeqAt.RcNeAt.str_none _ _) rfl
   | int j=>
     have hy' :y= .int j:=by simpa [qP] using hy
     subst hy'
     obtain⟨t,rfl⟩:=(show∃t,v=Value.int j t from rv)
     exact fin (SeqAt.RcNeAt.str_int _ _ _ _) rfl
   | str j=>
     have hy' :y= .str j:=by simpa [qP] using hy
     subst hy'
     obtain⟨t,rfl⟩:=(show∃t,v=Value.str j t from rv)
     exact fin (SeqAt.RcNeAt.str_str _ _ _ _) rfl
   | tup es=>
     obtain⟨r,ws,rfl,k1,k2⟩:=hy.un
     cases(show v=Value.ref r from rv)
     obtain⟨its,_,p,_⟩:=I.tuple k1
     exact fin (SeqAt.RcNeAt.str_tuple _ _ p hu') rfl
 | tup ds=>
   obtain⟨a,vs,rfl,h1,h2⟩:=hx.un
   cases(show u=Value.ref a from ru)
   obtain⟨its,r1,p1,_⟩:=I.tuple h1
   cases e with
   | non=>
     have hy' :y= .non:=by simpa [qP] using hy
     subst hy'
     cases(show v=Value.none from rv)
     exact fin (SeqAt.RcNeAt.tuple_none p1 hu') rfl
   | int j=>
     have hy' :y= .int j:=by simpa [qP] using hy
     subst hy'
     obtain⟨t,rfl⟩:=(show∃t,v=Value.int j t from rv)
     exact fin (SeqAt.RcNeAt.tuple_int _ _ p1 hu') rfl
   | str j=>
     have hy' :y= .str j:=by simpa [qP] using hy
     subst hy'
     obtain⟨t,rfl⟩:=(show∃t,v=Value.str j t from rv)
     exact fin (SeqAt.RcNeAt.tuple_str _ _ p1 hu') rfl
   | tup es=>
     obtain⟨b,ws,rfl,k1,k2⟩:=hy.un
     cases(show v=Value.ref b from rv)
     obtain⟨its2,r2,p2,_⟩:=I.tuple k1
     refine fin (SeqAt.RcNeAt.tuples p1 p2 hu' fun j j1 j2=>qQa h2 k2 r1 r2 (fun d e x y u v hm q1 q2 q3 q4=>?_) j j1 j2) (congrArg not ((qQk h2 k2 r1 r2).trans (by simp [Dt.beq])))
     exact qVd I 30 X.A.in1 d e x y u v (bT (Dt.hgt_mem hm) (by simp [Dt.hgt] at hd;omega)) (by show X.A.units + 1 + 30 < dC;omega) q1 q2 q3 q4
theorem qYt {vs ws:List V} {ds es:List Dt} {its its2:List Value} (h:DatsAt X.K H vs ds) (k:DatsAt X.K H ws es) (r1:Vals vs its) (r2:Vals ws its2) (hsz:its.toArray.size=its2.toArray.size):
  (List.range its.toArray.size).all (fun j=>Dt.beq (ds.getD j .non) (es.getD j .non))=Dt.beqs ds es:=by
 have e:=qQk h k r1 r2
 rw [hsz,Nat.min_self,beq_self_eq_true,Bool.and_true] at e
 rw [hsz]
 exact e
theorem qYs {vs ws:List V} {ds es:List Dt} {its its2:List Value} (h:DatsAt X.K H vs ds) (k:DatsAt X.K H ws es) (r1:Vals vs its) (r2:Vals ws its2) (hsz:its.toArray.size≠its2.toArray.size):Dt.beqs ds es=false:=by
 refine Dt.beqs_ne fun z=>hsz ?_
 have l1:=r1.length
 have l2:=r2.length
 have m1:=h.length
 have m2:=k.length
 rw [z] at m1
 rw [bQ,bQ]
 omega
def rEqL (K:aQ):R2:=fun x y H Q=>∃a b vs ws ds es,x= .ref a/\y= .ref b/\SqL K H a vs/\SqL K H b ws/\DatsAt K H vs ds/\DatsAt K H ws es/\Dt.hgts ds<=30/\Q (.bl (Dt.beqs ds es)) H
def rNeL (K:aQ):R2:=fun x y H Q=>∃a b vs ws ds es,x= .ref a/\y= .ref b/\SqL K H a vs/\SqL K H b ws/\DatsAt K H vs ds/\DatsAt K H ws es/\Dt.hgts ds<=30/\Q (.bl (!Dt.beqs ds es)) H
theorem zJz (hu:X.A.units + 64 < dC):OpR X (bM .Eq) (rEqL X.K):=by
 intro pins s σ H x y u v Q I ru rv h
 obtain⟨a,b,vs,ws,ds,es,rfl,rfl,ha,hb,h2,k2,hd,q⟩:=h
 have hu' :X.A.units < dC:=by omega
 cases(show u=Value.ref a from ru)
 cases(show v=Value.ref b from rv)
 obtain⟨its,r1,p1,_⟩:=I.list ha
 obtain⟨its2,r2,p2,_⟩:=I.list hb
 by_cases hsz:its.toArray.size=its2.toArray.size
 ·have r:=SeqAt.RcAt.lists p1.isList p2.isList hsz hu' fun j j1 j2=>qQa h2 k2 r1 r2 (fun d e x y u v hm q1 q2 q3 q4=>
   qVd I 30 X.A.in1 d e x y u v (bT (Dt.hgt_mem hm) hd) (by show X.A.units + 1 + 30 < dC;omega) q1 q2 q3 q4) j j1 j2
  rw [qYt h2 k2 r1 r2 hsz] at r
  exact r _ _ _ _ (qL I q rfl)
 ·have r:=SeqAt.RcAt.lists_lengths p1.isList p2.isList (by simpa using hsz) hu'
  rw [qYs h2 k2 r1 r2 hsz] at q
  exact r _ _ _ _ (qL I q rfl)
theorem zJt (hu:X.A.units + 64 < dC):OpR X (bM .NotEq) (rNeL X.K):=by
 intro pins s σ H x y u v Q I ru rv h
 obtain⟨a,b,vs,ws,ds,es,rfl,rfl,ha,hb,h2,k2,hd,q⟩:=h
 have hu' :X.A.units < dC:=by omega
 cases(show u=Value.ref a from ru)
 cases(show v=Value.ref b from rv)
 obtain⟨its,r1,p1,_⟩:=I.list ha
 obtain⟨its2,r2,p2,_⟩:=I.list hb
 by_cases hsz:its.toArray.size=its2.toArray.size
 ·have r:=SeqAt.RcNeAt.lists p1.isList p2.isList hsz hu' fun j j1 j2=>qQa h2 k2 r1 r2 (fun d e x y u v hm q1 q2 q3 q4=>
   qVd I 30 X.A.in1 d e x y u v (bT (Dt.hgt_mem hm) hd) (by show X.A.units + 1 + 30 < dC;omega) q1 q2 q3 q4) j j1 j2
  rw [qYt h2 k2 r1 r2 hsz] at r
  exact r _ _ _ _ (qL I q rfl)
 ·have r:=SeqAt.RcNeAt.lists_lengths p1.isList p2.isList (by simpa using hsz) hu'
  rw [qYs h2 k2 r1 r2 hsz] at q
  exact r _ _ _ _ (qL I q rfl)
theorem vJd:zZ X (.builtin "isinstance") (fun xs H Q=>∃a vs n b,xs=[.ref a, .ty n]/\SqT X.K H a vs/\cE X.K (.type "tuple") (.type n)=some b/\Q (.bl b) H):=by
 intro pins s σ H xs us Q I r h
 obtain⟨a,vs,n,b,rfl,ht,e,q⟩:=h
 obtain⟨u,w',rfl,r1,r2⟩:=vQf r
 cases(show u=Value.ref a from r1)
 cases(show w' =Value.type n from r2)
 obtain⟨its,_,⟨o,h1,h2,_⟩,_⟩:=I.tuple ht
 exact cD PySem.W.kitx_tuple I.kIn ⟨o,h1,h2⟩ e (fun z=>nomatch z) fun tk=>⟨.bl b,H,I.tok tk,rfl,q⟩
end
theorem map_get {α β:Type} {f:α->β} {xs:List α} {i:Nat} {y:β} (h:(xs.map f)[i]?=some y):∃x,xs[i]?=some x/\f x=y:=by
 rw [bP] at h
 cases e:xs[i]? with
 | none=>rw [e] at h;cases h
 | some x=>rw [e] at h;exact⟨x,rfl,Option.some.inj h⟩
end L2
namespace L2
open PySem PySem.Spec PySem.W PyProof.Rows
def EsAt (h:Heap) (d:aZ) (es:Array DictEntry) (ep:Nat):Prop:=∃o,h.get? d=some o/\o.ExactDict/\o.data= .dict es ep
theorem EsAt.on {h h' :Heap} {d:aZ} {es:Array DictEntry} {ep:Nat} (x:EsAt h d es ep) (k:∀o,h.get? d=some o->h'.get? d=some o):EsAt h' d es ep:=let ⟨o,e,r⟩:=x;⟨o,k o e,r⟩
section
variable {prog:aH} {w:bJ} {A:bF} {E:Value->aJ->Prop} {s:aJ} {d it:aZ} {es:Array DictEntry} {ep i:Nat}
theorem vVn {Q:Value->aJ->Prop} (far:(d == eV)=false) (m:EsAt s.heap d es ep)
  (q:Q (.ref s.heap.objs.size) {s with heap:=s.heap.push {cls:= .type "dict_keyiterator",data:= .fields #[.ref d, .int 0 0, .int es.size 0, .int ep 0]}}):aR (model prog w) A (pyIter (.ref d)) Q E s:=by
 obtain⟨o,e1,e2,e3⟩:=m
 have hT:s.TypeIs (.ref d) "dict":=⟨o,e1,e2.1⟩
 refine wpAny_pyIter_slot hT F.slot_dict_iter (dS F.slot_dict_iter hT F.entry_dict_iter ?_ (F.args_dict_iter_1 _))
 unfold Builtin.«dict.__iter__» Builtin.Dict.dictSlotNone
 refine aV (aV (wpAny_notOrdered_dict hT (aW ?_)))
 show aR _ _ (Builtin.Dict.showsAll d >>=_) _ _ s
 unfold Builtin.Dict.showsAll
 rw [if_neg (by rw [far];exact aA)]
 refine aV (aW (aV (wpAny_dictEntries e1 e3 (aV (wpAny_dictEpoch e1 e3 (aV (cB (aW ?_))))))))
 exact⟨_,rfl,"dict_keyiterator",_,⟨_,aL _ rfl,rfl⟩,dG.lookup,by simpa [rawInt] using q⟩
theorem vVm {Q:Option Value->aJ->Prop} (hit:s.heap.IsKeyIter it d i es.size ep) (m:EsAt s.heap d es ep) (hi:i < es.size)
  (q:∀h',h'.IsKeyIter it d (i + 1) es.size ep->eB it s.heap h' ->Q (some es[i].key) {s with heap:=h' }):aR (model prog w) A (pyNext (.ref it)) Q E s:=by
 obtain⟨o,ho,hc,hd⟩:=id hit
 obtain⟨od,e1,e2,e3⟩:=m
 have own:¬(Builtin.Dict_items.ownsTuple "dict_keyiterator"=true):=by decide
 unfold pyNext
 refine aV (wpAny_attempt (wpAny_callSpecial?_slot (name:=cY "__next__") hit.typeIs dG (dS dG hit.typeIs F.entry_dict_keyiterator_next ?_ (F.args_dict_keyiterator_next_1 _))))
 refine aV (aW (aV (aV (aV (eI hit.typeIs (aW (aV (wpAny_fieldsOf ho hd ?_))))))))
 rw [if_neg own]
 show aR _ _ (if(Value.ref d == Value.none)=true then _ else _) _ _ s
 rw [if_neg (show¬((Value.ref d == Value.none)=true) from aA)]
 refine aV (aW (aV (wpAny_dictEntries e1 e3 ?_)))
 rw [if_neg (by simp)]
 refine aV (aW (aV (wpAny_dictEpoch e1 e3 ?_)))
 rw [if_neg (by simp)]
 refine aW ?_
 have neg:¬((i:Int) < 0):=by omega
 simp only [neg,if_false,Int.toNat_natCast,cU hi]
 refine aV (aV (eI hit.typeIs (aW (aV (wpAny_isOneOf_keyiter hit.typeIs ?_)))))
 show aR _ _ (setField (.ref it) 1 (rawInt ((i:Int) + 1)) >>=_) _ _ s
 refine aV (wpAny_setField ho hd (by simp) ?_)
 have next:(s.heap.update it (Obj.mapFields (·.setIfInBounds 1 (rawInt ((i:Int) + 1))))).IsKeyIter it d (i + 1) es.size ep:=by
  refine⟨_,dO _ ho (Obj.isFreed_of_fields (Obj.data_mapFields hd _)),(Obj.cls_mapFields ..).trans hc,?_⟩
  rw [Obj.data_mapFields hd]
  simp [rawInt]
 refine aV (dD (aV (wpAny_isOneOf_keyiter (s:={s with heap:=s.heap.update it (Obj.mapFields (·.setIfInBounds 1 (rawInt ((i:Int) + 1))))}) next.typeIs ?_)))
 show aR _ _ (pure es[i].key) _ _ _
 exact aW (aW ⟨_,rfl,aW (q _ next (eQ ..))⟩)
theorem vWu {Q:Option Value->aJ->Prop} (hh:A.handled=none) (hit:s.heap.IsKeyIter it d i es.size ep) (m:EsAt s.heap d es ep) (hi:es.size<=i)
  (q:∀h',Heap.ExtBut it s.heap h' ->Q none {s with heap:=h' }):aR (model prog w) A (pyNext (.ref it)) Q E s:=by
 obtain⟨o,ho,hc,hd⟩:=id hit
 obtain⟨od,e1,e2,e3⟩:=m
 have own:¬(Builtin.Dict_items.ownsTuple "dict_keyiterator"=true):=by decide
 unfold pyNext
 refine aV (wpAny_attempt (wpAny_callSpecial?_slot (name:=cY "__next__") hit.typeIs dG (dS dG hit.typeIs F.entry_dict_keyiterator_next ?_ (F.args_dict_keyiterator_next_1 _))))
 refine aV (aW (aV (aV (aV (eI hit.typeIs (aW (aV (wpAny_fieldsOf ho hd ?_))))))))
 rw [if_neg own]
 show aR _ _ (if(Value.ref d == Value.none)=true then _ else _) _ _ s
 rw [if_neg (show¬((Value.ref d == Value.none)=true) from aA)]
 refine aV (aW (aV (wpAny_dictEntries e1 e3 ?_)))
 rw [if_neg (by simp)]
 refine aV (aW (aV (wpAny_dictEpoch e1 e3 ?_)))
 rw [if_neg (by simp)]
 refine aW ?_
 have neg:¬((i:Int) < 0):=by omega
 simp only [neg,if_false,Int.toNat_natCast,Array.getElem?_eq_none hi]
 refine aV (aV (eI hit.typeIs (aW ?_)))
 show aR _ _ (setField (.ref it) 0 .none >>=_) _ _ s
 refine aV (wpAny_setField ho hd (by simp) ?_)
 show aR _ _ (newExc (.type "StopIteration") [] >>=_) _ _ _
 refine aV ?_
 simp only [newExc,newTuple]
 refine aV (cB (aV (m:=firstArgMember _ _) (wpAny_of_eq (a:=Value.none) (by first | rfl | (simp only [firstArgMember];rfl)) (cB ?_ (by size_fits)))) (by size_fits))
 simp only [raiseNew]
 refine aV (wpAny_handled ?_)
 rw [show A.in1.handled=none from hh]
 refine aV (aW (wpAny_throw ?_))
 refine aV (wpAny_isInstance (T:="StopIteration") (b:=true) ⟨_,aL _ rfl,rfl⟩ isSubtype_stop ?_)
 exact aW (q _ (((eQ ..).extBut.push _).push _))
theorem vYm (hh:A.handled=none) (I d:aZ) (hne:d≠I) (es:Array DictEntry) (ep:Nat):
  Walks prog w A I [I,d] [I] es.size (fun i v=>∃e,es[i]?=some e/\v=e.key) (fun i h=>h.IsKeyIter I d i es.size ep/\EsAt h d es ep) where
 sub:=fun b hb=>by simp at hb;simp [hb]
 frame:=fun _ _ _ st hk=>⟨st.1.at fun o e=>hk I (by simp) o e,st.2.on fun o e=>hk d (by simp) o e⟩
 item:=fun i s Q E hi st hQ=>by
  refine vVm st.1 st.2 hi fun h' n' hs=>hQ _ h' s.toks ⟨es[i],by simp [hi],rfl⟩ ⟨n',st.2.on fun o e=>hs.extBut d o hne e⟩ fun b o hb e=>hs.extBut b o (fun h=>hb (by simp [h])) e
 done:=fun s Q E st hQ=>vWu hh st.1 st.2 (aG _) fun h' he' =>hQ h' s.toks fun b o hb e=>he' b o (fun h=>hb (by simp [h])) e
 self:=fun _ _ _ _ st hQ=>wpAny_pyIter_keyiter st.1 hQ
theorem zWt (far:(d == eV)=false):KdlSrc prog w "dict" d d es.size (fun i v=>∃e,es[i]?=some e/\v=e.key) (fun h=>EsAt h d es ep) where
 type:=fun _ m=>let ⟨o,e1,e2,_⟩:=m;⟨o,e1,e2.1⟩
 there:=fun _ m=>let ⟨o,e1,_⟩:=m;⟨aD e1,aD e1⟩
 keep:=fun _ _ m hk=>m.on fun o e=>hk d (.inl rfl) o e
 notList:=by decide
 notTuple:=by decide
 hint:=fun _ _ _ _ m hq=>kdl_hint_dict (let ⟨o,e1,e2,_⟩:=m;⟨o,e1,e2.1⟩) hq
 iter:=fun _ _ hh m=>⟨_,_,(fun _ _ hq=>vVn far m hq),vYm hh _ d (let ⟨o,e1,_⟩:=m;bZ (aD e1)) es ep,⟨⟨_,aL _ rfl,rfl,rfl⟩,m.on fun o e=>aX _ e⟩⟩
end
section
variable {X:Cx} {pins:List (aZ×Obj)} {σ:L2.St} {H:Hp} {s:aJ}
theorem qWu {a:aZ} {xs:List V} (I:Inv X pins σ H s) (h:H a=some (.lst xs)):∃(its:List Value) (n:Nat),Vals xs its/\s.heap.get? a=some (seqObj "list" its.toArray n)/\xs.length<=bX:=by
 obtain⟨z,its,n,r,e⟩:=(show vJ X.prog X.w H s.heap a (.lst xs) from I.hok a _ h)
 exact⟨its,n,r,e,z⟩
theorem qW7 {a:aZ} {xs ys:List V} {its its2:List Value} {n t' :Nat} (I:Inv X pins σ H s) (h:H a=some (.lst xs)) (e:s.heap.get? a=some (seqObj "list" its.toArray n)) (r:Vals ys its2) (z:ys.length<=bX):
  Inv X pins σ (upd H a (.lst ys)) {s with heap:=s.heap.update a (Obj.mapSeq fun _=>its2.toArray),toks:=t' }:=by
 obtain⟨c,hc⟩:∃c,(s.heap.update a (Obj.mapSeq fun _=>its2.toArray)).get? a=some (seqObj "list" its2.toArray c):=⟨_,get?_update_seq e fun _=>its2.toArray⟩
 exact I.write (x:=a) (e:=a) (by rw [h];exact True.intro) (.inl rfl) (fun b q hb z=>((eQ s.heap a _).2 b hb).trans z) ⟨_,hc⟩ ⟨z,its2,c,r,hc⟩
theorem vXg {K:aQ} {H:Hp} {a r:aZ} {o:HO} {vs:List V} (n1:∀xs,H a≠some (.tup xs)) (n2:∀q xs,H a≠some (.frz q (.tup xs))) (h:SqT K H r vs):SqT K (upd H a o) r vs:=by
 rcases h with(h | ⟨q,h⟩) | h
 ·exact .inl (.inl (by rw [qU (fun z=>n1 _ (z▸h))];exact h))
 ·exact .inl (.inr ⟨q,by rw [qU (fun z=>n2 _ _ (z▸h))];exact h⟩)
 ·exact .inr h
end
def LexP (X:Cx) (A:bF) (E:Value->aJ->Prop) (fin:Bool) (Q:Value->aJ->Prop):List (Value×Value)->aJ->Prop
 | [],s=>Q (.bool fin) s
 | (x,y)::r,s=>∃e,fV A s x y e/\(e=true->LexP X A E fin Q r s)/\(e=false->aR (model X.prog X.w) A (richCompare .Lt x y) Q E s)
section
variable {X:Cx} {A:bF} {E:Value->aJ->Prop} {s:aJ} {Q:Value->aJ->Prop}
theorem vW8 {a b:aZ} {oa ob:Obj} {xs ys:List Value} {na nb:Nat} (ha:s.heap.get? a=some oa) (_ca:oa.cls= .type "tuple") (da:oa.data= .seq xs.toArray na) (hb:s.heap.get? b=some ob) (cb:ob.cls= .type "tuple") (db:ob.data= .seq ys.toArray nb)
  (h:LexP X A E (decide (xs.length < ys.length)) Q (xs.zip ys) s):
  aR (model X.prog X.w) A (Builtin.«tuple.__lt__» ⟨[.ref a, .ref b],[]⟩) (fun fin s' =>∃v,fin= .done (.ret v)/\Q v s') E s:=by
 show aR _ _ (isInstance (.ref b) (.type "tuple") >>=_) _ _ s
 refine aV (wpAny_isInstance ⟨ob,hb,cb⟩ isSubtype_tuple_tuple ?_)
 rw [if_neg (by simp)]
 refine aV (wpAny_tupleItemsOf ha da (aV (wpAny_tupleItemsOf hb db (aV ?_))))
 refine wpAny_forIn_list _ (fun rest r s' =>r.1=none/\s' =s/\LexP X A E (decide (xs.length < ys.length)) Q rest s) _ ?_ ?_ _ _ ⟨rfl,rfl,h⟩
 ·rintro⟨x,y⟩ rest r s' ⟨hr,rfl,e,he,h1,h2⟩
  refine aV (he _ _ _ _ ?_)
  cases e with
  | true=>
    rw [if_neg (by simp)]
    exact aW ⟨rfl,rfl,h1 rfl⟩
  | false=>
    rw [if_pos (by simp)]
    refine aV (wpAny_rule (aV (dB (h2 rfl) (fun v s2 q=>?_) fun _ _ z=>z)))
    exact aV (aW (aW (aW ⟨v,rfl,q⟩)))
 ·rintro⟨r1,r2⟩ s' ⟨hr,rfl,q⟩
  simp only at hr
  subst hr
  exact aW ⟨_,rfl,by simpa [Builtin.Tuple.tupleCompareSizes,LexP] using q⟩
end
def vZ (ns:List Int):List Int:=firstMet (fun i=>ns.getD i 0) ns.length
theorem qK0 (ns:List Int):(List.range ns.length).map (fun i=>ns.getD i 0)=ns:=by
 refine List.ext_getElem (by simp) fun i h1 h2=>?_
 simp [aF h2]
theorem qQl (ns:List Int) (k:Int):k∈vZ ns↔k∈ns:=by
 have h:=firstMet_any (fun i=>ns.getD i 0) ns.length k
 rw [qK0] at h
 have e:∀l:List Int,l.any (· == k)=true↔k∈l:=fun l=>by
  rw [List.any_eq_true]
  exact⟨fun⟨x,hx,z⟩=>(by simpa using z:x=k)▸hx,fun z=>⟨k,z,by simp⟩⟩
 rw [←e,←e]
 unfold vZ
 rw [h]
theorem qV5 (ns:List Int):(vZ ns).Nodup:=by
 unfold vZ firstMet
 have:∀(l acc:List Int),acc.Nodup->(l.foldl step_dedup acc).Nodup:=fun l=>by
  induction l with
  | nil=>intro acc h;exact h
  | cons x l ih=>
    intro acc h
    refine ih _ ?_
    unfold step_dedup
    split
    ·exact h
    ·rename_i hn
     rw [cF]
     refine⟨h,cN _ _,fun a ha b hb z=>?_⟩
     cases aS.mp hb
     subst z
     exact hn (List.any_eq_true.mpr ⟨a,ha,by simp⟩)
 exact this _ _ dW
end L2
namespace L2
open PySem PySem.Spec PyProof.Rows
def ObO (a:aZ) (o:Obj):HO:= .ext fun h=>h.get? a=some o
section
variable {P:aH} {w:bJ} {H H' :Hp} {h h' :Heap} {a:aZ} {o:Obj}
theorem qX9 (e:h.get? a=some o):vJ P w H h a (ObO a o):=⟨e,⟨o,e⟩,fun _ _ e1 k=>k _ e1⟩
theorem xP (x:HOk P w H h) (e:H a=some (ObO a o)):h.get? a=some o:=(show vJ P w H h a (ObO a o) from x a _ e).1
def hid (H:Hp) (cs:List aZ):Hp:=fun b=>if b∈cs then none else H b
def back (H H' :Hp) (cs:List aZ):Hp:=fun b=>if b∈cs then H b else H' b
theorem qQy {cs:List aZ} {b:aZ} (m:b∈cs):hid H cs b=none:=if_pos m
theorem wD {cs:List aZ} {b:aZ} (m:b∉cs):hid H cs b=H b:=if_neg m
theorem qXg {cs:List aZ} {b:aZ} (m:b∈cs):back H H' cs b=H b:=if_pos m
theorem jS {cs:List aZ} {b:aZ} (m:b∉cs):back H H' cs b=H' b:=if_neg m
def Obs (H:Hp) (cs:List aZ):Prop:=∀c∈cs,∃o,H c=some (ObO c o)
theorem Obs.no {cs:List aZ} (x:Obs H cs) {b:aZ} {u:HO} (e:H b=some u) (hu:∀φ,u≠ .ext φ):b∉cs:=fun m=>by
 obtain⟨o,z⟩:=x b m
 rw [e] at z
 cases z
 exact hu _ rfl
theorem vWs {cs:List aZ} (x:Obs H cs) (k:HOk P w H h):HOk P w (hid H cs) h:=fun a u e=>by
 have na:a∉cs:=fun m=>by rw [qQy m] at e;cases e
 rw [wD na] at e
 refine(k a u e).stay (fun _ _ _ z=>z) (fun b z=>?_) fun b xs z=>?_
 ·rw [wD (x.no z fun _ y=>nomatch y)];exact z
 ·rw [wD (x.no z fun _ y=>nomatch y)];exact z
theorem qQb {cs:List aZ} {b:aZ} (e:H b=none):hid H cs b=none:=by
 by_cases m:b∈cs
 ·exact qQy m
 ·rw [wD m];exact e
theorem zQy {K:aQ} {mg:Str->Option Value} {base:Heap} {A:bF} {outer:List Env} {s:aJ} {cs:List aZ} (x:Obs H cs) (e:Env0 P w K mg base A outer s H):Env0 P w K mg base A outer s (hid H cs):=
 ⟨e.frames,e.mod,fun b o z=>⟨(e.bs b o z).1,qQb (e.bs b o z).2⟩,e.bsz,e.funs,fun b z=>qQb (e.frf b z),vWs x e.hok,e.bare⟩
theorem zVk {fs cs:List aZ} (x:Obs H cs) (nf:∀c∈cs,c∉fs) (u:Un fs [] (hid H cs) H' h h') (k:HOk P w H h) (k' :HOk P w H' h'):Un fs [] H (back H H' cs) h h' /\HOk P w (back H H' cs) h' :=by
 have ex:∀c∈cs,∃o,h.get? c=some o/\H c=some (ObO c o):=fun c m=>by
  obtain⟨o,z⟩:=x c m
  exact⟨o,xP k z,z⟩
 have out:∀ {b:aZ} {v:HO},H' b=some v->b∉cs:=fun {b v} e m=>by
  obtain⟨o,z,_⟩:=ex b m
  rw [u.free b o z (qQy m) (by simp)] at e
  cases e
 refine⟨⟨fun b o e n hb hx=>u.keep b o e (qQb n) hb hx,fun b o e n hb hx=>u.slot b o e (qQb n) hb hx,fun b o e n hx=>?_,u.there,fun b xs e=>?_,fun b o v e=>?_,fun b ps e=>?_⟩,fun a v e=>?_⟩
 ·by_cases m:b∈cs
  ·rw [qXg m];exact n
  ·rw [jS m];exact u.free b o e (qQb n) hx
 ·have m:=x.no e fun _ y=>nomatch y
  rw [jS m]
  exact u.tups b xs (by rw [wD m];exact e)
 ·have m:=x.no e fun _ y=>nomatch y
  rw [jS m]
  exact u.frzs b o v (by rw [wD m];exact e)
 ·have m:=x.no e fun _ y=>nomatch y
  rw [jS m]
  exact u.tbls b ps (by rw [wD m];exact e)
 ·by_cases m:a∈cs
  ·rw [qXg m] at e
   obtain⟨o,z,y⟩:=ex a m
   rw [y] at e
   cases e
   exact qX9 (u.keep a o z (qQy m) (nf a m) (by simp))
  ·rw [jS m] at e
   refine(k' a v e).stay (fun _ _ _ z=>z) (fun b z=>?_) fun b xs z=>?_
   ·rw [jS (out z)];exact z
   ·rw [jS (out z)];exact z
end
def qJ3 (P:aH) (w:bJ) (K:aQ) (mg:Str->Option Value) (base:Heap) (N ps:List Str) (qual:Str) (scope:Scope) (f:aZ) (cd:Value) (cl:List (Str×aZ)) (A:bF) (outer:List Env) (s:aJ) (H:Hp):Cx where
 prog:=P
 w:=w
 K:=K
 mg:=mg
 base:=base
 A:=A.deeper (PySem.W.envX qual scope s.heap.objs.size f cd cl)
 N:=N
 s₀:=s
 H₀:=H
 env:=PySem.W.envX qual scope s.heap.objs.size f cd cl
 outer:=outer
 stack:=PySem.W.envX qual scope s.heap.objs.size f cd cl::outer
 ex:=[]
 calm:=true
 fn:=fun x=>decide (x∈ps)
 pn:=[]
 xe:=fun _ _=>False
structure LmScope (N ps:List Str) (scope:Scope) (cl:List (Str×aZ)):Prop where
 kind:scope.kind= .function
 co:scope.isCoroutine=false
 gen:scope.isGenerator=false
 nd:N.Nodup
 eq:N=ps ++ cl.map (·.1)
 par:∀x∈ps,scope.names.lookup x=some .local
 nocell:∀y∈scope.names,y.2≠ .cell
 free:∀x,scope.names.lookup x=some .free->x∈cl.map (·.1)
 isfree:∀x∈cl.map (·.1),scope.names.lookup x=some .free
 inj:cl.Pairwise fun x y=>x.2≠y.2
inductive CapsAt (H:Hp):List (Str×aZ)->List V->Prop
 | nil:CapsAt H [] []
 | cons {x:Str} {c:aZ} {o:Obj} {u:Value} {v:V} {cl:List (Str×aZ)} {vs:List V} (e:H c=some (ObO c o)) (d:o.data= .cell (some u)) (r:RelV v u) (t:CapsAt H cl vs):CapsAt H ((x,c)::cl) (v::vs)
theorem CapsAt.obs {H:Hp}:∀ {cl:List (Str×aZ)} {vs:List V},CapsAt H cl vs->Obs H (cl.map (·.2))
 | _,_, .nil=>fun c m=>by simp at m
 | _,_, .cons e d r t=>fun c m=>by
   rcases aB.mp (show c∈_::_ from m) with z | z
   ·rw [z];exact⟨_,e⟩
   ·exact t.obs c z
theorem CapsAt.get {H:Hp}:∀ {cl:List (Str×aZ)} {vs:List V},CapsAt H cl vs->∀ {j:Nat} {p:Str×aZ} {v:V},cl[j]?=some p->vs[j]?=some v->∃o u,H p.2=some (ObO p.2 o)/\o.data= .cell (some u)/\RelV v u
 | _,_, .cons e d r t,0,p,v,h1,h2=>by
   cases h1
   cases h2
   exact⟨_,_,e,d,r⟩
 | _,_, .cons e d r t,j + 1,p,v,h1,h2=>t.get (by simpa using h1) (by simpa using h2)
theorem CapsAt.len {H:Hp}:∀ {cl:List (Str×aZ)} {vs:List V},CapsAt H cl vs->vs.length=cl.length
 | _,_, .nil=>rfl
 | _,_, .cons e d r t=>by rw [aK,aK,t.len]
theorem wL {cl:List (Str×aZ)}:∀ {x:Str} {c:aZ},cl.lookup x=some c->(x,c)∈cl:=fun h=>cV h
theorem wN {α:Type}:∀ {cl:List (Str×α)} {j:Nat} {x:Str} {c:α},(cl.map (·.1)).Nodup->cl[j]?=some (x,c)->cl.lookup x=some c
 | (y,d)::cl,0,x,c,_,h=>by
   cases h
   simp [bC]
 | (y,d)::cl,j + 1,x,c,nd,h=>by
   rw [aC,bO] at nd
   have h' :cl[j]?=some (x,c):=by simpa using h
   have ne:(x == y)=false:=by
    rw [beq_eq_false_iff_ne]
    intro z
    exact nd.1 (z▸bG.mpr ⟨(x,c),dP h',rfl⟩)
   rw [bC,ne]
   exact wN nd.2 h'
theorem qKs {ps:List Str} {us:List Value} (hl:ps.length<=us.length) (nd:ps.Nodup) {i:Nat} {x:Str} {u:Value} (h1:ps[i]?=some x) (h2:us[i]?=some u):(ps.zip us).reverse.lookup x=some u:=by
 have hz:(ps.zip us)[i]?=some (x,u):=by
  rw [List.getElem?_zip_eq_some]
  exact⟨h1,h2⟩
 have ndz:((ps.zip us).map (·.1)).Nodup:=by
  rw [List.map_fst_zip hl]
  exact nd
 have ndr:((ps.zip us).reverse.map (·.1)).Nodup:=by
  rw [List.map_reverse]
  exact List.pairwise_reverse.mpr (ndz.imp fun h=>Ne.symm h)
 obtain⟨j,hj⟩:=List.getElem?_of_mem (List.mem_reverse.mpr (dP hz))
 exact wN ndr hj
section
variable {P:aH} {w:bJ} {K:aQ} {mg:Str->Option Value} {base:Heap}
structure FunC (K:aQ) (x:Str) (st:Stmt) (f:aZ) (fd:bW) (c:aZ):Prop where
 ex:∃(oc:Value) (od:Option aZ) (kV doc pm:Value) (an:Option aZ) (ct:Value) (osl:Array (Option Value)),
  fd=cS x x (qN st) (qH st) (qJ st) .none kV doc pm an (.ref c) ct/\K.lookup f=some ⟨oc,od, .func fd,osl⟩/\PySem.W.codeIn K (.ref c) x=true
end
section
variable {κ:Type} [DecidableEq κ]
def valV (kvs:List (κ×V)) (k:κ):Option V:=(kvs.find? fun kv=>decide (kv.1=k)).map (·.2)
def putK (kvs:List (κ×V)) (k:κ) (v:V):List (κ×V):=
 if(kvs.any fun kv=>decide (kv.1=k))=true then kvs.map (fun kv=>if kv.1=k then(kv.1,v) else kv) else kvs ++ [(k,v)]
def qJ2 (kvs:List (κ×V)) (k:κ):List (κ×V):=kvs.filter fun kv=>decide (kv.1≠k)
theorem qQ8 {p:κ×V} {r:List (κ×V)} {k:κ} (e:p.1=k):valV (p::r) k=some p.2:=by simp [valV,List.find?_cons,e]
theorem qQ9 {p:κ×V} {r:List (κ×V)} {k:κ} (e:¬p.1=k):valV (p::r) k=valV r k:=by simp [valV,List.find?_cons,e]
theorem qYf (k:κ):∀kvs:List (κ×V),(kvs.any fun kv=>decide (kv.1=k))=(valV kvs k).isSome
 | []=>rfl
 | p::r=>by
   rw [List.any_cons]
   by_cases e:p.1=k
   ·simp only [qQ8 e,decide_eq_true e,Bool.true_or,Option.isSome_some]
   ·rw [qQ9 e,decide_eq_false e,Bool.false_or];exact qYf k r
theorem qV7 (kvs:List (κ×V)) (k:κ) (v:V):(putK kvs k v).length<=kvs.length + 1:=by
 unfold putK
 split
 ·rw [aY];omega
 ·rw [aP,aK,List.length_nil];omega
theorem RelO.isSome_eq {o:Option V} {u:Option Value} (r:RelO o u):o.isSome=u.isSome:=by
 cases o with
 | none=>cases u with
   | none=>rfl
   | some _=>exact(show False from r).elim
 | some _=>cases u with
   | none=>exact(show False from r).elim
   | some _=>rfl
theorem KV.val {kvs:List (κ×V)} {vs:List (κ×Value)} (r:KV kvs vs) (k:κ):RelO (valV kvs k) (valueAt vs k):=by
 unfold KV at r
 induction r with
 | nil=>exact True.intro
 | @cons p q ps qs h t ih=>
   obtain⟨h1,h2⟩:=h
   by_cases e:p.1=k
   ·have e' :q.1=k:=h1.symm.trans e
    have b:valueAt (q::qs) k=some q.2:=by simp [valueAt,List.find?_cons,e']
    rw [qQ8 e,b];exact h2
   ·have e' :¬q.1=k:=fun z=>e (h1.trans z)
    have b:valueAt (q::qs) k=valueAt qs k:=by simp [valueAt,List.find?_cons,e']
    rw [qQ9 e,b];exact ih
theorem KV.any {kvs:List (κ×V)} {vs:List (κ×Value)} (r:KV kvs vs) (k:κ):(kvs.any fun kv=>decide (kv.1=k))=vs.any fun kv=>decide (kv.1=k):=by
 unfold KV at r
 induction r with
 | nil=>rfl
 | cons h t ih=>rw [List.any_cons,List.any_cons,ih,h.1]
theorem KV.repl {kvs:List (κ×V)} {vs:List (κ×Value)} (r:KV kvs vs) (k:κ) {y:V} {u:Value} (ry:RelV y u):
  KV (kvs.map fun kv=>if kv.1=k then(kv.1,y) else kv) (vs.map fun kv=>if kv.1=k then(kv.1,u) else kv):=by
 unfold KV at r⊢
 induction r with
 | nil=>exact .nil
 | @cons p q ps qs h t ih=>
   rw [aC,aC]
   refine .cons ?_ ih
   obtain⟨h1,h2⟩:=h
   by_cases e:p.1=k
   ·rw [if_pos e,if_pos (h1.symm.trans e)];exact⟨h1,ry⟩
   ·rw [if_neg e,if_neg (fun z=>e (h1.trans z))];exact⟨h1,h2⟩
theorem KV.put {kvs:List (κ×V)} {vs:List (κ×Value)} (r:KV kvs vs) (k:κ) {y:V} {u:Value} (ry:RelV y u):KV (putK kvs k y) (stored vs k u):=by
 unfold putK stored
 rw [r.any k]
 by_cases e:(vs.any fun kv=>decide (kv.1=k))=true
 ·rw [if_pos e,if_pos e];exact r.repl k ry
 ·rw [if_neg e,if_neg e];exact Paired.snoc r ⟨rfl,ry⟩
theorem KV.drop {kvs:List (κ×V)} {vs:List (κ×Value)} (r:KV kvs vs) (k:κ):KV (qJ2 kvs k) (without vs k):=by
 unfold KV at r⊢
 unfold qJ2 without
 induction r with
 | nil=>exact .nil
 | @cons p q ps qs h t ih=>
   obtain⟨h1,h2⟩:=h
   rw [dY,dY]
   by_cases e:p.1=k
   ·have a:¬decide (p.1≠k)=true:=by simp [e]
    have b:¬decide (q.1≠k)=true:=by simp [h1.symm.trans e]
    rw [if_neg a,if_neg b];exact ih
   ·have e' :¬q.1=k:=fun z=>e (h1.trans z)
    have a:decide (p.1≠k)=true:=by simp [e]
    have b:decide (q.1≠k)=true:=by simp [e']
    rw [if_pos a,if_pos b];exact .cons ⟨h1,h2⟩ ih
theorem KV.length {kvs:List (κ×V)} {vs:List (κ×Value)} (r:KV kvs vs):kvs.length=vs.length:=Paired.length r
theorem vYr (kvs:List (κ×V)) (k:κ):(qJ2 kvs k).length<=kvs.length:=List.length_filter_le _ _
end
theorem qJz {P:aH} {w:bJ} {k:Key} {u:Value} (r:RelV (kV k) u):(vN P w).is k u=true:=by
 cases k with
 | inl i=>obtain⟨t,e⟩:=(show∃t,u=Value.int i t from r);subst e;exact qY5 P w i t
 | inr x=>obtain⟨t,e⟩:=(show∃t,u=Value.str x t from r);subst e;exact qY4 P w x t
theorem qWc {P:aH} {w:bJ}:∀ {ks:List Key} {us:List Value},Vals (ks.map kV) us->ItemsAre (vN P w) ks us
 | [],_,r=>by rw [List.map_nil] at r;cases r;exact .nil
 | k::ks,_,r=>by
   rw [aC] at r
   cases r with
   | cons h t=>exact .cons (qJz h) (qWc t)
abbrev KT (H:Hp):List (List Key×V)->List (List Key×aZ×Value)->Prop:=Paired fun p q=>p.1=q.1/\H q.2.1=some (.tup (p.1.map kV))/\RelV p.2 q.2.2
theorem KT.val {H:Hp} {kvs:List (List Key×V)} {xs:List (List Key×aZ×Value)} (r:KT H kvs xs) (k:List Key):RelO (valV kvs k) ((atKey xs k).map (·.2)):=by
 induction r with
 | nil=>exact True.intro
 | @cons p q ps qs h t ih=>
   obtain⟨h1,_,h2⟩:=h
   by_cases e:p.1=k
   ·have e' :q.1=k:=h1.symm.trans e
    have b:atKey (q::qs) k=some q.2:=by simp [atKey,List.find?_cons,e']
    rw [qQ8 e,b];exact h2
   ·have e' :¬q.1=k:=fun z=>e (h1.trans z)
    have b:atKey (q::qs) k=atKey qs k:=by simp [atKey,List.find?_cons,e']
    rw [qQ9 e,b];exact ih
theorem KT.repl {H:Hp} {kvs:List (List Key×V)} {xs:List (List Key×aZ×Value)} (r:KT H kvs xs) (k:List Key) {y:V} {u:Value} (ry:RelV y u):
  KT H (kvs.map fun kv=>if kv.1=k then(kv.1,y) else kv) (xs.map (putAt k u)):=by
 induction r with
 | nil=>exact .nil
 | @cons p q ps qs h t ih=>
   rw [aC,aC]
   refine .cons ?_ ih
   obtain⟨h1,h2,h3⟩:=h
   unfold putAt
   by_cases e:p.1=k
   ·rw [if_pos e,if_pos (h1.symm.trans e)];exact⟨h1,h2,ry⟩
   ·rw [if_neg e,if_neg (fun z=>e (h1.trans z))];exact⟨h1,h2,h3⟩
theorem KT.put {H:Hp} {kvs:List (List Key×V)} {xs:List (List Key×aZ×Value)} (r:KT H kvs xs) (k:List Key) {b:aZ} {y:V} {u:Value} (hb:H b=some (.tup (k.map kV))) (ry:RelV y u):
  KT H (putK kvs k y) (storedH xs k b u):=by
 have e:(kvs.any fun kv=>decide (kv.1=k))=(atKey xs k).isSome:=by
  rw [qYf,(r.val k).isSome_eq,Option.isSome_map]
 unfold putK storedH
 rw [e]
 by_cases q:(atKey xs k).isSome=true
 ·rw [if_pos q,if_pos q];exact r.repl k ry
 ·rw [if_neg q,if_neg q];exact Paired.snoc r ⟨rfl,hb,ry⟩
theorem KT.keeps {H H' :Hp} {kvs:List (List Key×V)} {xs:List (List Key×aZ×Value)} (r:KT H kvs xs) (ht:∀b ys,H b=some (.tup ys)->H' b=some (.tup ys)):KT H' kvs xs:=
 Paired.mapP r fun _ _ z=>⟨z.1,ht _ _ z.2.1,z.2.2⟩
section
variable {P:aH} {w:bJ} {H:Hp} {h:Heap} {a:aZ}
theorem zVx {u:HO} (ok:HOk P w H h) (e:Rd H a u):vJ P w H h a u:=e.ok ok
theorem qZn {kvs:List (Key×V)} (ok:HOk P w H h) (e:Rd H a (.dK kvs)):kvs.length<=bX/\(a == eV)=false/\∃vs,KV kvs vs/\h.DictOf (vN P w) a vs:=
 show vJ P w H h a (.dK kvs) from zVx ok e
theorem vQp {kvs:List (Key×V)} (ok:HOk P w H h) (e:H a=some (.dK kvs)):kvs.length<=bX/\(a == eV)=false/\∃vs,KV kvs vs/\h.DictOf (vN P w) a vs:=qZn ok (.inl e)
theorem qZw {ks:List Key} (ok:HOk P w H h) (e:H a=some (.tup (ks.map kV))):(tupleKind (vN P w)).is h ks a:=by
 obtain⟨_,its,r,o,h1,h2,n,h3⟩:=(show vJ P w H h a (.tup (ks.map kV)) from ok a _ e)
 exact⟨o,its.toArray,n,h1,h2,h3,by simpa using qWc r⟩
theorem qJ1 {kvs:List (List Key×V)} (ok:HOk P w H h) (e:Rd H a (.dT kvs)):kvs.length<=bX/\(a == eV)=false/\
  ∃xs,KT H kvs xs/\h.DictOfH (tupleKind (vN P w)) a xs:=by
 obtain⟨z,y,xs,r,o,es,ep,h1,h2,h3,h4,h5⟩:=(show vJ P w H h a (.dT kvs) from zVx ok e)
 refine⟨z,y,xs,r,o,es,ep,h1,h2,h3,h4,fun x hx=>?_,h5⟩
 have all:∀ {l:List (List Key×V)} {m:List (List Key×aZ×Value)},KT H l m->∀x∈m,(tupleKind (vN P w)).is h x.1 x.2.1:=by
  intro l m q
  induction q with
  | nil=>intro x hx;exact nomatch hx
  | @cons p q ps qs hq t ih=>
    intro x hx
    rcases aB.mp hx with e | hx
    ·subst e
     exact qZw ok (by rw [←hq.1];exact hq.2.1)
    ·exact ih x hx
 exact all r x hx
theorem zYe {kvs:List (List Key×V)} (ok:HOk P w H h) (e:H a=some (.dT kvs)):kvs.length<=bX/\(a == eV)=false/\
  ∃xs,KT H kvs xs/\h.DictOfH (tupleKind (vN P w)) a xs:=qJ1 ok (.inl e)
end
def DGet (H:Hp) (a:aZ) (y:V) (r:Option V):Prop:=
 (∃kvs k,Rd H a (.dK kvs)/\y=kV k/\r=valV kvs k)\/∃kvs k b,Rd H a (.dT kvs)/\y= .ref b/\H b=some (.tup (k.map kV))/\r=valV kvs k
def DPut (H:Hp) (a:aZ) (y v:V) (H' :Hp):Prop:=
 (∃kvs k,H a=some (.dK kvs)/\y=kV k/\kvs.length < bX/\H' =upd H a (.dK (putK kvs k v)))\/
 ∃kvs k b,H a=some (.dT kvs)/\y= .ref b/\H b=some (.tup (k.map kV))/\kvs.length < bX/\H' =upd H a (.dT (putK kvs k v))
theorem DGet.k {H:Hp} {a:aZ} {kvs:List (Key×V)} {k:Key} (e:H a=some (.dK kvs)):DGet H a (kV k) (valV kvs k):= .inl ⟨kvs,k, .inl e,rfl,rfl⟩
theorem DPut.k {H:Hp} {a:aZ} {kvs:List (Key×V)} {k:Key} {v:V} (e:H a=some (.dK kvs)) (hl:kvs.length < bX):DPut H a (kV k) v (upd H a (.dK (putK kvs k v))):= .inl ⟨kvs,k,e,rfl,hl,rfl⟩
section
variable {X:Cx} {pins:List (aZ×Obj)} {σ:St} {H:Hp} {s:aJ} {a:aZ} {y v:V} {u r:Value} {o:Option V} {A:bF} {E:Value->aJ->Prop}
theorem Inv.big (I:Inv X pins σ H s):eV < s.heap.objs.size:=by
 have h:cK < s.heap.objs.size:=(I.mod.glob.keeps I.bk).lt
 exact Nat.lt_trans (by decide) h
theorem vZ7 {Q:Value->aJ->Prop} (hu:A.units + 1 < dC) (I:Inv X pins σ H s) (g:DGet H a y (some v)) (ry:RelV y u) (h:∀w' s',Inv X pins σ H s' ->RelV v w' ->Q w' s'):
  aR (model X.prog X.w) A (getItem (.ref a) u) Q E s:=by
 rcases g with⟨kvs,k,e,ey,l⟩ | ⟨kvs,k,b,e,ey,eb,l⟩
 ·subst ey
  obtain⟨z,hd,vs,rel,dd⟩:=qZn I.hok e
  obtain⟨w',hw,rw'⟩:=RelO.some_of (v:=v) (o:=valueAt vs k) (by rw [l];exact rel.val k)
  exact wpAny_getItem_of (qJz ry) dd.mapOf hw (h w' _ (I.tok _) rw')
 ·subst ey
  cases(show u=Value.ref b from ry)
  obtain⟨z,hd,xs,rel,dd⟩:=qJ1 I.hok e
  obtain⟨w',hw,rw'⟩:=RelO.some_of (v:=v) (o:=(atKey xs k).map (·.2)) (by rw [l];exact rel.val k)
  obtain⟨p,hp,hp2⟩:=bY.mp hw
  refine wpAny_getItem_heap (tupleKind_room_in1 hu) (qZw I.hok eb) dd hp ?_
  rw [hp2]
  exact h w' _ (I.tok _) rw'
theorem d_in {Q:Value->aJ->Prop} (hu:A.units + 1 < dC) (I:Inv X pins σ H s) (g:DGet H a y o) (ry:RelV y u) (h:∀s',Inv X pins σ H s' ->Q (.bool o.isSome) s'):
  aR (model X.prog X.w) A (bM .In u (.ref a)) Q E s:=by
 rcases g with⟨kvs,k,e,ey,l⟩ | ⟨kvs,k,b,e,ey,eb,l⟩
 ·subst ey
  obtain⟨z,hd,vs,rel,dd⟩:=qZn I.hok e
  refine wpAny_in_of (qJz ry) hd dd.mapOf ?_
  rw [←(rel.val k).isSome_eq,←l]
  exact h _ (I.tok _)
 ·subst ey
  cases(show u=Value.ref b from ry)
  obtain⟨z,hd,xs,rel,dd⟩:=qJ1 I.hok e
  refine wpAny_in_heap (tupleKind_room_in1 hu) (qZw I.hok eb) hd dd ?_
  have q:=(rel.val k).isSome_eq
  rw [Option.isSome_map] at q
  rw [←q,←l]
  exact h _ (I.tok _)
theorem zVe {Q:Value->aJ->Prop} (hu:A.units + 1 < dC) (I:Inv X pins σ H s) (g:DGet H a y o) (ry:RelV y u) (h:∀s',Inv X pins σ H s' ->Q (.bool (!o.isSome)) s'):
  aR (model X.prog X.w) A (bM .NotIn u (.ref a)) Q E s:=by
 rcases g with⟨kvs,k,e,ey,l⟩ | ⟨kvs,k,b,e,ey,eb,l⟩
 ·subst ey
  obtain⟨z,hd,vs,rel,dd⟩:=qZn I.hok e
  refine wpAny_notIn_of (qJz ry) hd dd.mapOf ?_
  rw [←(rel.val k).isSome_eq,←l]
  exact h _ (I.tok _)
 ·subst ey
  cases(show u=Value.ref b from ry)
  obtain⟨z,hd,xs,rel,dd⟩:=qJ1 I.hok e
  refine wpAny_notIn_heap (tupleKind_room_in1 hu) (qZw I.hok eb) hd dd ?_
  have q:=(rel.val k).isSome_eq
  rw [Option.isSome_map] at q
  rw [←q,←l]
  exact h _ (I.tok _)
theorem qXf {h' :Heap} {t' :Nat} {ob:HO} (I:Inv X pins σ H s) (mu:Mut (H a)) (hs:eB a s.heap h') (he:∃q,h'.get? a=some q) (new:vJ X.prog X.w (upd H a ob) h' a ob):
  Inv X pins σ (upd H a ob) {s with heap:=h',toks:=t' }:=
 I.write (x:=a) (e:=a) mu (.inl rfl) (fun b q hb z=>(hs.2 b hb).trans z) he new
theorem vW0 {P:aH} {w:bJ} {H' :Hp} {h' :Heap} {kvs:List (Key×V)} {vs:List (Key×Value)} (z:kvs.length<=bX) (hd:(a == eV)=false) (rel:KV kvs vs) (dd:h'.DictOf (vN P w) a vs):
  vJ P w H' h' a (.dK kvs):=⟨z,hd,vs,rel,dd⟩
theorem vZ6 {H' :Hp} {Q:Unit->aJ->Prop} (hu:A.units + 1 < dC) (I:Inv X pins σ H s) (g:DPut H a y v H') (ry:RelV y u) (rv:RelV v r) (h:∀s',Inv X pins σ H' s' ->Q () s'):
  aR (model X.prog X.w) A (setItem (.ref a) u r) Q E s:=by
 rcases g with⟨kvs,k,e,ey,l,eH⟩ | ⟨kvs,k,b,e,ey,eb,l,eH⟩
 ·subst ey eH
  obtain⟨z,hd,vs,rel,dd⟩:=vQp I.hok e
  have hz:vs.length<=bX:=by rw [←rel.length];exact z
  have hl:(putK kvs k v).length<=bX:=by have:=qV7 kvs k v;omega
  refine wpAny_setItem_pairs (hsz:=hz) (qJz ry) dd fun h' dd' hs=>h _ ?_
  have he:∃q,h'.get? a=some q:=let ⟨q,_,_,hq,_⟩:=dd';⟨q,hq⟩
  exact qXf I (by rw [e];exact True.intro) hs he (vW0 hl hd (rel.put k rv) dd')
 ·subst ey eH
  cases(show u=Value.ref b from ry)
  obtain⟨z,hd,xs,rel,dd⟩:=zYe I.hok e
  have hz:xs.length<=bX:=by rw [←Paired.length rel];exact z
  have hl:(putK kvs k v).length<=bX:=by have:=qV7 kvs k v;omega
  refine wpAny_setItem_heap (hsz:=hz) (tupleKind_room_in1 hu) (qZw I.hok eb) dd fun h' dd' hs=>h _ ?_
  obtain⟨q,es,ep,hq,h2,h3,h4,_,h5⟩:=dd'
  refine qXf I (by rw [e];exact True.intro) hs ⟨q,hq⟩ ⟨hl,hd,_,(rel.put k eb rv).keeps fun c ys ec=>?_,q,es,ep,hq,h2,h3,h4,h5⟩
  rw [qU (zX0 ec e (fun z=>nomatch z))]
  exact ec
end
section
variable {X:Cx} {pins:List (aZ×Obj)} {σ:St} {H:Hp} {s:aJ} {a:aZ} {kvs:List (Key×V)} {k:Key} {u:Value} {A:bF} {E:Value->aJ->Prop}
theorem zYg {v:V} {more:List Value} {Q:Value->aJ->Prop} (I:Inv X pins σ H s) (e:H a=some (.dK kvs)) (ry:RelV (kV k) u) (l:valV kvs k=some v) (hm:more=[]\/∃x,more=[x])
  (h:∀w' s',Inv X pins σ (upd H a (.dK (qJ2 kvs k))) s' ->RelV v w' ->Q w' s'):aR (model X.prog X.w) A (call (.builtin "dict.pop") (.ref a::u::more)) Q E s:=by
 obtain⟨z,hd,vs,rel,dd⟩:=vQp I.hok e
 obtain⟨w',hw,rw'⟩:=RelO.some_of (v:=v) (o:=valueAt vs k) (by rw [←l];exact rel.val k)
 have hp:(keyPart u).isSome=true:=by
  cases k with
  | inl i=>obtain⟨t,q⟩:=(show∃t,u=Value.int i t from ry);subst q;rfl
  | inr x=>obtain⟨t,q⟩:=(show∃t,u=Value.str x t from ry);subst q;rfl
 have ha:argsOk "dict.pop" ⟨.ref a::u::more,[]⟩:=by
  rcases hm with q | ⟨x,q⟩
  ·subst q;exact PySem.F.args_dict_pop_2 _ _
  ·subst q;exact PySem.F.args_dict_pop_3 _ _ _
 refine call_meetsIn PySem.F.slot_dict_pop dd.typeIs PySem.F.entry_dict_pop ha (meets_dict_pop_there (vN X.prog X.w) a (qJz ry) more hm hp)
  ⟨vs,w',dd,by rw [←rel.length];exact z,hw,fun h' dd' hs=>h w' _ ?_ rw'⟩
 have he:∃q,h'.get? a=some q:=let ⟨q,_,_,hq,_⟩:=dd';⟨q,hq⟩
 exact qXf I (by rw [e];exact True.intro) hs he (vW0 (bT (vYr kvs k) z) hd (rel.drop k) dd')
theorem zYh {Q:Value->aJ->Prop} (I:Inv X pins σ H s) (e:Rd H a (.dK kvs)) (h:∀t s',Inv X pins σ H s' ->Q (.int kvs.length t) s'):aR (model X.prog X.w) A (call (.builtin "len") [.ref a]) Q E s:=by
 obtain⟨z,hd,vs,rel,dd⟩:=qZn I.hok e
 refine call_len_dict hd dd (by rw [←rel.length];rw [sizeLine_eq] at z;omega) ?_
 rw [←rel.length]
 exact h _ _ (I.tok _)
end
theorem qY7 {X:Cx} {pins:List (aZ×Obj)} {σ:St} {H:Hp} {s:aJ} {a:aZ} {y:V} {o:Option V} (I:Inv X pins σ H s) (g:DGet H a y o):s.TypeIs (.ref a) "dict":=by
 rcases g with⟨kvs,k,e,_,_⟩ | ⟨kvs,k,b,e,_,_,_⟩
 ·obtain⟨_,_,vs,_,dd⟩:=qZn I.hok e
  exact dd.typeIs
 ·obtain⟨_,_,xs,_,dd⟩:=qJ1 I.hok e
  exact dd.typeIs
def zXe (td ty tv:TE):TS:=fun D σ H=>tv σ H fun v H1=>td σ H1 fun x H2=>ty σ H2 fun y H3=>∃a H4,x= .ref a/\DPut H3 a y v H4/\D.nx σ H4
section
variable {X:Cx} {o i e value:Expr} {pos pos' tpos:Pos} {td ty tv:TE}
theorem vKr (hu:X.A.units + 1 < dC) (ho:PE X o td) (hi:PE X i ty) (hv:PE X value tv) (hs:swapsWith value (some (.Subscript o i pos')) pos.line X.env=pure false):
  PS X (.Assign [.Subscript o i pos'] value pos) (zXe td ty tv):=by
 intro pins s σ H D I h
 refine wpAny_Assign_Subscript (thn (hv pins s σ H _ I h) fun r s1 ⟨v,H1,I1,rv,q1⟩=>thn (ho pins s1 σ H1 _ I1 q1) fun u s2 ⟨x,H2,I2,rx,q2⟩=>thn (hi pins s2 σ H2 _ I2 q2) fun iv s3 ⟨y,H3,I3,ry,a,H4,ex,g,q3⟩=>?_) hs
 subst ex
 obtain rfl:u=Value.ref a:=rx
 exact vZ6 hu I3 g ry rv fun s4 I4=>⟨σ,H4,I4,q3⟩
end
theorem vYs {P:aH} {w:bJ} {H:Hp} (h:Heap) (hb:eV < h.objs.size):vJ P w H (h.push {cls:= .type "dict",data:= .dict #[]}) h.objs.size (.dK []):=
 ⟨cH _,beq_eq_false_iff_ne.mpr (Ne.symm (bZ hb)),[], .nil,Heap.DictOf.new h⟩
def tDNewK:TE:=fun _ H Q=>∀p,H p=none->Q (.ref p) (upd H p (.dK []))
section
variable {X:Cx} {pos:Pos}
theorem vX1:PE X (.Dict [] [] pos) tDNewK:=fun pins s σ H Q I h=>
 wpAny_Dict_empty ⟨.ref s.heap.objs.size,_,I.laid (a:=s.heap.objs.size) (o:= .dK []) (t' :=s.toks) (fun _ _ q=>aX _ q) (aG _) (vYs s.heap I.big),rfl,h _ (I.hok.fresh (aG _))⟩
end
structure M1 (X:Cx) (o:Expr) (m:Str) (apos:Pos) (e:Expr) (cpos:Pos):Prop where
 base:attributeBase o m X.env (eval o X.env)=eval o X.env
 few:((cM cpos (aU [e] X.env)).all (fun x=>!x.1) && (backToKw cpos (keywordEach [] X.env)).all (fun x=>x.1.isSome)
  && decide (([e]:List Expr).length + ([]:List Keyword).length + (if([]:List Keyword).isEmpty then 0 else 1) < 30))=true
 line:(apos.endLine == cpos.line)=true
 trees:cM cpos (aU [e] X.env)=[(false,eval e X.env)]
def IsD (H:Hp) (a:aZ):Prop:=(∃kvs,Rd H a (.dK kvs))\/∃kvs,Rd H a (.dT kvs)
theorem zWm {X:Cx} {pins:List (aZ×Obj)} {σ:St} {H:Hp} {s:aJ} {a:aZ} (I:Inv X pins σ H s) (d:IsD H a):
  s.TypeIs (.ref a) "dict"/\(∀b,Value.ref a= .ref b->∃ob,s.heap.get? b=some ob/\ob.dict=none)/\(a == eV)=false:=by
 rcases d with⟨kvs,e⟩ | ⟨kvs,e⟩
 ·obtain⟨_,hd,vs,_,dd⟩:=qZn I.hok e
  refine⟨dd.typeIs,fun b q=>?_,hd⟩
  cases q
  obtain⟨ob,_,_,h1,h2,_⟩:=dd
  exact⟨ob,h1,h2.2.1⟩
 ·obtain⟨_,hd,xs,_,dd⟩:=qJ1 I.hok e
  refine⟨dd.typeIs,fun b q=>?_,hd⟩
  cases q
  obtain⟨ob,_,_,h1,h2,_⟩:=dd
  exact⟨ob,h1,h2.2.1⟩
def zZq (td ty:TE):TE:=fun σ H Q=>td σ H fun x H1=>∃a,x= .ref a/\IsD H1 a/\ty σ H1 fun y H2=>∃kvs k v,H2 a=some (.dK kvs)/\y=kV k/\valV kvs k=some v/\Q v (upd H2 a (.dK (qJ2 kvs k)))
section
variable {X:Cx} {o e f:Expr} {apos cpos:Pos} {td ty tx:TE}
theorem vX0 (ho:PE X o td) (he:PE X e ty) (m:M1 X o "pop" apos e cpos):PE X (.Call (.Attribute o "pop" apos) [e] [] cpos) (zZq td ty):=by
 intro pins s σ H Q I h
 refine wpAny_Call_method m.base m.few m.line PySem.F.plainAttrs_dict PySem.F.slot_dict_pop PySem.F.type_dict_pop (thn (ho pins s σ H _ I h) fun u s1 ⟨x,H1,I1,rx,a,ex,d,q1⟩=>?_)
 subst ex
 obtain rfl:u=Value.ref a:=rx
 obtain⟨t1,t2,_⟩:=zWm I1 d
 refine⟨t1,t2,?_⟩
 rw [m.trees]
 refine Calls.callWith_builtin rfl (Calls.evalArgs_plain (Calls.spliced_cons (thn (he pins s1 σ H1 _ I1 q1) fun iv s2 ⟨y,H2,I2,ry,kvs,k,v,ea,ey,l,q2⟩=>Calls.spliced_nil ?_)))
 subst ey
 exact zYg I2 ea ry l (.inl rfl) fun w' s3 I3 rw' =>⟨v,_,I3,rw',q2⟩
end
end L2
namespace L2
open PySem PySem.Spec PyProof PyProof.Rows
section
variable {prog:aH} {w:bJ} {A:bF} {E:Value->aJ->Prop} {s:aJ}
theorem vY3 {id:String} {b:Builtin} {args:List Value} {kw:List (Str×Value)} {Q:Value->aJ->Prop} (hk:builtinKind id=none) (hp:plainId id=true) (hb:entryFor table id=some b) (ha:argsOk id ⟨args,kw⟩)
  (hc:aR (model prog w) A.in1 (b ⟨args,kw⟩) (fun fin s' =>match fin with
   | .done f=>(match(Except.ok f:Result) with | .ok (.ret v)=>Q v s' | .ok _=>False | .error e=>E e s')
   | .again c' =>c'.quiet=true/\codeAny (model prog w) A c' (fun r s' =>match r with | .ok (.ret v)=>Q v s' | .ok _=>False | .error e=>E e s') s') E s):
  aR (model prog w) A (call (.builtin id) args kw) Q E s:=by
 refine wpAny_call (codeAny_call_builtin hp hb ?_)
 simp only [checkBuiltinCall,hk]
 cases hsig:Manifest.signature? id with
 | none=>exact aW hc
 | some sig=>
   simp only [argsOk,hsig] at ha
   have h2:Bind.checkArgs id sig ⟨args,kw⟩=pure ():=ha
   show aR _ A.in1 (Bind.checkArgs id sig ⟨args,kw⟩) _ _ s
   rw [h2]
   exact aW hc
theorem vJf (a d:Value):argsOk "min" ⟨[a],[(cY "default",d)]⟩:=by unfold argsOk;kernel_rfl
end
section
variable {prog:aH} {w:bJ} {A:bF} {R:Result->aJ->Prop} {I:aZ} {fp wr:List aZ} {n:Nat} {P:Nat->Value->Prop} {St:Nat->Heap->Prop} {kw:List (Str×Value)}
theorem vZo (W:Walks prog w A.in1 I fp wr n P St) (bt:Nat->Nat->Bool) (hcmp:CmpOf prog w A.in1 .Lt P bt) (S:aZ) (hSf:S∉fp):
  ∀(k j:Nat) (s:aJ) (vb:Value) (c:Nat),n - (j + 1)=k->j + 1<=n->St (j + 1) s.heap->P (argBest bt j) vb->
  s.heap.get? S=some {cls:= .type "list",dict:=none,data:= .seq #[vb,vb] c,slots:=#[]}->
  (∀v h' tk,P (argBest bt (n - 1)) v->(∀b o,b∉wr->b≠S->s.heap.get? b=some o->h'.get? b=some o)->R (.ok (.ret v)) {s with heap:=h',toks:=tk})->
  codeAny (model prog w) A (.builtin "min.loop" ⟨[.ref I, .none, .ref S],kw⟩) R s:=by
 have hSw:S∉wr:=fun h=>hSf (W.sub _ h)
 have hname:(toString "min" ++ toString ".loop":String)="min.loop":=by decide
 intro k
 induction k with
 | zero=>
   intro j s vb c hk hj hst hPb hS hR
   have hin:j + 1=n:=by omega
   refine cR F.entry_min_loop ?_
   rw [cP eU _]
   show aR _ A.in1 (seqItems? (.ref S) >>=_) _ _ s
   refine aV (wpAny_seqItems hS rfl ?_)
   show aR _ A.in1 (tryCatch (pyNext (.ref I)) _ >>=_) _ _ s
   refine aV (eZ (W.done s _ _ (hin▸hst) fun h' tk hk' =>?_))
   have hS' :=hk' S _ hSw hS
   show aR _ A.in1 (updateSeq S (fun _=>#[]) >>=_) _ _ _
   refine aV ?_
   refine eX hS' rfl (aV (wpAny_letGo (aW ?_)))
   exact hR vb _ tk (by rw [←hin];exact hPb) fun b o hbw hbS e=>(cC _ _ (Ne.symm hbS)).trans (hk' b o hbw e)
 | succ k ih=>
   intro j s vb c hk hj hst hPb hS hR
   have hlt:j + 1 < n:=by omega
   refine cR F.entry_min_loop ?_
   rw [cP eU _]
   show aR _ A.in1 (seqItems? (.ref S) >>=_) _ _ s
   refine aV (wpAny_seqItems hS rfl ?_)
   show aR _ A.in1 (tryCatch (pyNext (.ref I)) _ >>=_) _ _ s
   refine aV (eZ (W.item (j + 1) s _ _ hlt hst fun v h' tk hP hst' hk' =>?_))
   have hS' :=hk' S _ hSw hS
   show aR _ A.in1 (tryCatch (holding [v,v] (richCompare .Lt v vb >>=_)) _ >>=_) _ _ _
   refine aV (eZ (dD (aV (hcmp (j + 1) (argBest bt j) v vb _ _ _ hP hPb ?_))))
   refine aV (dD (dH ?_))
   refine aV (wpAny_letGo (aW ?_))
   cases hb:bt (j + 1) (argBest bt j) with
   | true=>
     simp only [if_true]
     refine aV ?_
     refine eX hS' rfl (aV (wpAny_letGo ?_))
     rw [hname]
     refine aW ⟨dZ eU _,ih (j + 1) _ v _ (by omega) hlt (W.frame _ _ _ hst' fun b hbf o e=>?_) (by simp only [argBest,hb,if_true];exact hP) (dO _ hS' rfl) fun v' h'' tk'' hP' hk'' =>?_⟩
     ·exact(cC _ _ (fun h:S=b=>hSf (by rw [h];exact hbf))).trans e
     ·exact hR v' h'' tk'' hP' fun b o hbw hbS e=>hk'' b o hbw hbS ((cC _ _ (Ne.symm hbS)).trans (hk' b o hbw e))
   | false=>
     simp only [Bool.false_eq_true,if_false]
     refine aV (wpAny_letGo ?_)
     rw [hname]
     refine aW ⟨dZ eU _,ih (j + 1) _ vb c (by omega) hlt hst' (by simp only [argBest,hb,Bool.false_eq_true,if_false];exact hPb) hS' fun v' h'' tk'' hP' hk'' =>?_⟩
     exact hR v' h'' tk'' hP' fun b o hbw hbS e=>hk'' b o hbw hbS (hk' b o hbw e)
theorem qK3 (W:Walks prog w A.in1 I fp wr n P St) (bt:Nat->Nat->Bool) (hcmp:CmpOf prog w A.in1 .Lt P bt) (S:aZ) (hSf:S∉fp) (d:Value) {s:aJ} {c:Nat} (hst:St 0 s.heap)
  (hS:s.heap.get? S=some {cls:= .type "list",dict:=none,data:= .seq #[] c,slots:=#[]})
  (h0:n=0->∀h' tk,(∀b o,b∉wr->b≠S->s.heap.get? b=some o->h'.get? b=some o)->R (.ok (.ret d)) {s with heap:=h',toks:=tk})
  (hR:0 < n->∀v h' tk,P (argBest bt (n - 1)) v->(∀b o,b∉wr->b≠S->s.heap.get? b=some o->h'.get? b=some o)->R (.ok (.ret v)) {s with heap:=h',toks:=tk}):
  codeAny (model prog w) A (.builtin "min.loop" ⟨[.ref I, .none, .ref S],[(cY "default",d)]⟩) R s:=by
 have hSw:S∉wr:=fun h=>hSf (W.sub _ h)
 have hname:(toString "min" ++ toString ".loop":String)="min.loop":=by decide
 refine cR F.entry_min_loop ?_
 rw [cP eU _]
 show aR _ A.in1 (seqItems? (.ref S) >>=_) _ _ s
 refine aV (wpAny_seqItems hS rfl ?_)
 show aR _ A.in1 (tryCatch (pyNext (.ref I)) _ >>=_) _ _ s
 rcases Nat.eq_zero_or_pos n with hn | hn
 ·refine aV (eZ (W.done s _ _ (hn▸hst) fun h' tk hk' =>?_))
  refine aV (wpAny_rule (aW ?_))
  exact h0 hn h' tk fun b o hbw hbS e=>hk' b o hbw e
 ·refine aV (eZ (W.item 0 s _ _ hn hst fun v h' tk hP hst' hk' =>?_))
  have hS' :=hk' S _ hSw hS
  show aR _ A.in1 (updateSeq S (fun _=>#[v,v]) >>=_) _ _ _
  refine aV ?_
  refine eX hS' rfl ?_
  rw [hname]
  refine aW ⟨dZ eU _,vZo W bt hcmp S hSf _ 0 _ v _ rfl hn (W.frame _ _ _ hst' fun b hbf o e=>?_) hP (dO _ hS' rfl) fun v' h'' tk'' hP' hk'' =>?_⟩
  ·exact(cC _ _ (fun h:S=b=>hSf (by rw [h];exact hbf))).trans e
  ·exact hR hn v' h'' tk'' hP' fun b o hbw hbS e=>hk'' b o hbw hbS ((cC _ _ (Ne.symm hbS)).trans (hk' b o hbw e))
end
section
variable {prog:aH} {w:bJ} {A:bF} {E:Value->aJ->Prop} {s:aJ}
theorem vZn {x d:Value} {Q:Value->aJ->Prop}
  (h:aR (model prog w) A.in1 (pyIter x) (fun it s₂=>∃I fp wr n P St bt,it= .ref I/\Walks prog w A.in1 I fp wr n P St/\St 0 s₂.heap/\(∀b∈fp,b < s₂.heap.objs.size)/\CmpOf prog w A.in1 .Lt P bt/\
   (n=0->∀h' tk,(∀b o,b∉wr->s₂.heap.get? b=some o->h'.get? b=some o)->Q d {s₂ with heap:=h',toks:=tk})/\
   (0 < n->∀v h' tk,P (argBest bt (n - 1)) v->(∀b o,b∉wr->s₂.heap.get? b=some o->h'.get? b=some o)->Q v {s₂ with heap:=h',toks:=tk})) E s):
  aR (model prog w) A (call (.builtin "min") [x] [(cY "default",d)]) Q E s:=by
 have hname:(toString "min" ++ toString ".loop":String)="min.loop":=by decide
 refine vY3 F.kind_min F.plain_min F.entry_min (vJf _ _) ?_
 show aR _ A.in1 (Builtin.Builtins.bindParams "min" ["key","default"] 0 ⟨[],[(cY "default",d)]⟩ >>=_) _ _ s
 refine aV (wpAny_of_eq (show Builtin.Builtins.bindParams "min" ["key","default"] 0 ⟨[],[(cY "default",d)]⟩=pure [none,some d] from by kernel_rfl) ?_)
 refine aV (aW ?_)
 refine aV (dB h (fun it s₂ h₂=>?_) fun _ _ e=>e)
 obtain⟨I,fp,wr,n,P,St,bt,rfl,W,hst,hfp,hcmp,hQ0,hQ⟩:=h₂
 refine aV (cB ?_)
 have hSf:s₂.heap.objs.size∉fp:=fun hm=>bN _ (hfp _ hm)
 rw [hname]
 have kp:∀ {h' :Heap},(∀b o,b∉wr->b≠s₂.heap.objs.size->(s₂.heap.push {cls:= .type "list",dict:=none,data:= .seq #[] 0,slots:=#[]}).get? b=some o->h'.get? b=some o)->∀b o,b∉wr->s₂.heap.get? b=some o->h'.get? b=some o:=fun {h'} k b o hbw e=>k b o hbw (bZ (aD e)) (aX _ e)
 refine aW ⟨dZ eU _,qK3 W bt hcmp s₂.heap.objs.size hSf d (W.frame _ _ _ hst fun b _ o e=>aX _ e) (aL _ rfl) (fun hn h' tk hk=>?_) (fun hn v h' tk hP hk=>?_)⟩
 ·exact hQ0 hn h' tk fun b o hbw e=>hk b o hbw (bZ (aD e)) (aX _ e)
 ·exact hQ hn v h' tk hP fun b o hbw e=>hk b o hbw (bZ (aD e)) (aX _ e)
end
section
variable {X:Cx}
def zW8 (K:aQ) (ta tk:TA):TE:=fun σ H Q=>ta σ H fun vs H1=>tk σ H1 fun ws H2=>∃(p:aZ) (ns:List Int) (d:V),vs=[.ref p]/\ws=[d]/\SqL K H2 p (ns.map V.int)/\(ns=[]->Q d H2)/\∀M,M∈ns->(∀a∈ns,M<=a)->Q (.int M) H2
theorem vK4 {x:Str} {p pos kpos:Pos} {e ef:Expr} {ta tk:TA} (hc:X.calm=true) (hg:Gl X x) (hm:X.mg x=none) (hv:cO x=some (.builtin "min")) (ha:PA X [e] ta) (hk:PK X [⟨some "default",ef,kpos⟩] tk) (hn:x≠"__name__":=by decide) (hdb:(x == ("__debug__":Str))=false:=by decide)
  (h1:cM pos (aU [e] X.env)=(false,eval e X.env)::cM pos (aU [] X.env):=by rfl) (h2:(cM pos (aU [e] X.env)).any (·.1)=false:=by rfl):
  PE X (.Call (.Name x p) [e] [⟨some "default",ef,kpos⟩] pos) (zW8 X.K ta tk):=by
 intro pins s σ H Q I h
 refine eO (yG I hg hm hv ?_ hn hdb)
 refine callWith_kw (thn (ha pos pins s σ H _ I h) fun us s1 ⟨vs,H1,I1,r1,q1⟩=>thn (hk pos pins s1 σ H1 _ I1 q1) fun ws s2 ⟨zs,H2,I2,r2,q2⟩=>?_) h1 h2
 obtain⟨a,ns,d,rfl,rfl,hl,q0,q⟩:=q2
 obtain⟨u1,rfl,z1⟩:=jI r1
 obtain⟨u2,rfl,z2⟩:=jI r2
 cases(show u1=Value.ref a from z1)
 obtain⟨its,rv,pl,_⟩:=I2.list hl
 have i1:IntsAre its ns:=yQ rv
 obtain⟨xs,e⟩:=i1.allInts.items
 have hns:ns=xs.toList.map (·.1):=by rw [←i1.numsOf,←nums_intItems,←e]
 have hll:=pl.isList
 rw [e] at hll
 refine vZn (iter_intList hll fun s₂ e st hfp hlI=>?_)
 subst e
 refine⟨_,_,_,_,_,_,_,rfl,Walks.list (A:=X.A.in1) (I2.ok.hd hc) _ a hlI (intItems xs),st,hfp,CmpOf.ints_lt (numAt xs) (fun _ _=>intItems_at),fun h0 h' tk hk=>?_,fun h0 v h' tk hP hk=>?_⟩
 ·refine⟨d,H2,I2.kept (old_kept hk),z2,q0 ?_⟩
  have:xs.size=0:=by simpa [intItems] using h0
  rw [hns]
  have e0:xs.toList=[]:=cG (by rw [cX];exact this)
  rw [e0]
  rfl
 ·have hsz:0 < xs.size:=by simpa [intItems] using h0
  have hP' :(intItems xs)[argBest (fun i j=>decide (numAt xs i < numAt xs j)) (xs.size - 1)]?=some v:=by simpa [intItems] using hP
  obtain⟨t,rfl⟩:=intItems_at hP'
  obtain⟨g1,g2⟩:=argBest_lt (numAt xs) (xs.size - 1)
  refine⟨.int _,H2,I2.kept (old_kept hk),⟨t,rfl⟩,q _ ?_ fun b hb=>?_⟩
  ·rw [hns,numAt_eq];exact getD_mem (by rw [aY,cX];omega)
  ·rw [hns] at hb
   obtain⟨j,hj,rfl⟩:=mem_getD hb
   rw [aY,cX] at hj
   rw [←numAt_eq];exact g2 j (by omega)
end
end L2
namespace L2
open PySem PySem.Spec PySem.W PyProof.Rows
section
variable {X:Cx}
theorem zJx (hu:X.A.units + 1 < dC):OpR X (bM .In) (fun x y H Q=>∃a o,y= .ref a/\DGet H a x o/\Q (.bl o.isSome) H):=by
 intro pins s σ H x y u v Q I ru rv h
 obtain⟨a,o,rfl,g,q⟩:=h
 cases(show v=Value.ref a from rv)
 exact d_in hu I g ru fun s' I' =>⟨.bl _,H,I',rfl,q⟩
theorem vZg (hu:X.A.units + 1 < dC):OpR X (bM .NotIn) (fun x y H Q=>∃a o,y= .ref a/\DGet H a x o/\Q (.bl (!o.isSome)) H):=by
 intro pins s σ H x y u v Q I ru rv h
 obtain⟨a,o,rfl,g,q⟩:=h
 cases(show v=Value.ref a from rv)
 exact zVe hu I g ru fun s' I' =>⟨.bl _,H,I',rfl,q⟩
end
end L2
namespace L2
open PySem PySem.Spec PyProof.Rows
def Ite (K:aQ) (a:aZ):It:=
 ⟨fun i H=>∃xs x,SqL K H a xs/\xs[i]?=some x,
  fun i H v H' =>∃p,v= .ref p/\H p=none/\∀xs x,SqL K H a xs->xs[i]?=some x->H' =upd H p (.tup [.int (i:Int),x]),
  fun i H=>∃xs,SqL K H a xs/\xs.length<=i⟩
theorem vV2 {P:aH} {w:bJ} {K:aQ} {elts:List Expr} {kk:Nat} {pos:Pos} (a e it:aZ) (hne:e≠it):
  Turn P w K (.Tuple elts kk pos) (Ite K a) [e,it] e (fun i h=>(∃old,IsEnum h e it (i:Int) old)/\h.IsListIter it a i) where
 mem:=by simp
 obj:=fun i h st c hc=>by
  obtain⟨⟨old,he⟩,⟨o2,e2,c2,d2⟩⟩:=st
  have hc' :c=e\/c=it:=by simpa using hc
  rcases hc' with rfl | rfl
  ·exact⟨_,he,fun v q=>by have q' :Data.fields _=Data.cell v:=q;cases q'⟩
  ·exact⟨_,e2,fun v q=>by rw [d2] at q;cases q⟩
 keep:=fun i h h' st k=>by
  obtain⟨⟨old,he⟩,h2⟩:=st
  exact⟨⟨old,k e (by simp) _ he⟩,h2.at fun o e' =>k it (by simp) o e'⟩
 item:=by
  intro X hP hw hK hc i pins s σ H E I hf st hg
  subst hP hw hK
  obtain⟨xs,x,hq,hx⟩:=hg
  obtain⟨its,rv,p1,hz1⟩:=I.list hq
  obtain⟨u,hu,ru⟩:=rv.get hx
  obtain⟨⟨old,he⟩,hit⟩:=st
  refine wpAny_pyNext_enum_item he hit p1.isList (x:=u) (by simpa using hu) hne fun h' a1 a2 a3 a4 hk=>?_
  refine⟨_,rfl,wpAny_letOwnedTupleGo_enum a1 fun h'' hz'' sb=>?_⟩
  have nz:s.heap.objs.size≠e:=dI (aD he)
  have hk2:∀c o,c∉ [e,it]->s.heap.get? c=some o->h''.get? c=some o:=fun c o hc e' =>by
   simp only [aB,aN,or_false,not_or] at hc
   exact sb.extBut c o hc.1 (hk c o hc.1 hc.2 e')
  refine⟨.ref s.heap.objs.size,upd H s.heap.objs.size (.tup [.int (i:Int),x]),I.turnedLaid (t' :=s.toks + 1) hk2 hf (aG _) ⟨vJ0,[.int (i:Int) s.toks,u], .cons ⟨_,rfl⟩ (.cons ru .nil),⟨_,sb.extBut _ _ nz a3,rfl,_,rfl⟩⟩,rfl,
   ⟨_,rfl,I.hok.fresh (aG _),fun xs' x' e1 e3=>?_⟩,⟨⟨_,hz''⟩,a2.extBut sb.extBut hne.symm⟩,fun c hc=>?_⟩
  ·rw [I.list_inj e1 hq,hx] at e3
   cases e3
   rfl
  ·obtain⟨o,e',_⟩:∃o,s.heap.get? c=some o/\True:=by
    have hc' :c=e\/c=it:=by simpa using hc
    obtain⟨o2,e2,_⟩:=hit
    rcases hc' with rfl | rfl
    ·exact⟨_,he,trivial⟩
    ·exact⟨_,e2,trivial⟩
   rw [qU (bZ (aD e'))]
   exact(hf c hc).1
 done:=by
  intro X hP hw hK hc i pins s σ H E I hf st hg
  subst hP hw hK
  obtain⟨xs,hq,hend⟩:=hg
  obtain⟨its,rv,p1,hz1⟩:=I.list hq
  obtain⟨⟨old,he⟩,hit⟩:=st
  have l1:=rv.length
  refine wpAny_pyNext_enum_end (I.ok.hd hc) he hit p1.isList (by simp;omega) fun h' hk=>⟨rfl,I.turnedAll (t' :=s.toks) (ch:=[e,it]) (fun c o hc e' =>?_) hf⟩
  simp only [aB,aN,or_false,not_or] at hc
  exact hk c o hc.2 e'
 self:=fun _ _ _ _ _ st h=>let ⟨_,he⟩:=st.1;wpAny_pyIter_enum he h
section
variable {X:Cx} {elts:List Expr} {kk:Nat} {tpos:Pos}
def zX8 (K:aQ) (ta:TA):TI:=fun σ H R=>ta σ H fun vs H1=>∃a,vs=[.ref a]/\(∃xs,SqL K H1 a xs)/\R (Ite K a) H1
theorem vK1 {e1:Expr} {ta:TA} {p pos:Pos} (hg:Gl X "enumerate") (hm:X.mg "enumerate"=none) (ha:PA X [e1] ta)
  (hs:aU [e1] X.env=[(false,eval e1 X.env)]:=by rfl) (hs2:aU [] X.env=[]:=by rfl):PI X (.Tuple elts kk tpos) (.Call (.Name "enumerate" p) [e1] [] pos) (zX8 X.K ta):=by
 intro pins s σ H R I h
 refine Call_ (yG I hg hm Boot.«enumerate» (eK (thn (ha pos pins s σ H _ I h) fun us s1 ⟨vs,H1,I1,r1,q1⟩=>?_) (by rw [hs,hs2]) (by rw [hs2];rfl)))
 obtain⟨a,e,⟨xs,hx⟩,q⟩:=q1
 subst e
 obtain⟨u,rfl,r⟩:=jI r1
 cases(show u=Value.ref a from r)
 obtain⟨its,rv,p1,hz1⟩:=I1.list hx
 refine call_enumerate_list p1.isList fun h' he hit hsz hk=>?_
 refine wpAny_pyIter_enum he ?_
 refine⟨s1.heap.objs.size + 1,[s1.heap.objs.size + 1,s1.heap.objs.size],_,_,H1,rfl,I1.kept (t' :=s1.toks) hk,vV2 a _ _ (Nat.succ_ne_self _),⟨⟨_,he⟩,hit⟩,fun c hc=>?_,q⟩
 have hc' :s1.heap.objs.size<=c:=by
  simp only [aB,aN,or_false] at hc
  rcases hc with e | e <;> rw [e] <;> first | exact aG _ | exact Nat.le_add_right _ _
 exact I1.fpOk hc' (I1.hok.fresh hc')
end
def DkH (h h' :Heap):Prop:=∀b o,h.get? b=some o->∃o',h'.get? b=some o' /\o'.dict=o.dict
theorem DkH.refl (h:Heap):DkH h h:=fun _ o e=>⟨o,e,rfl⟩
theorem DkH.trans {h1 h2 h3:Heap} (x:DkH h1 h2) (y:DkH h2 h3):DkH h1 h3:=fun b o e=>by
 obtain⟨o1,e1,d1⟩:=x b o e
 obtain⟨o2,e2,d2⟩:=y b o1 e1
 exact⟨o2,e2,d2.trans d1⟩
theorem DkH.push (h:Heap) (o:Obj):DkH h (h.push o):=fun _ u e=>⟨u,aX _ e,rfl⟩
def TmF (f:Obj->Obj):Prop:=∀o:Obj,(f o).dict=o.dict/\(o.isFreed=false->(f o).isFreed=false)
theorem DkH.update {h:Heap} {a:aZ} {f:Obj->Obj} (hf:TmF f):DkH h (h.update a f):=fun b o e=>by
 by_cases hb:a=b
 ·subst hb
  exact⟨f o,dO f e ((hf o).2 (Heap.get?_some_iff.mp e).2),(hf o).1⟩
 ·exact⟨o,(cC h f hb).trans e,rfl⟩
inductive Tm {α:Type}:Sem α->Prop
 | pure (a:α):Tm (.pure a)
 | raise (e:Value):Tm (.raise e)
 | unsupported (w:String):Tm (.unsupported w)
 | load {a:aZ} {p:Option Value} {k:Obj->Sem α} (h:∀o,Tm (k o)):Tm (.load a p k)
 | update {a:aZ} {p:Option Value} {f:Obj->Obj} {k:Unit->Sem α} (hf:TmF f) (h:Tm (k ())):Tm (.update a p f k)
 | alloc {o:Obj} {k:aZ->Sem α} (h:∀a,Tm (k a)):Tm (.alloc o k)
 | ask {k:Setting->Sem α} (h:∀a,Tm (k a)):Tm (.ask k)
 | rule {t:String} {k:Unit->Sem α} (h:Tm (k ())):Tm (.rule t k)
 | stack {k:List (Code×Pos)->Sem α} (h:∀l,Tm (k l)):Tm (.stack k)
section
variable {α β:Type}
theorem Tm.bind {m:Sem α} {f:α->Sem β} (h:Tm m) (k:∀a,Tm (f a)):Tm (m.bind f):=by
 induction h with
 | pure a=>exact k a
 | raise e=>exact .raise e
 | unsupported w=>exact .unsupported w
 | load _ ih=>exact .load ih
 | update hf _ ih=>exact .update hf ih
 | alloc _ ih=>exact .alloc ih
 | ask _ ih=>exact .ask ih
 | rule _ ih=>exact .rule ih
 | stack _ ih=>exact .stack ih
theorem Tm.bind' {m:Sem α} {f:α->Sem β} (h:Tm m) (k:∀a,Tm (f a)):Tm (m >>=f):=h.bind k
theorem Tm.wp {M:Model} {Γ:PySem.Ctx} {m:Sem α} (h:Tm m):∀ {Q:α->Pos->aJ->Prop} {E:Value->Pos->aJ->Prop} {p:Pos} {s:aJ},Sem.wp M Γ m Q E p s->
  Sem.wp M Γ m (fun a p' s' =>Q a p' s' /\DkH s.heap s'.heap) (fun e p' s' =>E e p' s' /\DkH s.heap s'.heap) p s:=by
 induction h with
 | pure a=>intro Q E p s w;rw [Sem.wp_pure] at w⊢;exact⟨w, .refl _⟩
 | raise e=>intro Q E p s w;rw [Sem.wp_raise] at w⊢;exact⟨w, .refl _⟩
 | unsupported w=>intro Q E p s w;rw [Sem.wp_unsupported] at w;exact w.elim
 | load _ ih=>
   intro Q E p s w
   rw [Sem.wp_load] at w⊢
   obtain⟨o,e,w⟩:=w
   exact⟨o,e,ih o w⟩
 | update hf _ ih=>
   intro Q E p s w
   rw [Sem.wp_update] at w⊢
   exact⟨w.1,Sem.wp_mono M Γ _ (fun _ _ _ q=>⟨q.1,(DkH.update hf).trans q.2⟩) (fun _ _ _ q=>⟨q.1,(DkH.update hf).trans q.2⟩) _ _ (ih w.2)⟩
 | alloc _ ih=>
   intro Q E p s w
   rw [Sem.wp_alloc] at w⊢
   exact Sem.wp_mono M Γ _ (fun _ _ _ q=>⟨q.1,(DkH.push _ _).trans q.2⟩) (fun _ _ _ q=>⟨q.1,(DkH.push _ _).trans q.2⟩) _ _ (ih _ w)
 | ask _ ih=>intro Q E p s w;rw [Sem.wp_ask] at w⊢;exact ih _ w
 | rule _ ih=>intro Q E p s w;rw [Sem.wp_rule] at w⊢;exact ih w
 | stack _ ih=>intro Q E p s w;rw [Sem.wp_stack] at w⊢;exact ih _ w
theorem Tm.any {M:Model} {A:bF} {m:Sem α} {Q:α->aJ->Prop} {E:Value->aJ->Prop} {s:aJ} (h:Tm m) (w:aR M A m Q E s):
  aR M A m (fun a s' =>Q a s' /\DkH s.heap s'.heap) (fun e s' =>E e s' /\DkH s.heap s'.heap) s:=fun Γ p hΓ=>h.wp (w Γ p hΓ)
end
theorem qKw (f:Array Value->Array Value):TmF (Obj.mapFields f):=fun o=>by
 obtain⟨c,d,dt,sl⟩:=o
 cases dt <;> exact⟨rfl,fun h=>h⟩
theorem qWz (a:aZ):Tm (load a):= .load fun o=> .pure o
theorem qJ7 {a:aZ} {f:Obj->Obj} (h:TmF f):Tm (update a f):= .update h (.pure ())
theorem vW9 (o:Obj):Tm (alloc o):= .alloc fun a=> .pure a
theorem qY1 (v:Value):Tm (fieldsOf v):=by
 unfold fieldsOf
 split
 ·refine .bind' (qWz _) fun o=>?_
  split <;> first | exact .pure _ | exact .unsupported _
 ·exact .unsupported _
theorem qVa (v:Value) (i:Nat):Tm (field v i):=by
 unfold field
 refine .bind' (qY1 v) fun vs=>?_
 split <;> first | exact .pure _ | exact .unsupported _
theorem qQd (v:Value) (i:Nat) (x:Value):Tm (setField v i x):=by
 unfold setField
 split
 ·unfold updateField
  refine .bind' (qWz _) fun o=>?_
  split
  ·split
   ·exact qJ7 (qKw _)
   ·exact .unsupported _
  ·exact .unsupported _
 ·exact .unsupported _
theorem qXl (e:Value) (f:Option aZ):Tm (setFlight e f):=by
 unfold setFlight
 refine .bind' (qVa _ _) fun tb=>?_
 split
 ·exact qQd _ _ _
 ·exact .pure _
theorem qQf:∀l:List Env,Tm (readyFrames l)
 | []=> .pure _
 | env::outer=>by
   unfold readyFrames
   split
   ·refine .bind' (qWz _) fun o=>?_
    split
    ·exact .pure _
    ·refine .bind' ?_ fun _=> .bind' ?_ fun _=> .bind' (qJ7 fun o=>⟨rfl,fun h=>?_⟩) fun _=>qQf outer
     ·unfold behindIsImport
      split
      ·exact .pure _
      ·split
       ·exact .pure _
       ·exact .bind' (qVa _ _) fun _=> .pure _
     ·unfold keptBack
      split
      ·split
       ·exact .pure _
       ·unfold underTheClaimsCaller
        exact .bind' (.bind' (.stack fun _=> .pure _) fun _=> .pure _) fun _=> .pure _
      ·exact .pure _
     ·obtain⟨c,d,dt,sl⟩:=o
      cases dt <;> first | rfl | exact h
   ·exact .unsupported _
theorem qKy (env:Env):Tm (PySem.frameOf env):=by
 unfold PySem.frameOf frameEnvs
 refine .bind' (.bind' (.stack fun _=> .pure _) fun _=> .pure _) fun l=> .bind' ?_ fun o=>?_
 ·unfold frameObject
  split
  ·exact .pure _
  ·exact .bind' (qQf _) fun _=> .pure _
 ·split <;> first | exact .pure _ | exact .unsupported _
theorem qXn (t:String) (vs:List Value):Tm (newFields t vs):=by
 unfold newFields newObj
 dsimp only
 have k:Tm (newObjAsIs (.type t) (.fields vs.toArray)):=by
  unfold newObjAsIs
  exact .bind' (vW9 _) fun _=> .pure _
 split
 ·exact .bind' (.unsupported _) fun _=>k
 ·exact k
theorem qXm (e:Value) (env:Env):Tm (noteFrame e env):=by
 unfold noteFrame
 split
 ·refine .bind' (qVa _ _) fun head=>?_
  have rest:∀f,Tm (do setField e 1 (←EntryCells.newEntry head (←PySem.frameOf env) .none (rawInt f) .none (←entryPlaceOf f (head != .none)))):=fun f=>by
   refine .bind' (qKy _) fun fr=> .bind' ?_ fun pl=> .bind' ?_ fun t=>qQd _ _ _
   ·unfold entryPlaceOf
    refine .bind' (.stack fun _=> .pure _) fun acts=>?_
    split <;> exact .pure _
   ·unfold EntryCells.newEntry
    exact qXn _ _
  split
  ·refine .bind' (qVa _ _) fun x=>?_
   split
   ·exact .pure _
   ·exact .bind' (qQd _ _ _) fun _=>rest _
  ·exact rest _
 ·exact .unsupported _
theorem qKx (env:Env) (e:Value):Tm (leaving env e):= .bind' (qXm _ _) fun _=>qXl _ _
def CXd (P:aH) (w:bJ):CXT:=fun outer H s E e s' =>∃(ea:aZ) (cls a0:Value) (H' :Hp) (B:Heap) (ox:Option aZ),
 e= .ref ea/\s'.os=s.os/\AllBare s'.gens/\Un (frs outer) [] H H' s.heap s'.heap/\HOk P w H' s'.heap/\Heap.FlyingW B outer ea cls a0 s'.heap/\
 (∀b o,s'.heap.get? b=some o->b∉frs outer->(H' b≠none\/s.heap.get? b≠none)->B.get? b=some o)/\H' ea=none/\s.heap.get? ea=none/\(∃oe,s'.heap.get? ea=some oe/\oe.dict=ox)/\E cls ox H'
theorem qR {P:aH} {w:bJ} {K:aQ} {mg:Str->Option Value} {base:Heap} {N:List Str} {qual:Str} {scope:Scope} {f:aZ} {cdv:Value} {A:bF} {outer:List Env} {s:aJ} {H:Hp} {E:XK}:
  qQz (CXd P w) (cxOf (CXd P w) P w K mg base N qual scope f cdv A outer s H E) E:=by
 intro pins σ H1 s1 e s' I hcx
 obtain⟨ea,cls,a0,H2,B,ox,rfl,hos,bare,un,hok,fl,cov,hea,sea,⟨oe,hoe,hdic⟩,he⟩:=hcx
 have fr:(A.deeper (envOfC qual scope s.heap.objs.size f cdv)).frames=some (envOfC qual scope s.heap.objs.size f cdv::outer):=I.ok.frames
 have hfs:∀b,b∈frs (envOfC qual scope s.heap.objs.size f cdv::outer)->b=s.heap.objs.size\/b∈frs outer:=fun b hb=>by
  obtain⟨env,he,hf⟩:=eE.mp hb
  rcases aB.mp he with rfl | he
  ·exact .inl (Option.some.inj hf).symm
  ·exact .inr (eE.mpr ⟨env,he,hf⟩)
 have hof:∀b,b∈frs outer->b∈frs (envOfC qual scope s.heap.objs.size f cdv::outer):=fun b hb=>by
  obtain⟨env,he,hf⟩:=eE.mp hb
  exact eE.mpr ⟨env,aE _ he,hf⟩
 have old:∀b o,s.heap.get? b=some o->b≠s.heap.objs.size:=fun b o e=>bZ (aD e)
 have nx:∀b,b∉([]:List aZ):=fun b=>by simp
 have u1:Un (frs outer) [] H H1 s.heap s1.heap:=I.base
 have u2:Un (frs (envOfC qual scope s.heap.objs.size f cdv::outer)) [] H1 H2 s1.heap s'.heap:=un
 show aR _ _ (leaving _ _) _ _ _
 refine dB ((qKx _ _).any (wpAny_leaves_onW fr rfl fl (E:=fun _ _=>False) (Q:=fun _ t' =>∃h'',t' ={s' with heap:=h'' }/\Heap.FlyingW B outer ea cls a0 h'' /\s'.heap.UpToSlots h'') fun h'' fl2 sm=>⟨h'',rfl,fl2,sm⟩)) (fun _ t' hq=>?_) fun _ _ z=>z.1.elim
 obtain⟨⟨h'',rfl,fl2,sm⟩,dk⟩:=hq
 obtain⟨oe',q1,q2⟩:=dk ea oe hoe
 have k2:∀b o,s'.heap.get? b=some o->b∉frs (envOfC qual scope s.heap.objs.size f cdv::outer)->(H2 b≠none\/s1.heap.get? b≠none)->h''.get? b=some o:=fun b o e n1 n2=>fl2.1 b o (cov b o e n1 n2)
 have slt:∀b o,s1.heap.get? b=some o->b∈frs (envOfC qual scope s.heap.objs.size f cdv::outer)->∃sl,h''.get? b=some {o with slots:=sl}:=fun b o e hb=>by
  obtain⟨_,o',ho',hd⟩:=I.stack.mem hb
  rw [e] at ho'
  cases ho'
  obtain⟨sl,e1⟩:=u2.slot b o e (I.stkFree b hb) hb (nx b)
  obtain⟨sl',e2⟩:=sm b _ e1 hd
  exact⟨sl',e2⟩
 have fr2:∀b u,H2 b=some u->b∉frs (envOfC qual scope s.heap.objs.size f cdv::outer):=fun b u e hb=>by
  obtain⟨_,o',ho',hd⟩:=I.stack.mem hb
  rw [u2.free b o' ho' (I.stkFree b hb) (nx b)] at e
  cases e
 have nof:∀b o,s.heap.get? b=some o->b∉frs outer->b∉frs (envOfC qual scope s.heap.objs.size f cdv::outer):=fun b o e n z=>(hfs b z).elim (old b o e) n
 have thr:∀b o,s.heap.get? b=some o->∃o',h''.get? b=some o' :=fun b o e=>by
  obtain⟨o1,e1⟩:=u1.there b o e (nx b)
  by_cases hb:b∈frs (envOfC qual scope s.heap.objs.size f cdv::outer)
  ·obtain⟨sl,z⟩:=slt b o1 e1 hb
   exact⟨_,z⟩
  ·obtain⟨o2,e2⟩:=u2.there b o1 e1 (nx b)
   exact⟨o2,k2 b o2 e2 hb (.inr (by rw [e1];simp))⟩
 refine⟨ea,cls,a0,H2,B,ox,rfl,hos.trans I.os,bare,⟨fun b o e n hb _=>?_,fun b o e n hb _=>?_,fun b o e n _=>?_,fun b o e _=>thr b o e,fun b xs e=>u2.tups b xs (u1.tups b xs e),fun b o u e=>u2.frzs b o u (u1.frzs b o u e),fun b ps e=>?_⟩,fun b u e=>?_,fl2,fun b o e nb hh=>?_,hea,?_,⟨oe',q1,q2.trans hdic⟩,he⟩
 ·have e1:=u1.keep b o e n hb (nx b)
  have n1:=u1.free b o e n (nx b)
  have hb2:=nof b o e hb
  exact k2 b o (u2.keep b o e1 n1 hb2 (nx b)) hb2 (.inr (by rw [e1];simp))
 ·obtain⟨sl,e1⟩:=u1.slot b o e n hb (nx b)
  obtain⟨sl2,e2⟩:=slt b _ e1 (hof b hb)
  exact⟨sl2,e2⟩
 ·obtain⟨o1,e1⟩:=u1.there b o e (nx b)
  exact u2.free b o1 e1 (u1.free b o e n (nx b)) (nx b)
 ·obtain⟨m1,e1⟩:=u1.tbls b ps e
  obtain⟨m2,e2⟩:=u2.tbls b _ e1
  exact⟨m1 ++ m2,by rw [e2];first | rw [Array.append_assoc] | simp⟩
 ·refine(hok b u e).stay (fun c v hc q=>?_) (fun _ q=>q) fun _ _ q=>q
  rcases hc with z | z
  ·subst z
   exact k2 c v q (fr2 c u e) (.inl (by rw [e];simp))
  ·exact k2 c v q (fr2 c _ z) (.inl (by rw [z];simp))
 ·have st:b∉frs (envOfC qual scope s.heap.objs.size f cdv::outer)/\(H2 b≠none\/s1.heap.get? b≠none)/\∃o2,s'.heap.get? b=some o2:=by
   rcases hh with z | z
   ·cases q:H2 b with
    | none=>exact absurd q z
    | some u=>exact⟨fr2 b u q, .inl (by simp),hok.there q⟩
   ·cases q:s.heap.get? b with
    | none=>exact absurd q z
    | some o1=>
      obtain⟨o3,e3⟩:=u1.there b o1 q (nx b)
      exact⟨nof b o1 q nb, .inr (by rw [e3];simp),u2.there b o3 e3 (nx b)⟩
  obtain⟨n1,n2,o2,e2⟩:=st
  have e3:=k2 b o2 e2 n1 n2
  rw [e] at e3
  cases e3
  exact cov b _ e2 n1 n2
 ·cases q:s.heap.get? ea with
  | none=>rfl
  | some o=>
    obtain⟨o',e1⟩:=u1.there ea o q (nx ea)
    rw [sea] at e1
    cases e1
theorem Fun.okD {P:aH} {w:bJ} {K:aQ} {mg:Str->Option Value} {base:Heap} {x qual:Str} {st:Stmt} {f:aZ} {fd:bW} {N ps:List Str} {k:Nat} {sp:Sp} (F:Fun K x qual st f fd) (S:FnScope N ps (qJ st)) (len:∀vs H Q E,sp vs H Q E->vs.length=ps.length)
  (hbody:∀(cdv:Value) (A:bF) (outer:List Env) (s:aJ) (H:Hp) (vs:List V) (Q:VK) (E:XK),Room k (A.deeper (envOfC qual (qJ st) s.heap.objs.size f cdv))->sp vs H Q E->
   ∃t,PSs (cxOf (CXd P w) P w K mg base N qual (qJ st) f cdv A outer s H E) (qH st) t/\t {nx:=fun _ H' =>Q .non H',rt:=Q} (yK N vs) H):FnOk P w K mg base (CXd P w) (k + 1) f fd ps sp:=by
 obtain⟨oc,od,kV,doc,pm,an,cdv,ct,osl,rfl,lk,hcd⟩:=F.ex
 exact zZf lk hcd S len fun A outer s H vs Q E hr hsp=>hbody cdv A outer s H vs Q E hr hsp
def ExcD (p:aZ) (cls:Value) (ox:Option aZ):Heap->Prop:=fun h=>∃o,h.get? p=some o/\o.cls=cls/\o.dict=ox
end L2
namespace DX
open PySem L2 PyProof.Rows
inductive Kd where
 | lst | tup | dct (ks:List Key) | dcT (ks:List (List Key)) | obj (C:Nat) (fs:List Str) | exc (C:Nat) (fs:List Str)
inductive D where
 | non | int (i:Int) | str (s:Str) | bl (b:Bool) | fn (j:Nat) | nd (k:Kd) (ds:List D)
inductive O where
 | fz (d:D) | ow (k:Kd) (os:List O)
abbrev D.tup (ds:List D):D:= .nd .tup ds
abbrev Fp:=aZ->Nat
def one (p:aZ):Fp:=fun a=>if a=p then 1 else 0
theorem jV {p:aZ}:one p p=1:=if_pos rfl
theorem j7 {p a:aZ} (h:a≠p):one p a=0:=if_neg h
def hide (T:Fp) (H:Hp):Hp:=fun a=>if T a=0 then H a else none
theorem vT {T:Fp} {H:Hp} {a:aZ} (h:T a=0):hide T H a=H a:=if_pos h
theorem qQ5 {T:Fp} {H:Hp} {a:aZ} (h:T a≠0):hide T H a=none:=if_neg h
theorem wF {T:Fp} {H:Hp} {a:aZ} {o:HO} (h:hide T H a=some o):T a=0/\H a=some o:=by
 by_cases z:T a=0
 ·rw [vT z] at h;exact⟨z,h⟩
 ·rw [qQ5 z] at h;cases h
theorem qG {T:Fp} {H:Hp}:Same (hide T H) H:=fun _ _ h=>(wF h).2
theorem zW {T T' :Fp} {H H' :Hp} (h:∀a o,T a=0->H a=some o->T' a=0/\H' a=some o):Same (hide T H) (hide T' H'):=fun a o e=>by
 obtain⟨z,q⟩:=wF e
 obtain⟨z',q'⟩:=h a o z q
 rw [vT z'];exact q'
theorem zX {T T' :Fp} {H:Hp} (h:∀a,T a=0->T' a=0):Same (hide T H) (hide T' H):=zW fun a _ z q=>⟨h a z,q⟩
theorem vO {T T' :Fp} {H:Hp} (h:∀a,T a=0↔T' a=0):hide T H=hide T' H:=by
 funext a
 by_cases z:T a=0
 ·rw [vT z,vT ((h a).mp z)]
 ·rw [qQ5 z,qQ5 fun z' =>z ((h a).mpr z')]
theorem qZ9 {T:Fp} {H:Hp} {p:aZ} {o:HO} (h:T p≠0):hide T (upd H p o)=hide T H:=by
 funext a
 by_cases z:T a=0
 ·rw [vT z,vT z,qU fun q=>h (by rw [←q];exact z)]
 ·rw [qQ5 z,qQ5 z]
def Hb:HO->Prop
 | .tup _=>False
 | .frz _ _=>False
 | .tbl _=>False
 | .tab _ _ _=>False
 | _=>True
theorem vS {K:aQ} {H H' :Hp} {a:aZ} {xs:List V} (e:Same H H') (h:SqL K H a xs):SqL K H' a xs:=by
 rcases h with(h | ⟨o,h⟩) | h
 ·exact .inl (.inl (e _ _ h))
 ·exact .inl (.inr ⟨o,e _ _ h⟩)
 ·exact .inr h
def XdAt (F:Hp) (fs:List Str) (vs:List V):Option aZ->Prop
 | none=>fs=[]
 | some dx=>F dx=some (.xd (fs.zip vs))
def NdAt (K:aQ) (c:Nat->aZ) (F:Hp) (p:aZ):Kd->List V->Prop
 | .lst,vs=>SqL K F p vs
 | .tup,vs=>SqT K F p vs
 | .dct ks,vs=>ks.length=vs.length/\ks.Nodup/\F p=some (.dK (ks.zip vs))
 | .dcT ks,vs=>ks.length=vs.length/\ks.Nodup/\F p=some (.dT (ks.zip vs))
 | .obj C fs,vs=>fs.length=vs.length/\∃dx,F p=some (.ins (c C) dx (fs.zip vs))
 | .exc C fs,vs=>fs.length=vs.length/\∃ox,F p=some (.ext (ExcD p (.ref (c C)) ox))/\XdAt F fs vs ox
def OwAt (c:Nat->aZ) (H:Hp) (p:aZ):Kd->List V->Prop
 | .lst,vs=>H p=some (.lst vs)
 | .tup,_=>False
 | .dct ks,vs=>ks.length=vs.length/\ks.Nodup/\H p=some (.dK (ks.zip vs))
 | .dcT ks,vs=>ks.length=vs.length/\ks.Nodup/\H p=some (.dT (ks.zip vs))
 | .obj C fs,vs=>fs.length=vs.length/\∃dx,H p=some (.ins (c C) dx (fs.zip vs))
 | .exc _ _,_=>False
section
variable {K:aQ} {c:Nat->aZ} {F F' H H' :Hp} {p:aZ} {k:Kd} {vs:List V}
theorem NdAt.same (e:Same F F') (h:NdAt K c F p k vs):NdAt K c F' p k vs:=by
 cases k with
 | lst=>exact vS e h
 | tup=>exact e.tup h
 | dct ks=>exact⟨h.1,h.2.1,e _ _ h.2.2⟩
 | dcT ks=>exact⟨h.1,h.2.1,e _ _ h.2.2⟩
 | obj C fs=>obtain⟨a,dx,b⟩:=h;exact⟨a,dx,e _ _ b⟩
 | exc C fs=>
   obtain⟨a,ox,b,d⟩:=h
   refine⟨a,ox,e _ _ b,?_⟩
   cases ox with
   | none=>exact d
   | some dx=>exact e _ _ d
theorem OwAt.nd (h:OwAt c H p k vs) (e:F p=H p):NdAt K c F p k vs:=by
 cases k with
 | lst=>exact SqL.of (e.trans h)
 | tup=>exact h.elim
 | dct ks=>exact⟨h.1,h.2.1,e.trans h.2.2⟩
 | dcT ks=>exact⟨h.1,h.2.1,e.trans h.2.2⟩
 | obj C fs=>obtain⟨a,dx,b⟩:=h;exact⟨a,dx,e.trans b⟩
 | exc C fs=>exact h.elim
theorem OwAt.eq (h:OwAt c H p k vs) (e:H' p=H p):OwAt c H' p k vs:=by
 cases k with
 | lst=>exact e.trans h
 | tup=>exact h.elim
 | dct ks=>exact⟨h.1,h.2.1,e.trans h.2.2⟩
 | dcT ks=>exact⟨h.1,h.2.1,e.trans h.2.2⟩
 | obj C fs=>obtain⟨a,dx,b⟩:=h;exact⟨a,dx,e.trans b⟩
 | exc C fs=>exact h.elim
theorem OwAt.hb (h:OwAt c H p k vs):∃o,H p=some o/\Hb o:=by
 cases k with
 | lst=>exact⟨_,h,trivial⟩
 | tup=>exact h.elim
 | dct ks=>exact⟨_,h.2.2,trivial⟩
 | dcT ks=>exact⟨_,h.2.2,trivial⟩
 | obj C fs=>obtain⟨a,dx,b⟩:=h;exact⟨_,b,trivial⟩
 | exc C fs=>exact h.elim
end
inductive DAt (K:aQ) (c:Nat->aZ) (F:Hp):V->D->Prop
 | non:DAt K c F .non .non
 | int (i:Int):DAt K c F (.int i) (.int i)
 | str (s:Str):DAt K c F (.str s) (.str s)
 | bl (b:Bool):DAt K c F (.bl b) (.bl b)
 | fn (j:Nat):DAt K c F (.ref (c j)) (.fn j)
 | nd {p:aZ} {k:Kd} {vs:List V} {ds:List D} (h:NdAt K c F p k vs) (len:vs.length=ds.length) (r:∀(i:Nat) (v:V) (d:D),vs[i]?=some v->ds[i]?=some d->DAt K c F v d):DAt K c F (.ref p) (.nd k ds)
structure DsAt (K:aQ) (c:Nat->aZ) (F:Hp) (vs:List V) (ds:List D):Prop where
 len:vs.length=ds.length
 r:∀(i:Nat) (v:V) (d:D),vs[i]?=some v->ds[i]?=some d->DAt K c F v d
section
variable {K:aQ} {c:Nat->aZ} {F F' :Hp}
theorem DAt.un {v:V} {k:Kd} {ds:List D} (h:DAt K c F v (.nd k ds)):∃p vs,v= .ref p/\NdAt K c F p k vs/\DsAt K c F vs ds:=by
 cases h with
 | nd h l r=>exact⟨_,_,rfl,h,l,r⟩
theorem DAt.of {p:aZ} {k:Kd} {vs:List V} {ds:List D} (h:NdAt K c F p k vs) (r:DsAt K c F vs ds):DAt K c F (.ref p) (.nd k ds):= .nd h r.len r.r
theorem DAt.same (e:Same F F') {v:V} {d:D} (h:DAt K c F v d):DAt K c F' v d:=by
 induction h with
 | non=>exact .non
 | int i=>exact .int i
 | str i=>exact .str i
 | bl i=>exact .bl i
 | fn i=>exact .fn i
 | nd h l r ih=>exact .nd (h.same e) l ih
theorem DsAt.same (e:Same F F') {vs:List V} {ds:List D} (h:DsAt K c F vs ds):DsAt K c F' vs ds:=⟨h.len,fun i v d a b=>(h.r i v d a b).same e⟩
theorem DsAt.nil:DsAt K c F [] []:=⟨rfl,fun i v d h _=>by simp at h⟩
theorem DsAt.cons {v:V} {d:D} {vs:List V} {ds:List D} (h:DAt K c F v d) (k:DsAt K c F vs ds):DsAt K c F (v::vs) (d::ds):=by
 refine⟨by rw [aK,aK,k.len],fun i u x a b=>?_⟩
 cases i with
 | zero=>cases a;cases b;exact h
 | succ i=>exact k.r i u x (by simpa using a) (by simpa using b)
theorem DsAt.un {vs:List V} {d:D} {ds:List D} (h:DsAt K c F vs (d::ds)):∃v r,vs=v::r/\DAt K c F v d/\DsAt K c F r ds:=by
 cases vs with
 | nil=>cases h.len
 | cons v r=>exact⟨v,r,rfl,h.r 0 v d rfl rfl,Nat.succ.inj h.len,fun i u x a b=>h.r (i + 1) u x (by simpa using a) (by simpa using b)⟩
theorem DsAt.un0 {vs:List V} (h:DsAt K c F vs []):vs=[]:=cG h.len
theorem DsAt.get {vs:List V} {ds:List D} {i:Nat} {d:D} (h:DsAt K c F vs ds) (e:ds[i]?=some d):∃v,vs[i]?=some v/\DAt K c F v d:=by
 have hi:i < vs.length:=by rw [h.len];exact(aT.mp e).1
 exact⟨vs[i],aF hi,h.r i _ d (aF hi) e⟩
theorem DsAt.append {vs ws:List V} {ds es:List D} (h:DsAt K c F vs ds) (k:DsAt K c F ws es):DsAt K c F (vs ++ ws) (ds ++ es):=by
 refine⟨by rw [aP,aP,h.len,k.len],fun i v d a b=>?_⟩
 by_cases hi:i < vs.length
 ·rw [bS hi] at a
  rw [bS (by rw [←h.len];exact hi)] at b
  exact h.r i v d a b
 ·rw [cQ (by omega)] at a
  rw [cQ (by rw [←h.len];omega),←h.len] at b
  exact k.r _ v d a b
theorem DsAt.take {vs:List V} {ds:List D} (n:Nat) (h:DsAt K c F vs ds):DsAt K c F (vs.take n) (ds.take n):=by
 refine⟨by rw [dX,dX,h.len],fun i v d a b=>?_⟩
 rw [List.getElem?_take] at a b
 split at a
 ·rename_i z;rw [if_pos z] at b;exact h.r i v d a b
 ·cases a
theorem DsAt.drop {vs:List V} {ds:List D} (n:Nat) (h:DsAt K c F vs ds):DsAt K c F (vs.drop n) (ds.drop n):=by
 refine⟨by rw [List.length_drop,List.length_drop,h.len],fun i v d a b=>?_⟩
 rw [List.getElem?_drop] at a b
 exact h.r _ v d a b
end
mutual
def OAt (K:aQ) (c:Nat->aZ) (F H:Hp):O->V->Fp->Prop
 | .fz d,v,Z=>DAt K c F v d/\∀a,Z a=0
 | .ow k os,v,Z=>∃p vs Z',v= .ref p/\OwAt c H p k vs/\OsAt K c F H os vs Z' /\∀a,Z a=one p a + Z' a
def OsAt (K:aQ) (c:Nat->aZ) (F H:Hp):List O->List V->Fp->Prop
 | [],vs,Z=>vs=[]/\∀a,Z a=0
 | o::os,vs,Z=>∃v r Z1 Z2,vs=v::r/\OAt K c F H o v Z1/\OsAt K c F H os r Z2/\∀a,Z a=Z1 a + Z2 a
end
mutual
def fzO:O->D
 | .fz d=>d
 | .ow k os=> .nd k (fzOs os)
def fzOs:List O->List D
 | []=> []
 | o::os=>fzO o::fzOs os
end
theorem xC:∀os:List O,fzOs os=os.map fzO
 | []=>by simp [fzOs]
 | o::os=>by rw [fzOs,aC,xC os]
section
variable {K:aQ} {c:Nat->aZ} {F F' H H' :Hp} {v:V} {vs:List V} {Z Z' :Fp} {d:D} {k:Kd} {os:List O} {o:O}
theorem OAt.fz:OAt K c F H (.fz d) v Z↔DAt K c F v d/\∀a,Z a=0:=by rw [OAt]
theorem OAt.ow:OAt K c F H (.ow k os) v Z↔∃p vs Z',v= .ref p/\OwAt c H p k vs/\OsAt K c F H os vs Z' /\∀a,Z a=one p a + Z' a:=by rw [OAt]
theorem OsAt.nil:OsAt K c F H [] vs Z↔vs=[]/\∀a,Z a=0:=by rw [OsAt]
theorem OsAt.cons:OsAt K c F H (o::os) vs Z↔∃v r Z1 Z2,vs=v::r/\OAt K c F H o v Z1/\OsAt K c F H os r Z2/\∀a,Z a=Z1 a + Z2 a:=by rw [OsAt]
mutual
theorem OAt.keep (e:Same F F'):∀ {o:O} {v:V} {Z:Fp},(∀a,Z a≠0->H' a=H a)->OAt K c F H o v Z->OAt K c F' H' o v Z
 | .fz d,v,Z,_,h=>by
   rw [OAt.fz] at h⊢
   exact⟨h.1.same e,h.2⟩
 | .ow k os,v,Z,q,h=>by
   rw [OAt.ow] at h⊢
   obtain⟨p,vs,Z',a,b,c,d⟩:=h
   exact⟨p,vs,Z',a,b.eq (q p (by rw [d,jV];omega)),OsAt.keep e (fun a z=>q a (by rw [d];omega)) c,d⟩
theorem OsAt.keep (e:Same F F'):∀ {os:List O} {vs:List V} {Z:Fp},(∀a,Z a≠0->H' a=H a)->OsAt K c F H os vs Z->OsAt K c F' H' os vs Z
 | [],vs,Z,_,h=>by rw [OsAt.nil] at h⊢;exact h
 | o::os,vs,Z,q,h=>by
   rw [OsAt.cons] at h⊢
   obtain⟨v,r,Z1,Z2,a,b,c,d⟩:=h
   exact⟨v,r,Z1,Z2,a,OAt.keep e (fun a z=>q a (by rw [d];omega)) b,OsAt.keep e (fun a z=>q a (by rw [d];omega)) c,d⟩
end
mutual
theorem OAt.dat (e:Same F F'):∀ {o:O} {v:V} {Z:Fp},(∀a,Z a≠0->F' a=H a)->OAt K c F H o v Z->DAt K c F' v (fzO o)
 | .fz d,v,Z,_,h=>by
   rw [OAt.fz] at h
   rw [fzO]
   exact h.1.same e
 | .ow k os,v,Z,q,h=>by
   rw [OAt.ow] at h
   obtain⟨p,vs,Z',rfl,b,c,d⟩:=h
   rw [fzO]
   exact .of (b.nd (q p (by rw [d,jV];omega))) (OsAt.dat e (fun a z=>q a (by rw [d];omega)) c)
theorem OsAt.dat (e:Same F F'):∀ {os:List O} {vs:List V} {Z:Fp},(∀a,Z a≠0->F' a=H a)->OsAt K c F H os vs Z->DsAt K c F' vs (fzOs os)
 | [],vs,Z,_,h=>by rw [OsAt.nil] at h;rw [h.1,fzOs];exact .nil
 | o::os,vs,Z,q,h=>by
   rw [OsAt.cons] at h
   obtain⟨v,r,Z1,Z2,rfl,b,c,d⟩:=h
   rw [fzOs]
   exact .cons (OAt.dat e (fun a z=>q a (by rw [d];omega)) b) (OsAt.dat e (fun a z=>q a (by rw [d];omega)) c)
end
mutual
theorem OAt.hb:∀ {o:O} {v:V} {Z:Fp} {a:aZ},OAt K c F H o v Z->Z a≠0->∃u,H a=some u/\Hb u
 | .fz d,v,Z,a,h,q=>by rw [OAt.fz] at h;exact absurd (h.2 a) q
 | .ow k os,v,Z,a,h,q=>by
   rw [OAt.ow] at h
   obtain⟨p,vs,Z',rfl,b,c,d⟩:=h
   by_cases z:a=p
   ·subst z;exact b.hb
   ·exact OsAt.hb c (by rw [d,j7 z] at q;omega)
theorem OsAt.hb:∀ {os:List O} {vs:List V} {Z:Fp} {a:aZ},OsAt K c F H os vs Z->Z a≠0->∃u,H a=some u/\Hb u
 | [],vs,Z,a,h,q=>by rw [OsAt.nil] at h;exact absurd (h.2 a) q
 | o::os,vs,Z,a,h,q=>by
   rw [OsAt.cons] at h
   obtain⟨v,r,Z1,Z2,rfl,b,c,d⟩:=h
   by_cases z:Z1 a=0
   ·exact OsAt.hb c (by rw [d] at q;omega)
   ·exact OAt.hb b z
end
theorem OAt.cast (h:OAt K c F H o v Z) (e:∀a,Z' a=Z a):OAt K c F H o v Z' :=by rw [show Z' =Z from funext e];exact h
theorem OsAt.cast (h:OsAt K c F H os vs Z) (e:∀a,Z' a=Z a):OsAt K c F H os vs Z' :=by rw [show Z' =Z from funext e];exact h
theorem OsAt.length:∀ {os:List O} {vs:List V} {Z:Fp},OsAt K c F H os vs Z->vs.length=os.length
 | [],vs,Z,h=>by rw [OsAt.nil] at h;rw [h.1];rfl
 | o::os,vs,Z,h=>by
   rw [OsAt.cons] at h
   obtain⟨v,r,Z1,Z2,rfl,b,c,d⟩:=h
   rw [aK,aK,c.length]
theorem OsAt.fzs:∀ {ds:List D} {vs:List V} {Z:Fp},OsAt K c F H (ds.map .fz) vs Z↔DsAt K c F vs ds/\∀a,Z a=0
 | [],vs,Z=>by
   rw [List.map_nil,OsAt.nil]
   exact⟨fun h=>⟨by rw [h.1];exact .nil,h.2⟩,fun h=>⟨h.1.un0,h.2⟩⟩
 | d::ds,vs,Z=>by
   rw [aC,OsAt.cons]
   constructor
   ·rintro⟨v,r,Z1,Z2,rfl,b,c,d⟩
    rw [OAt.fz] at b
    rw [OsAt.fzs] at c
    exact⟨.cons b.1 c.1,fun a=>by rw [d,b.2,c.2]⟩
   ·rintro⟨h,z⟩
    obtain⟨v,r,rfl,b,c⟩:=h.un
    exact⟨v,r,fun _=>0,fun _=>0,rfl,OAt.fz.mpr ⟨b,fun _=>rfl⟩,OsAt.fzs.mpr ⟨c,fun _=>rfl⟩,fun a=>z a⟩
theorem OsAt.focus:∀ {os:List O} {vs:List V} {Z:Fp} {j:Nat} {o:O},OsAt K c F H os vs Z->os[j]?=some o->∃(v:V) (Z1 R:Fp),vs[j]?=some v/\OAt K c F H o v Z1/\(∀a,Z a=Z1 a + R a)/\
  ∀F' H' o' v' Z1',Same F F' ->(∀a,R a≠0->H' a=H a)->OAt K c F' H' o' v' Z1' ->OsAt K c F' H' (os.set j o') (vs.set j v') (fun a=>Z1' a + R a)
 | [],vs,Z,j,o,h,e=>by simp at e
 | o1::os,vs,Z,0,o,h,e=>by
   rw [OsAt.cons] at h
   obtain⟨v,r,Z1,Z2,rfl,b,c,d⟩:=h
   cases e
   refine⟨v,Z1,Z2,rfl,b,d,fun F' H' o' v' Z1' sm k q=>?_⟩
   rw [List.set_cons_zero,List.set_cons_zero,OsAt.cons]
   exact⟨v',r,Z1',Z2,rfl,q,c.keep sm k,fun _=>rfl⟩
 | o1::os,vs,Z,j + 1,o,h,e=>by
   rw [OsAt.cons] at h
   obtain⟨v,r,Z1,Z2,rfl,b,c,d⟩:=h
   obtain⟨w,Y,R,h1,h2,h3,h4⟩:=OsAt.focus (j:=j) c (by simpa using e)
   refine⟨w,Y,fun a=>Z1 a + R a,by simpa using h1,h2,fun a=>by rw [d,h3];(try dsimp only at *);omega,fun F' H' o' v' Z1' sm k q=>?_⟩
   rw [List.set_cons_succ,List.set_cons_succ,OsAt.cons]
   exact⟨v,r.set j v',Z1,_,rfl,b.keep sm fun a z=>k a (by(try dsimp only at *);omega),h4 F' H' o' v' Z1' sm (fun a z=>k a (by(try dsimp only at *);omega)) q,fun a=>by(try dsimp only at *);omega⟩
theorem OsAt.append:∀ {os:List O} {vs:List V} {Z:Fp} {os' :List O} {vs' :List V} {Z' :Fp},OsAt K c F H os vs Z->OsAt K c F H os' vs' Z' ->OsAt K c F H (os ++ os') (vs ++ vs') (fun a=>Z a + Z' a)
 | [],vs,Z,os',vs',Z',h,k=>by
   rw [OsAt.nil] at h
   rw [h.1]
   exact k.cast fun a=>by rw [h.2];omega
 | o::os,vs,Z,os',vs',Z',h,k=>by
   rw [OsAt.cons] at h
   obtain⟨v,r,Z1,Z2,rfl,b,c,d⟩:=h
   rw [List.cons_append,List.cons_append,OsAt.cons]
   exact⟨v,r ++ vs',Z1,_,rfl,b,c.append k,fun a=>by rw [d];(try dsimp only at *);omega⟩
theorem OsAt.one:OsAt K c F H [o] [v] Z↔OAt K c F H o v Z:=by
 rw [OsAt.cons]
 constructor
 ·rintro⟨v',r,Z1,Z2,e,b,c,d⟩
  cases e
  rw [OsAt.nil] at c
  exact b.cast fun a=>by rw [d,c.2];omega
 ·intro h
  exact⟨v,[],Z,fun _=>0,rfl,h,OsAt.nil.mpr ⟨rfl,fun _=>rfl⟩,fun a=>by(try dsimp only at *);omega⟩
theorem OsAt.erase:∀ {os:List O} {vs:List V} {Z:Fp} {j:Nat} {o:O},OsAt K c F H os vs Z->os[j]?=some o->∃(v:V) (Z1 R:Fp),vs[j]?=some v/\OAt K c F H o v Z1/\(∀a,Z a=Z1 a + R a)/\OsAt K c F H (os.eraseIdx j) (vs.eraseIdx j) R
 | [],vs,Z,j,o,h,e=>by simp at e
 | o1::os,vs,Z,0,o,h,e=>by
   rw [OsAt.cons] at h
   obtain⟨v,r,Z1,Z2,rfl,b,c,d⟩:=h
   cases e
   exact⟨v,Z1,Z2,rfl,b,d,c⟩
 | o1::os,vs,Z,j + 1,o,h,e=>by
   rw [OsAt.cons] at h
   obtain⟨v,r,Z1,Z2,rfl,b,c,d⟩:=h
   obtain⟨w,Y,R,h1,h2,h3,h4⟩:=OsAt.erase (j:=j) c (by simpa using e)
   refine⟨w,Y,fun a=>Z1 a + R a,by simpa using h1,h2,fun a=>by rw [d,h3];(try dsimp only at *);omega,?_⟩
   rw [List.eraseIdx_cons_succ,List.eraseIdx_cons_succ,OsAt.cons]
   exact⟨v,_,Z1,R,rfl,b,h4,fun _=>rfl⟩
end
def getP:O->List Nat->Option O
 | o,[]=>some o
 | .ow _ os,j::π=>match os[j]? with
   | some o=>getP o π
   | none=>none
 | .fz _,_::_=>none
def setP:O->List Nat->O->O
 | _,[],x=>x
 | .ow k os,j::π,x=> .ow k (match os[j]? with
   | some o=>os.set j (setP o π x)
   | none=>os)
 | .fz d,_::_,_=> .fz d
def kids:HO->List V
 | .lst vs=>vs
 | .dK ws=>ws.map (·.2)
 | .dT ws=>ws.map (·.2)
 | .ins _ _ fs=>fs.map (·.2)
 | _=> []
def walk (H:Hp):V->List Nat->Option V
 | v,[]=>some v
 | .ref p,j::π=>match H p with
   | some o=>match(kids o)[j]? with
     | some v=>walk H v π
     | none=>none
   | none=>none
 | _,_::_=>none
theorem yL {α β:Type}:∀ {ks:List α} {vs:List β},ks.length=vs.length->(ks.zip vs).map (·.2)=vs
 | [],[],_=>rfl
 | k::ks,v::vs,h=>by rw [cJ,aC,yL (Nat.succ.inj h)]
 | [],_::_,h=>by cases h
 | _::_,[],h=>by cases h
theorem OwAt.kids {c:Nat->aZ} {H:Hp} {p:aZ} {k:Kd} {vs:List V} (h:OwAt c H p k vs):∃o,H p=some o/\kids o=vs:=by
 cases k with
 | lst=>exact⟨_,h,rfl⟩
 | tup=>exact h.elim
 | dct ks=>exact⟨_,h.2.2,yL h.1⟩
 | dcT ks=>exact⟨_,h.2.2,yL h.1⟩
 | obj C fs=>obtain⟨a,dx,b⟩:=h;exact⟨_,b,yL a⟩
 | exc C fs=>exact h.elim
theorem wI {α:Type} {l:List α} {j:Nat} {x:α} (h:l[j]?=some x):l.set j x=l:=by
 apply List.ext_getElem?
 intro i
 rw [List.getElem?_set]
 split
 ·rename_i e
  subst e
  have:=(aT.mp h).1
  rw [if_pos this,h]
 ·rfl
theorem qVp {H:Hp} {p:aZ} {o:HO} {j:Nat} {v:V} {π:List Nat} (h:H p=some o) (e:(kids o)[j]?=some v):walk H (.ref p) (j::π)=walk H v π:=by
 simp only [walk,h,e]
section
variable {K:aQ} {c:Nat->aZ} {F F' H H' :Hp}
theorem OAt.focus:∀ {π:List Nat} {o o1:O} {v:V} {Z:Fp},OAt K c F H o v Z->getP o π=some o1->∃(v1:V) (Z1 R:Fp),walk H v π=some v1/\OAt K c F H o1 v1 Z1/\(∀a,Z a=Z1 a + R a)/\
  ∀F' H' o1' Z1',Same F F' ->(∀a,R a≠0->H' a=H a)->OAt K c F' H' o1' v1 Z1' ->OAt K c F' H' (setP o π o1') v (fun a=>Z1' a + R a)
 | [],o,o1,v,Z,h,e=>by
   cases e
   refine⟨v,Z,fun _=>0,by cases v <;> rfl,h,fun a=>rfl,fun F' H' o1' Z1' sm k q=>?_⟩
   simp only [setP]
   exact q.cast fun _=>rfl
 | j::π, .fz d,o1,v,Z,h,e=>by cases e
 | j::π, .ow k os,o1,v,Z,h,e=>by
   simp only [getP] at e
   cases e0:os[j]? with
   | none=>rw [e0] at e;cases e
   | some o=>
     rw [e0] at e
     rw [OAt.ow] at h
     obtain⟨p,vs,Z',rfl,b,cc,d⟩:=h
     obtain⟨w,Y,R,h1,h2,h3,h4⟩:=cc.focus e0
     obtain⟨v1,Z1,R1,g1,g2,g3,g4⟩:=OAt.focus h2 e
     obtain⟨ho,k1,k2⟩:=b.kids
     refine⟨v1,Z1,fun a=>one p a + R a + R1 a,by rw [qVp k1 (by rw [k2];exact h1)];exact g1,g2,fun a=>by rw [d,h3,g3];(try dsimp only at *);omega,fun F' H' o1' Z1' sm k q=>?_⟩
     have q2:=g4 F' H' o1' Z1' sm (fun a z=>k a (by(try dsimp only at *);omega)) q
     have q3:=h4 F' H' _ w _ sm (fun a z=>k a (by(try dsimp only at *);omega)) q2
     rw [wI h1] at q3
     simp only [setP,e0]
     rw [OAt.ow]
     exact⟨p,vs,_,rfl,b.eq (k p (by dsimp only;rw [jV];omega)),q3,fun a=>by(try dsimp only at *);omega⟩
end
inductive Slot where
 | un | s (io:Bool) (o:O)
abbrev Ev:=List Slot
def jP (K:aQ) (c:Nat->aZ) (F H:Hp):Slot->Option V->Fp->Prop
 | .un,_,Z=>∀a,Z a=0
 | .s _ o,some v,Z=>OAt K c F H o v Z
 | .s _ _,none,_=>False
def lamQ:Str:="next_out.<locals>.<lambda>"
def TabF (c:Nat->aZ) (F:Hp):Prop:=c 77≠0->F (c 77)=some (.tab (c 78) (c 79) lamQ)
theorem TabF.same {c:Nat->aZ} {F F' :Hp} (h:TabF c F) (e:Same F F'):TabF c F' :=fun z=>e _ _ (h z)
def SlAt (K:aQ) (c:Nat->aZ) (F H:Hp):Ev->L2.St->Fp->Prop
 | [],σ,Z=>(σ=[]/\TabF c F)/\∀a,Z a=0
 | s::env,σ,Z=>∃x r Z1 Z2,σ=x::r/\jP K c F H s x Z1/\SlAt K c F H env r Z2/\∀a,Z a=Z1 a + Z2 a
section
variable {K:aQ} {c:Nat->aZ} {F F' H H' :Hp}
theorem jP.keep (e:Same F F') {s:Slot} {x:Option V} {Z:Fp} (q:∀a,Z a≠0->H' a=H a) (h:jP K c F H s x Z):jP K c F' H' s x Z:=by
 cases s with
 | un=>exact h
 | s io o=>
   cases x with
   | none=>exact h.elim
   | some v=>exact OAt.keep e q h
theorem SlAt.cast {env:Ev} {σ:L2.St} {Z Z' :Fp} (h:SlAt K c F H env σ Z) (e:∀a,Z' a=Z a):SlAt K c F H env σ Z' :=by rw [show Z' =Z from funext e];exact h
theorem jP.hb {s:Slot} {x:Option V} {Z:Fp} {a:aZ} (h:jP K c F H s x Z) (q:Z a≠0):∃u,H a=some u/\Hb u:=by
 cases s with
 | un=>exact absurd (h a) q
 | s io o=>
   cases x with
   | none=>exact h.elim
   | some v=>exact OAt.hb h q
theorem SlAt.keep (e:Same F F'):∀ {env:Ev} {σ:L2.St} {Z:Fp},(∀a,Z a≠0->H' a=H a)->SlAt K c F H env σ Z->SlAt K c F' H' env σ Z
 | [],_,_,_,h=>⟨⟨h.1.1,h.1.2.same e⟩,h.2⟩
 | s::env,σ,Z,q,h=>by
   obtain⟨x,r,Z1,Z2,a,b,cc,d⟩:=h
   exact⟨x,r,Z1,Z2,a,b.keep e fun a z=>q a (by rw [d];omega),cc.keep e fun a z=>q a (by rw [d];omega),d⟩
theorem SlAt.hb:∀ {env:Ev} {σ:L2.St} {Z:Fp} {a:aZ},SlAt K c F H env σ Z->Z a≠0->∃u,H a=some u/\Hb u
 | [],_,_,a,h,q=>absurd (h.2 a) q
 | s::env,σ,Z,a,h,q=>by
   obtain⟨x,r,Z1,Z2,_,b,cc,d⟩:=h
   by_cases z:Z1 a=0
   ·exact SlAt.hb cc (by rw [d] at q;omega)
   ·exact b.hb z
theorem SlAt.tab:∀ {env:Ev} {σ:L2.St} {Z:Fp},SlAt K c F H env σ Z->TabF c F
 | [],_,_,h=>h.1.2
 | _::_,_,_,h=>by
   obtain⟨_,_,_,_,_,_,cc,_⟩:=h
   exact cc.tab
theorem SlAt.len:∀ {env:Ev} {σ:L2.St} {Z:Fp},SlAt K c F H env σ Z->env.length=σ.length
 | [],_,_,h=>by rw [h.1.1];rfl
 | s::env,σ,Z,h=>by
   obtain⟨x,r,Z1,Z2,rfl,b,cc,d⟩:=h
   rw [aK,aK,cc.len]
theorem SlAt.focus:∀ {env:Ev} {σ:L2.St} {Z:Fp} {i:Nat} {s:Slot},SlAt K c F H env σ Z->env[i]?=some s->∃(x:Option V) (Z1 R:Fp),σ[i]?=some x/\jP K c F H s x Z1/\(∀a,Z a=Z1 a + R a)/\
  ∀(F' H' :Hp) (s' :Slot) (x' :Option V) (Z1' Y:Fp),Same F F' ->(∀a,R a≠0->H' a=H a)->jP K c F' H' s' x' Z1' ->(∀a,Y a=Z1' a + R a)->SlAt K c F' H' (env.set i s') (σ.set i x') Y
 | [],_,_,i,s,h,e=>by simp at e
 | s1::env,σ,Z,0,s,h,e=>by
   obtain⟨x,r,Z1,Z2,rfl,b,cc,d⟩:=h
   cases e
   exact⟨x,Z1,Z2,rfl,b,d,fun F' H' s' x' Z1' Y sm k q y=>⟨x',r,Z1',Z2,rfl,q,cc.keep sm k,y⟩⟩
 | s1::env,σ,Z,i + 1,s,h,e=>by
   obtain⟨x,r,Z1,Z2,rfl,b,cc,d⟩:=h
   obtain⟨y,Y,R,h1,h2,h3,h4⟩:=SlAt.focus (i:=i) cc (by simpa using e)
   refine⟨y,Y,fun a=>Z1 a + R a,by simpa using h1,h2,fun a=>by rw [d,h3];dsimp only;omega,fun F' H' s' x' Z1' Y' sm k q y' =>?_⟩
   dsimp only at k y'
   exact⟨x,r.set i x',Z1,fun a=>Z1' a + R a,rfl,b.keep sm fun a z=>k a (by omega),h4 F' H' s' x' Z1' _ sm (fun a z=>k a (by omega)) q (fun _=>rfl),fun a=>by rw [y'];dsimp only;omega⟩
end
abbrev hd2 (B W:Fp):Fp:=fun a=>B a + W a
structure Cf (K:aQ) (c:Nat->aZ) (env:Ev) (σ:L2.St) (H:Hp) (B W:Fp):Prop where
 at_:SlAt K c (hide (hd2 B W) H) H env σ W
 nd:∀a,B a + W a<=1
 hb:∀a,B a≠0->∃o,H a=some o/\Hb o
def pinF (f:Str):Bool:= !(decide (f="place") || decide (f="slots") || decide (f="terms") || decide (f="top") || decide (f="bottom"))
def Pin (x y:Option HO):Prop:=match x with
 | some (.ins C dx fs)=>∃fs',y=some (.ins C dx fs')/\∀(j:Nat) f v,pinF f=true->fs[j]?=some (f,v)->fs'[j]?=some (f,v)
 | _=>True
theorem Pin.refl {x:Option HO}:Pin x x:=by
 unfold Pin
 split
 ·exact⟨_,rfl,fun _ _ _ _ h=>h⟩
 ·trivial
theorem Pin.of {x y:Option HO} (h:y=x):Pin x y:=by subst h;exact .refl
theorem Pin.trans {x y z:Option HO} (a:Pin x y) (b:Pin y z):Pin x z:=by
 unfold Pin at a⊢
 split
 ·obtain⟨fs1,rfl,h1⟩:=a
  obtain⟨fs2,rfl,h2⟩:=b
  exact⟨fs2,rfl,fun j f v p q=>h2 j f v p (h1 j f v p q)⟩
 ·trivial
theorem Pin.none {y:Option HO}:Pin none y:=trivial
structure Step (env:Ev) (σ:L2.St) (H:Hp) (B W:Fp) (env' :Ev) (σ' :L2.St) (H' :Hp) (V:Fp):Prop where
 same:Same (hide (hd2 B W) H) (hide (hd2 B V) H')
 by_:∀a,B a≠0->H' a=H a
 new:∀a,V a≠0->W a≠0\/H a=none
 dom:∀a,H' a=none->H a=none
 pin:∀a,W a≠0->V a≠0->Pin (H a) (H' a)
 io:∀(i:Nat) (o:O),env'[i]?=some (.s true o)->(∃o0,env[i]?=some (.s true o0))/\σ'[i]?=σ[i]?
 len:env'.length=env.length
section
variable {K:aQ} {c:Nat->aZ} {env env' env2:Ev} {σ σ' σ2:L2.St} {H H' H2:Hp} {B W Y Y2 Z:Fp}
theorem Step.refl:Step env σ H B W env σ H W:=⟨Same.refl _,fun _ _=>rfl,fun _ h=> .inl h,fun _ h=>h,fun _ _ _=> .refl,fun _ o h=>⟨⟨o,h⟩,rfl⟩,rfl⟩
theorem Step.trans (a:Step env σ H B W env' σ' H' Y) (b:Step env' σ' H' B Y env2 σ2 H2 Y2):Step env σ H B W env2 σ2 H2 Y2:=by
 refine⟨a.same.trans b.same,fun z h=>(b.by_ z h).trans (a.by_ z h),fun z h=>?_,fun z h=>a.dom z (b.dom z h),fun z h1 h2=>?_,fun i o h=>?_,b.len.trans a.len⟩
 ·rcases b.new z h with q | q
  ·exact a.new z q
  ·exact .inr (a.dom z q)
 ·rcases b.new z h2 with q | q
  ·exact(a.pin z h1 q).trans (b.pin z q h2)
  ·rw [a.dom z q];exact .none
 ·obtain⟨⟨o1,h1⟩,e1⟩:=b.io i o h
  obtain⟨q,e2⟩:=a.io i o1 h1
  exact⟨q,e1.trans e2⟩
theorem Step.lift {B' W' Y' :Fp} (b:Step env σ H B' W env' σ' H' Y) (h1:∀a,B' a=B a + Z a) (h2:∀a,W' a=W a + Z a) (h3:∀a,Y' a=Y a + Z a):Step env σ H B W' env' σ' H' Y' :=by
 refine⟨?_,fun a h=>b.by_ a (by rw [h1];omega),fun a h=>?_,b.dom,fun a p q=>?_,b.io,b.len⟩
 ·have e1:hide (hd2 B W') H=hide (hd2 B' W) H:=vO fun a=>by dsimp only [hd2];rw [h1,h2];omega
  have e2:hide (hd2 B Y') H' =hide (hd2 B' Y) H' :=vO fun a=>by dsimp only [hd2];rw [h1,h3];omega
  rw [e1,e2];exact b.same
 ·by_cases z:Y a=0
  ·exact .inl (by rw [h3] at h;rw [h2];omega)
  ·rcases b.new a z with q | q
   ·exact .inl (by rw [h2];omega)
   ·exact .inr q
 ·by_cases z:Z a=0
  ·exact b.pin a (by rw [h2] at p;omega) (by rw [h3] at q;omega)
  ·exact .of (b.by_ a (by rw [h1];omega))
theorem Step.cast {B' W' Y' :Fp} (b:Step env σ H B W env' σ' H' Y) (h1:∀a,B' a=B a) (h2:∀a,W' a=W a) (h3:∀a,Y' a=Y a):Step env σ H B' W' env' σ' H' Y' :=by
 rw [show B' =B from funext h1,show W' =W from funext h2,show Y' =Y from funext h3];exact b
theorem Cf.cast {B' W' :Fp} (b:Cf K c env σ H B W) (h1:∀a,B' a=B a) (h2:∀a,W' a=W a):Cf K c env σ H B' W' :=by
 rw [show B' =B from funext h1,show W' =W from funext h2];exact b
theorem Cf.hbs (h:Cf K c env σ H B W) {a:aZ} (q:B a + W a≠0):∃o,H a=some o/\Hb o:=by
 by_cases z:B a=0
 ·exact h.at_.hb (by omega)
 ·exact h.hb a z
theorem Cf.fresh (h:Cf K c env σ H B W) {a:aZ} (q:H a=none):B a=0/\W a=0:=by
 have:B a + W a=0:=by
  by_cases z:B a + W a=0
  ·exact z
  ·obtain⟨o,e,_⟩:=h.hbs z;rw [q] at e;cases e
 omega
theorem Cf.grow (h:Cf K c env σ H B W) (e:Same H H'):Cf K c env σ H' B W:=by
 have st:∀a,B a + W a≠0->H' a=H a:=fun a z=>by obtain⟨o,q,_⟩:=h.hbs z;rw [q,e a o q]
 exact⟨h.at_.keep (zW fun a o z q=>⟨z,e a o q⟩) fun a z=>st a (by omega),h.nd,fun a z=>by rw [st a (by omega)];exact h.hb a z⟩
theorem Step.grow (h:Cf K c env σ H B W) (e:Same H H'):Step env σ H B W env σ H' W:=by
 have st:∀a,B a + W a≠0->H' a=H a:=fun a z=>by obtain⟨o,q,_⟩:=h.hbs z;rw [q,e a o q]
 refine⟨zW fun a o z q=>⟨z,e a o q⟩,fun a z=>st a (by omega),fun _ z=> .inl z,fun a z=>?_,fun a z _=> .of (st a (by omega)),fun _ o h=>⟨⟨o,h⟩,rfl⟩,rfl⟩
 cases q:H a with
 | none=>rfl
 | some o=>rw [e a o q] at z;cases z
theorem Cf.focus (h:Cf K c env σ H B W) {i:Nat} {s:Slot} (e:env[i]?=some s):∃(x:Option V) (Z1 R:Fp),σ[i]?=some x/\jP K c (hide (hd2 B W) H) H s x Z1/\(∀a,W a=Z1 a + R a)/\
  ∀(H' :Hp) (B' W' :Fp) (s' :Slot) (x' :Option V) (Z1' :Fp),Same (hide (hd2 B W) H) (hide (hd2 B' W') H')->(∀a,W' a=Z1' a + R a)->(∀a,R a≠0->H' a=H a)->jP K c (hide (hd2 B' W') H') H' s' x' Z1' ->
   (∀a,B' a + W' a<=1)->(∀a,B' a≠0->∃o,H' a=some o/\Hb o)->Cf K c (env.set i s') (σ.set i x') H' B' W' :=by
 obtain⟨x,Z1,R,h1,h2,h3,h4⟩:=h.at_.focus e
 exact⟨x,Z1,R,h1,h2,h3,fun H' B' W' s' x' Z1' sm hw k q nd hb=>⟨h4 _ H' s' x' Z1' W' sm k q hw,nd,hb⟩⟩
end
def getE (env:Ev) (i:Nat) (π:List Nat):Option O:=match env[i]? with
 | some (.s _ o)=>getP o π
 | _=>none
def setE (env:Ev) (i:Nat) (π:List Nat) (x:O):Ev:=match env[i]? with
 | some (.s io o)=>env.set i (.s io (setP o π x))
 | _=>env
def vW (H:Hp) (σ:L2.St) (i:Nat) (π:List Nat):Option V:=match σ[i]? with
 | some (some v)=>walk H v π
 | _=>none
section
variable {K:aQ} {c:Nat->aZ} {env env' env2:Ev} {σ σ' σ2:L2.St} {H H' H2:Hp} {B W Y Y2 Z:Fp} {i:Nat} {π:List Nat} {o1:O}
theorem qZc {x:O} {j:Nat} {o:O} (h:(setE env i π x)[j]?=some (.s true o)):∃o0,env[j]?=some (.s true o0):=by
 unfold setE at h
 split at h
 ·rename_i io o' e
  by_cases z:i=j
  ·subst z
   rw [eG (aT.mp e).1] at h
   cases h
   exact⟨_,e⟩
  ·rw [bE z] at h
   exact⟨o,h⟩
 ·exact⟨o,h⟩
theorem qVb {x:O}:(setE env i π x).length=env.length:=by
 unfold setE
 split
 ·exact dQ
 ·rfl
theorem Cf.place (h:Cf K c env σ H B W) (e:getE env i π=some o1):∃(v1:V) (Z1 R:Fp),vW H σ i π=some v1/\OAt K c (hide (hd2 B W) H) H o1 v1 Z1/\(∀a,W a=Z1 a + R a)/\
  ∀(H' :Hp) (B' W' :Fp) (o1' :O) (Z1' :Fp),Same (hide (hd2 B W) H) (hide (hd2 B' W') H')->(∀a,W' a=Z1' a + R a)->(∀a,R a≠0->H' a=H a)->OAt K c (hide (hd2 B' W') H') H' o1' v1 Z1' ->
   (∀a,B' a + W' a<=1)->(∀a,B' a≠0->∃o,H' a=some o/\Hb o)->Cf K c (setE env i π o1') σ H' B' W' :=by
 unfold getE at e
 split at e
 ·rename_i io o e0
  obtain⟨x,Z0,R0,h1,h2,h3,h4⟩:=h.focus e0
  cases x with
  | none=>exact h2.elim
  | some v=>
    obtain⟨v1,Z1,R1,g1,g2,g3,g4⟩:=OAt.focus h2 e
    refine⟨v1,Z1,fun a=>R1 a + R0 a,by unfold vW;rw [h1];exact g1,g2,fun a=>by rw [h3,g3];dsimp only;omega,fun H' B' W' o1' Z1' sm hw k q nd hb=>?_⟩
    dsimp only at hw k
    have q2:=g4 _ H' o1' Z1' sm (fun a z=>k a (by omega)) q
    have q3:=h4 H' B' W' (.s io (setP o π o1')) (some v) _ sm (fun a=>by rw [hw];(try dsimp only);omega) (fun a z=>k a (by omega)) q2 nd hb
    rw [wI h1] at q3
    unfold setE
    rw [e0]
    exact q3
 ·cases e
theorem Cf.freeze (h:Cf K c env σ H B W) (e:getE env i π=some o1):∃v1 W',vW H σ i π=some v1/\Cf K c (setE env i π (.fz (fzO o1))) σ H B W' /\DAt K c (hide (hd2 B W') H) v1 (fzO o1)/\Step env σ H B W (setE env i π (.fz (fzO o1))) σ H W' :=by
 obtain⟨v1,Z1,R,h1,h2,h3,h4⟩:=h.place e
 have sm:Same (hide (hd2 B W) H) (hide (hd2 B R) H):=zX fun a z=>by dsimp only [hd2] at *;rw [h3] at z;omega
 have hd:DAt K c (hide (hd2 B R) H) v1 (fzO o1):=h2.dat sm fun a z=>vT (by have:=h.nd a;rw [h3] at this;dsimp only [hd2];omega)
 refine⟨v1,R,h1,h4 H B R _ (fun _=>0) sm (fun a=>by(try dsimp only);omega) (fun _ _=>rfl) (OAt.fz.mpr ⟨hd,fun _=>rfl⟩) (fun a=>by have:=h.nd a;rw [h3] at this;omega) h.hb,hd,?_⟩
 exact⟨sm,fun _ _=>rfl,fun a z=> .inl (by rw [h3];omega),fun _ z=>z,fun _ _ _=> .refl,fun j o q=>⟨qZc q,rfl⟩,qVb⟩
theorem Cf.view (h:Cf K c env σ H B W) (e:getE env i π=some o1):∃v1,vW H σ i π=some v1/\DAt K c H v1 (fzO o1):=by
 obtain⟨v1,Z1,R,h1,h2,h3,h4⟩:=h.place e
 exact⟨v1,h1,h2.dat qG fun _ _=>rfl⟩
theorem Cf.put {B' :Fp} {u:V} {o:O} {io:Bool} (h:Cf K c env σ H B' W) (hB:∀a,B' a=B a + Z a) (ho:OAt K c (hide (hd2 B' W) H) H o u Z) (hi:i < env.length):∃W',Cf K c (env.set i (.s io o)) (σ.set i (some u)) H B W' /\Same (hide (hd2 B' W) H) (hide (hd2 B W') H)/\∀a,W' a≠0->Z a + W a≠0:=by
 obtain⟨x,Z1,R,h1,h2,h3,h4⟩:=h.focus (aF hi)
 have sm:Same (hide (hd2 B' W) H) (hide (hd2 B fun a=>Z a + R a) H):=zX fun a z=>by dsimp only [hd2] at *;rw [h3,hB] at z;omega
 refine⟨fun a=>Z a + R a,h4 H B _ (.s io o) (some u) Z sm (fun _=>rfl) (fun _ _=>rfl) (ho.keep sm fun _ _=>rfl) (fun a=>?_) (fun a z=>h.hb a (by rw [hB];omega)),sm,fun a z=>?_⟩
 ·have:=h.nd a;rw [h3,hB] at this;(try dsimp only);omega
 ·dsimp only at z;rw [h3];omega
end
inductive Res (α:Type) where
 | ok (a:α) | er (C:Nat) (fs:List (Str×D)) | no
def Res.bind {α β:Type} (x:Res α) (f:α->Res β):Res β:=match x with
 | .ok a=>f a
 | .er C fs=> .er C fs
 | .no=> .no
def Res.wp {α:Type} (x:Res α) (Q:α->Prop) (E:Nat->List (Str×D)->Prop):Prop:=match x with
 | .ok a=>Q a
 | .er C fs=>E C fs
 | .no=>False
def opt {α:Type}:Option α->Res α
 | some a=> .ok a
 | none=> .no
theorem qW {α β:Type} {f:α->Res β} {Q:β->Prop} {E:Nat->List (Str×D)->Prop}:∀ {x:Res α},(x.bind f).wp Q E↔x.wp (fun a=>(f a).wp Q E) E
 | .ok _=>Iff.rfl
 | .er _ _=>Iff.rfl
 | .no=>Iff.rfl
theorem wp_mono {α:Type} {Q Q' :α->Prop} {E E' :Nat->List (Str×D)->Prop} (hQ:∀a,Q a->Q' a) (hE:∀C fs,E C fs->E' C fs):∀ {x:Res α},x.wp Q E->x.wp Q' E'
 | .ok a,h=>hQ a h
 | .er C fs,h=>hE C fs h
 | .no,h=>h.elim
theorem qB {α β:Type} {f:α->Res β} {Q:β->Prop} {E:Nat->List (Str×D)->Prop}:∀ {x:Option α},((opt x).bind f).wp Q E->∃a,x=some a/\(f a).wp Q E
 | some a,h=>⟨a,rfl,h⟩
 | none,h=>h.elim
theorem v4 {α:Type} {b:Bool} {x:Res α} {Q:α->Prop} {E:Nat->List (Str×D)->Prop} (h:(cond b x .no).wp Q E):b=true/\x.wp Q E:=by
 cases b with
 | true=>exact⟨rfl,h⟩
 | false=>exact h.elim
structure StepX (H:Hp) (B W:Fp) (H' :Hp) (Y:Fp):Prop where
 same:Same (hide (hd2 B W) H) (hide (hd2 B Y) H')
 by_:∀a,B a≠0->H' a=H a
 dom:∀a,H' a=none->H a=none
def ErAt (K:aQ) (c:Nat->aZ) (F H:Hp) (fs:List (Str×D)):Option aZ->Prop
 | none=>fs=[]
 | some dx=>∃ws:List (Str×V),H dx=some (.xd ws)/\ws.map (·.1)=fs.map (·.1)/\DsAt K c F (ws.map (·.2)) (fs.map (·.2))
def erP (K:aQ) (c:Nat->aZ) (E:XK) (H:Hp) (B W:Fp):Nat->List (Str×D)->Prop:=fun C fs=>∀H' Y ox,StepX H B W H' Y->ErAt K c (hide (hd2 B Y) H') H' fs ox->E (.ref (c C)) ox H'
section
variable {K:aQ} {c:Nat->aZ} {E:XK} {env env' :Ev} {σ σ' :L2.St} {H H' H2:Hp} {B W Y Y2 Z:Fp} {C:Nat} {fs:List (Str×D)}
theorem Step.x (a:Step env σ H B W env' σ' H' Y) (b:StepX H' B Y H2 Y2):StepX H B W H2 Y2:=⟨a.same.trans b.same,fun z h=>(b.by_ z h).trans (a.by_ z h),fun z h=>a.dom z (b.dom z h)⟩
theorem erP.back (a:Step env σ H B W env' σ' H' Y) (h:erP K c E H B W C fs):erP K c E H' B Y C fs:=fun H2 Y2 ox sx er=>h H2 Y2 ox (a.x sx) er
end
structure Got (K:aQ) (c:Nat->aZ) (env:Ev) (σ:L2.St) (H:Hp) (B W:Fp) (env' :Ev) (H' :Hp) (W' Z:Fp) (o:O) (u:V):Prop where
 st:Step env σ H B W env' σ H' (hd2 W' Z)
 cf:Cf K c env' σ H' (hd2 B Z) W'
 at_:OAt K c (hide (hd2 (hd2 B Z) W') H') H' o u Z
structure GotD (K:aQ) (c:Nat->aZ) (env:Ev) (σ:L2.St) (H:Hp) (B W:Fp) (env' :Ev) (H' :Hp) (W' :Fp) (x:D) (u:V):Prop where
 st:Step env σ H B W env' σ H' W'
 cf:Cf K c env' σ H' B W'
 at_:DAt K c (hide (hd2 B W') H') u x
abbrev SE:=Ev->Res (O×Ev)
abbrev SV:=Ev->Res (D×Ev)
def tE (K:aQ) (c:Nat->aZ) (E:XK) (s:SE):TE:=fun σ H Q=>∃env B W,Cf K c env σ H B W/\(s env).wp (fun r=>∀u H' W' Z,Got K c env σ H B W r.2 H' W' Z r.1 u->Q u H') (erP K c E H B W)
def tV (K:aQ) (c:Nat->aZ) (E:XK) (s:SV):TE:=fun σ H Q=>∃env B W,Cf K c env σ H B W/\(s env).wp (fun r=>∀u H' W',GotD K c env σ H B W r.2 H' W' r.1 u->Q u H') (erP K c E H B W)
structure ED (X:Cx) (c:Nat->aZ) (E:XK) (e:Expr) (s:SE):Prop where
 h:PE X e (tE X.K c E s)
structure EV (X:Cx) (c:Nat->aZ) (E:XK) (e:Expr) (s:SV):Prop where
 h:PE X e (tV X.K c E s)
theorem PE.imp {X:Cx} {e:Expr} {t t' :TE} (h:PE X e t) (k:∀σ H Q,t' σ H Q->t σ H Q):PE X e t' :=fun pins s σ H Q I q=>h pins s σ H Q I (k σ H Q q)
section
variable {K:aQ} {c:Nat->aZ} {E:XK} {env env' env2:Ev} {σ σ' :L2.St} {H H' H2:Hp} {B W W' W2 Y Y2 Z:Fp} {o:O} {u:V} {x:D}
theorem Got.fz (g:Got K c env σ H B W env' H' W' Z o u):GotD K c env σ H B W env' H' W' (fzO o) u:=by
 have sm:Same (hide (hd2 (hd2 B Z) W') H') (hide (hd2 B W') H'):=zX fun a z=>by dsimp only [hd2] at *;omega
 have sm2:Same (hide (hd2 B (hd2 W' Z)) H') (hide (hd2 B W') H'):=zX fun a z=>by dsimp only [hd2] at *;omega
 refine⟨⟨g.st.same.trans sm2,g.st.by_,fun a h=>g.st.new a (by dsimp only [hd2];omega),g.st.dom,fun a h1 h2=>g.st.pin a h1 (by dsimp only [hd2];omega),g.st.io,g.st.len⟩,
  ⟨g.cf.at_.keep sm fun _ _=>rfl,fun a=>by have:=g.cf.nd a;dsimp only [hd2] at this;omega,fun a h=>g.cf.hb a (by dsimp only [hd2];omega)⟩,g.at_.dat sm fun a h=>vT ?_⟩
 have:=g.cf.nd a
 dsimp only [hd2] at *
 omega
theorem GotD.own (g:GotD K c env σ H B W env' H' W' x u):Got K c env σ H B W env' H' W' (fun _=>0) (.fz x) u:=by
 refine⟨g.st.cast (fun _=>rfl) (fun _=>rfl) fun _=>rfl,g.cf.cast (fun _=>rfl) fun _=>rfl,OAt.fz.mpr ⟨?_,fun _=>rfl⟩⟩
 exact g.at_
end
section
variable {X:Cx} {c:Nat->aZ} {E:XK} {e:Expr}
def fzS (s:SE):SV:=fun env=>(s env).bind fun r=> .ok (fzO r.1,r.2)
def owS (s:SV):SE:=fun env=>(s env).bind fun r=> .ok (.fz r.1,r.2)
theorem ev_e {s:SE} (h:ED X c E e s):EV X c E e (fzS s):=by
 refine⟨PE.imp h.h fun σ H Q=>?_⟩
 rintro⟨env,B,W,cf,w⟩
 exact⟨env,B,W,cf,wp_mono (fun r q u H' W' Z g=>q u H' W' g.fz) (fun _ _ q=>q) (qW.mp w)⟩
theorem ed_v {s:SV} (h:EV X c E e s):ED X c E e (owS s):=by
 refine⟨PE.imp h.h fun σ H Q=>?_⟩
 rintro⟨env,B,W,cf,w⟩
 exact⟨env,B,W,cf,wp_mono (fun r q u H' W' g=>q u H' W' _ g.own) (fun _ _ q=>q) (qW.mp w)⟩
end
inductive Hn where
 | d (x:D) | p (i:Nat) (π:List Nat)
abbrev SP:=Ev->Option Hn
def HnAt (K:aQ) (c:Nat->aZ) (F:Hp) (σ:L2.St) (H:Hp) (u:V):Hn->Prop
 | .d x=>DAt K c F u x
 | .p i π=>vW H σ i π=some u
def tP (K:aQ) (c:Nat->aZ) (s:SP):TE:=fun σ H Q=>∃env B W h,Cf K c env σ H B W/\s env=some h/\∀u,HnAt K c (hide (hd2 B W) H) σ H u h->Q u H
structure EP (X:Cx) (c:Nat->aZ) (e:Expr) (s:SP):Prop where
 h:PE X e (tP X.K c s)
def hnO (o:O) (i:Nat) (π:List Nat):Hn:=match o with
 | .fz d=> .d d
 | .ow _ _=> .p i π
def hnV (env:Ev):Hn->Res (D×Ev)
 | .d x=> .ok (x,env)
 | .p i π=>(opt (getE env i π)).bind fun o=> .ok (fzO o,setE env i π (.fz (fzO o)))
def pV (s:SP):SV:=fun env=>(opt (s env)).bind (hnV env)
theorem qKk {K:aQ} {c:Nat->aZ} {env:Ev} {σ:L2.St} {H:Hp} {B W:Fp} {h:Hn} {u:V} {Q:D×Ev->Prop} {EE:Nat->List (Str×D)->Prop} (cf:Cf K c env σ H B W) (hu:HnAt K c (hide (hd2 B W) H) σ H u h) (w:(hnV env h).wp Q EE):
  ∃x env' W',GotD K c env σ H B W env' H W' x u/\Q (x,env'):=by
 cases h with
 | d x=>exact⟨x,env,W,⟨.refl,cf,hu⟩,w⟩
 | p i π=>
   obtain⟨o,e1,w1⟩:=qB w
   obtain⟨v1,W',h1,h2,h3,h4⟩:=cf.freeze e1
   have:vW H σ i π=some u:=hu
   rw [this] at h1
   cases h1
   exact⟨_,_,W',⟨h4,h2,h3⟩,w1⟩
theorem ev_p {X:Cx} {c:Nat->aZ} {E:XK} {e:Expr} {s:SP} (h:EP X c e s):EV X c E e (pV s):=by
 refine⟨PE.imp h.h fun σ H Q=>?_⟩
 rintro⟨env,B,W,cf,w⟩
 obtain⟨h1,e0,w1⟩:=qB w
 refine⟨env,B,W,h1,cf,e0,fun u hu=>?_⟩
 obtain⟨x,env',W',g,q⟩:=qKk cf hu w1
 exact q u H W' g
def rsv (env:Ev):Hn->Option D
 | .d x=>some x
 | .p i π=>match getE env i π with
   | some o=>some (fzO o)
   | none=>none
theorem zR {K:aQ} {c:Nat->aZ} {env:Ev} {σ:L2.St} {H:Hp} {B W:Fp} {h:Hn} {u:V} {x:D} (cf:Cf K c env σ H B W) (hu:HnAt K c (hide (hd2 B W) H) σ H u h) (e:rsv env h=some x):DAt K c H u x:=by
 cases h with
 | d y=>cases e;exact DAt.same qG hu
 | p i π=>
   simp only [rsv] at e
   cases e0:getE env i π with
   | none=>rw [e0] at e;cases e
   | some o=>
     rw [e0] at e
     cases e
     obtain⟨v1,h1,h2⟩:=cf.view e0
     have:vW H σ i π=some u:=hu
     rw [this] at h1
     cases h1
     exact h2
inductive Vw (K:aQ) (c:Nat->aZ) (F H:Hp):V->D->Prop
 | d {u:V} {x:D} (h:DAt K c F u x):Vw K c F H u x
 | nd {p:aZ} {k:Kd} {vs:List V} {ds:List D} (h:NdAt K c H p k vs) (r:DsAt K c F vs ds):Vw K c F H (.ref p) (.nd k ds)
section
variable {K:aQ} {c:Nat->aZ} {F F' H H' :Hp} {u:V} {x:D}
theorem Vw.un {k:Kd} {ds:List D} (s:Same F H) (h:Vw K c F H u (.nd k ds)):∃p vs,u= .ref p/\NdAt K c H p k vs/\DsAt K c F vs ds:=by
 generalize e:D.nd k ds=y at h
 cases h with
 | d h=>
   subst e
   obtain⟨p,vs,a,b,cc⟩:=h.un
   exact⟨p,vs,a,b.same s,cc⟩
 | nd h r=>cases e;exact⟨_,_,rfl,h,r⟩
theorem Vw.same (s:Same F F') (h:Vw K c F H u x):Vw K c F' H u x:=by
 cases h with
 | d h=>exact .d (h.same s)
 | nd h r=>exact .nd h (r.same s)
end
def vJs:O->O
 | .fz d=> .fz d
 | .ow k os=> .ow k (os.map fun o=> .fz (fzO o))
def rsvB (env:Ev):Hn->Res (D×Ev)
 | .d x=> .ok (x,env)
 | .p i π=>(opt (getE env i π)).bind fun o=> .ok (fzO o,setE env i π (vJs o))
theorem vQ4 {K:aQ} {c:Nat->aZ} {env:Ev} {σ:L2.St} {H:Hp} {B W:Fp} {h:Hn} {u:V} {Q:D×Ev->Prop} {EE:Nat->List (Str×D)->Prop} (cf:Cf K c env σ H B W) (hu:HnAt K c (hide (hd2 B W) H) σ H u h) (w:(rsvB env h).wp Q EE):
  ∃x env' W',Step env σ H B W env' σ H W' /\Cf K c env' σ H B W' /\Vw K c (hide (hd2 B W') H) H u x/\Q (x,env'):=by
 cases h with
 | d x=>exact⟨x,env,W, .refl,cf, .d hu,w⟩
 | p i π=>
   obtain⟨o,e1,w1⟩:=qB w
   obtain⟨v1,Z1,R,h1,h2,h3,h4⟩:=cf.place e1
   have:vW H σ i π=some u:=hu
   rw [this] at h1
   cases h1
   cases o with
   | fz d=>
     rw [OAt.fz] at h2
     have q:=h4 H B W (.fz d) Z1 (Same.refl _) h3 (fun _ _=>rfl) (OAt.fz.mpr h2) cf.nd cf.hb
     exact⟨d,_,W,⟨Same.refl _,fun _ _=>rfl,fun _ z=> .inl z,fun _ z=>z,fun _ _ _=> .refl,fun j o z=>⟨qZc z,rfl⟩,qVb⟩,q, .d h2.1,w1⟩
   | ow k os=>
     rw [OAt.ow] at h2
     obtain⟨p,vs,Z',rfl,b,cc,d⟩:=h2
     have lo:∀a,Z' a≠0->B a + (one p a + R a)=0:=fun a z=>by have:=cf.nd a;rw [h3,d] at this;omega
     have sm:Same (hide (hd2 B W) H) (hide (hd2 B fun a=>one p a + R a) H):=zX fun a z=>by dsimp only [hd2] at *;rw [h3,d] at z;omega
     have kd:DsAt K c (hide (hd2 B fun a=>one p a + R a) H) vs (fzOs os):=cc.dat sm fun a z=>vT (lo a z)
     have q:=h4 H B (fun a=>one p a + R a) (.ow k (os.map fun o=> .fz (fzO o))) (one p) sm (fun _=>rfl) (fun _ _=>rfl)
      (OAt.ow.mpr ⟨p,vs,fun _=>0,rfl,b,by rw [show(os.map fun o=>O.fz (fzO o))=(fzOs os).map .fz by rw [xC,bH];rfl,OsAt.fzs];exact⟨kd,fun _=>rfl⟩,fun _=>rfl⟩) (fun a=>by have:=cf.nd a;rw [h3,d] at this;(try dsimp only);omega) cf.hb
     refine⟨_,_,_,⟨sm,fun _ _=>rfl,fun a z=> .inl ?_,fun _ z=>z,fun _ _ _=> .refl,fun j o z=>⟨qZc z,rfl⟩,qVb⟩,q,?_,w1⟩
     ·(try dsimp only at z);rw [h3,d];omega
     ·rw [fzO];exact .nd (b.nd rfl) kd
inductive Oe where
 | p (s:SP) | v (s:SV)
def Oe.isP:Oe->Bool
 | .p _=>true
 | .v _=>false
def Hn.st:Hn->Bool
 | .d _=>true
 | .p _ π=>π.isEmpty
def oV:Oe->SV
 | .p s=>pV s
 | .v s=>s
def evO:Oe->Ev->Res (Hn×Ev)
 | .p s,env=>(opt (s env)).bind fun h=> .ok (h,env)
 | .v s,env=>(s env).bind fun r=> .ok (.d r.1,r.2)
def tO (K:aQ) (c:Nat->aZ) (E:XK):Oe->TE
 | .p s=>tP K c s
 | .v s=>tV K c E s
structure OD (X:Cx) (c:Nat->aZ) (E:XK) (e:Expr) (o:Oe):Prop where
 h:PE X e (tO X.K c E o)
structure GotH (K:aQ) (c:Nat->aZ) (env:Ev) (σ:L2.St) (H:Hp) (B W:Fp) (o:Oe) (env' :Ev) (H' :Hp) (W' :Fp) (h:Hn) (u:V):Prop where
 st:Step env σ H B W env' σ H' W'
 cf:Cf K c env' σ H' B W'
 at_:HnAt K c (hide (hd2 B W') H') σ H' u h
 pu:o.isP=true->H' =H/\W' =W/\env' =env
def j6 (K:aQ) (c:Nat->aZ) (F:Hp) (σ:L2.St) (H:Hp):List V->List Hn->Prop
 | [],[]=>True
 | u::us,h::hs=>HnAt K c F σ H u h/\j6 K c F σ H us hs
 | _,_=>False
section
variable {K:aQ} {c:Nat->aZ} {E:XK} {env env' env2:Ev} {σ σ' :L2.St} {H H' H2:Hp} {B W W' W2 Y Y2 Z:Fp} {o:Oe} {h:Hn} {u:V} {x:D} {Q:VK}
theorem yY {w:Hn×Ev->Prop} (cf:Cf K c env σ H B W) (hw:(evO o env).wp w (erP K c E H B W)) (k:∀r,w r->∀u H' W',GotH K c env σ H B W o r.2 H' W' r.1 u->Q u H'):tO K c E o σ H Q:=by
 cases o with
 | p s=>
   obtain⟨h1,e0,w1⟩:=qB hw
   exact⟨env,B,W,h1,cf,e0,fun u hu=>k _ w1 u H W ⟨.refl,cf,hu,fun _=>⟨rfl,rfl,rfl⟩⟩⟩
 | v s=>exact⟨env,B,W,cf,wp_mono (fun r q u H' W' g=>k _ q u H' W' ⟨g.st,g.cf,g.at_,fun z=>by cases z⟩) (fun _ _ q=>q) (qW.mp hw)⟩
theorem HnAt.step (a:HnAt K c (hide (hd2 B W) H) σ H u h) (g:Same (hide (hd2 B W) H) (hide (hd2 B W') H')) (hs:h.st=true):HnAt K c (hide (hd2 B W') H') σ H' u h:=by
 cases h with
 | d x=>exact DAt.same g a
 | p i π=>
   cases π with
   | nil=>
     have a' :vW H σ i []=some u:=a
     show vW H' σ i []=some u
     unfold vW at a' ⊢
     cases e:σ[i]? with
     | none=>rw [e] at a';cases a'
     | some v=>
       rw [e] at a'
       cases v with
       | none=>cases a'
       | some v=>simpa [walk] using a'
   | cons j π=>cases hs
theorem GotH.next {o2:Oe} {h2:Hn} {u2:V} (a:GotH K c env σ H B W o env' H' W' h u) (b:GotH K c env' σ H' B W' o2 env2 H2 W2 h2 u2) (hs:(h.st || o2.isP)=true):HnAt K c (hide (hd2 B W2) H2) σ H2 u h:=by
 cases e:h.st with
 | true=>exact a.at_.step b.st.same e
 | false=>
   rw [e] at hs
   obtain⟨e1,e2,_⟩:=b.pu (by simpa using hs)
   subst e1 e2
   exact a.at_
end
section
variable {X:Cx} {c:Nat->aZ} {E:XK} {e a b:Expr} {o oa ob:Oe}
theorem od_v {s:SV} (h:EV X c E e s):OD X c E e (.v s):=⟨h.h⟩
theorem od_e {s:SE} (h:ED X c E e s):OD X c E e (.v (fzS s)):=⟨(ev_e h).h⟩
theorem OD.val (h:OD X c E e o):EV X c E e (oV o):=by
 cases o with
 | p s=>exact ev_p ⟨h.h⟩
 | v s=>exact⟨h.h⟩
theorem OD.ow (h:OD X c E e o):ED X c E e (owS (oV o)):=ed_v h.val
end
def oC (d:D):Oe:= .p fun _=>some (.d d)
def zV4 (i:Nat):SP:=fun env=>match env[i]? with
 | some (.s _ o)=>some (hnO o i [])
 | _=>none
def oN (i:Nat):Oe:= .p (zV4 i)
section
variable {X:Cx} {c:Nat->aZ} {E:XK} {e:Expr} {pos:Pos}
theorem od_c {v:V} {d:D} (h:PE X e (tC v)) (k:∀F,DAt X.K c F v d):OD X c E e (oC d):=by
 refine⟨PE.imp h fun σ H Q=>?_⟩
 rintro⟨env,B,W,h1,cf,e0,q⟩
 cases e0
 exact q v (k _)
theorem qY {i:Int} {j:Nat}:OD X c E (.Constant (.int i) j pos) (oC (.int i)):=od_c zJp fun _=> .int i
theorem vF {x:Str} {j:Nat}:OD X c E (.Constant (.str x) j pos) (oC (.str x)):=od_c zJl fun _=> .str x
theorem wU {x:Bool} {j:Nat}:OD X c E (.Constant (.bool x) j pos) (oC (.bl x)):=od_c zXo fun _=> .bl x
theorem vWi {j:Nat}:OD X c E (.Constant .none j pos) (oC .non):=od_c vWh fun _=> .non
theorem vWr {K:aQ} {F:Hp} {σ:L2.St} {H:Hp} {o:O} {u:V} {Z:Fp} {i:Nat} {π:List Nat} (h:OAt K c F H o u Z) (w:vW H σ i π=some u):HnAt K c F σ H u (hnO o i π):=by
 cases o with
 | fz d=>rw [OAt.fz] at h;exact h.1
 | ow k os=>exact w
theorem qQ {i:Nat} (h:PE X e (tVar i)):OD X c E e (oN i):=by
 refine⟨PE.imp h fun σ H Q=>?_⟩
 rintro⟨env,B,W,h1,cf,e0,q⟩
 simp only [zV4] at e0
 cases e1:env[i]? with
 | none=>rw [e1] at e0;cases e0
 | some s=>
   rw [e1] at e0
   cases s with
   | un=>cases e0
   | s io o=>
     cases e0
     obtain⟨x,Z1,R,h1,h2,h3,h4⟩:=cf.focus e1
     cases x with
     | none=>exact h2.elim
     | some v=>exact⟨v,h1,q v (vWr h2 (by unfold vW;rw [h1];simp [walk]))⟩
end
def PrS1 (K:aQ) (c:Nat->aZ) (r:V->Hp->VK->Prop) (f:D->Option D):Prop:=∀(u:V) (H:Hp) (x z:D) (Q:VK),DAt K c H u x->f x=some z->(∀v,(∀F,DAt K c F v z)->Q v H)->r u H Q
def PrS2 (K:aQ) (c:Nat->aZ) (r:R2) (f:D->D->Option D):Prop:=∀(u w:V) (H:Hp) (x y z:D) (Q:VK),DAt K c H u x->DAt K c H w y->f x y=some z->(∀v,(∀F,DAt K c F v z)->Q v H)->r u w H Q
def sp1 (f:D->Option D) (a:SP):SP:=fun env=>(a env).bind fun h=>(rsv env h).bind fun x=>(f x).bind fun z=>some (.d z)
def sv1 (f:D->Option D) (a:Oe):SV:=fun env=>(evO a env).bind fun r=>(opt (rsv r.2 r.1)).bind fun x=>(opt (f x)).bind fun z=> .ok (z,r.2)
def o1 (f:D->Option D):Oe->Oe
 | .p s=> .p (sp1 f s)
 | a=> .v (sv1 f a)
def sp2 (f:D->D->Option D) (a b:SP):SP:=fun env=>(a env).bind fun h=>(b env).bind fun h' =>(rsv env h).bind fun x=>(rsv env h').bind fun y=>(f x y).bind fun z=>some (.d z)
def sv2 (f:D->D->Option D) (a b:Oe):SV:=fun env=>(evO a env).bind fun r=>(evO b r.2).bind fun r' =>cond (r.1.st || b.isP) ((opt (rsv r'.2 r.1)).bind fun x=>(opt (rsv r'.2 r'.1)).bind fun y=>(opt (f x y)).bind fun z=> .ok (z,r'.2)) .no
def o2 (f:D->D->Option D) (a b:Oe):Oe:=match a,b with
 | .p s, .p t=> .p (sp2 f s t)
 | a,b=> .v (sv2 f a b)
section
variable {X:Cx} {K:aQ} {c:Nat->aZ} {E:XK} {e a b:Expr} {pos:Pos} {oa ob:Oe}
theorem bnd {α β:Type} {x:Option α} {f:α->Option β} {b:β} (h:x.bind f=some b):∃a,x=some a/\f a=some b:=Option.bind_eq_some_iff.mp h
theorem zVt {r:V->Hp->VK->Prop} {f:D->Option D} (hp:PrS1 K c r f) {σ:L2.St} {H:Hp} {Q:VK} (h:tO K c E (o1 f oa) σ H Q):tUn r (tO K c E oa) σ H Q:=by
 cases oa with
 | p s=>
   obtain⟨env,B,W,h1,cf,e0,q⟩:=h
   obtain⟨ha,e1,e2⟩:=bnd e0
   obtain⟨x,e3,e4⟩:=bnd e2
   obtain⟨z,e5,e6⟩:=bnd e4
   cases e6
   exact⟨env,B,W,ha,cf,e1,fun u hu=>hp u H x z Q (zR cf hu e3) e5 fun v hv=>q v (hv _)⟩
 | v s=>
   obtain⟨env,B,W,cf,w⟩:=h
   refine yY (o:= .v s) cf (qW.mp w) fun r w1 u H' W' g=>?_
   obtain⟨x,e3,w2⟩:=qB w1
   obtain⟨z,e5,w3⟩:=qB w2
   exact hp u H' x z Q (zR g.cf g.at_ e3) e5 fun v hv=>w3 v H' W' ⟨g.st,g.cf,hv _⟩
theorem vJ5 {r:R2} {f:D->D->Option D} (hp:PrS2 K c r f) {σ:L2.St} {H:Hp} {Q:VK} (h:tV K c E (sv2 f oa ob) σ H Q):tOp r (tO K c E oa) (tO K c E ob) σ H Q:=by
 obtain⟨env,B,W,cf,w⟩:=h
 refine yY cf (qW.mp w) fun r1 w1 u H1 W1 g1=>?_
 refine yY g1.cf (wp_mono (fun _ q=>q) (fun C fs he=>he.back g1.st) (qW.mp w1)) fun r2 w2 v H2 W2 g2=>?_
 obtain⟨hs,w3⟩:=v4 w2
 obtain⟨x,e3,w4⟩:=qB w3
 obtain⟨y,e4,w5⟩:=qB w4
 obtain⟨z,e5,w6⟩:=qB w5
 exact hp u v H2 x y z Q (zR g2.cf (g1.next g2 hs) e3) (zR g2.cf g2.at_ e4) e5 fun v hv=>w6 v H2 W2 ⟨g1.st.trans g2.st,g2.cf,hv _⟩
theorem vJh {r:R2} {f:D->D->Option D} (hp:PrS2 K c r f) {σ:L2.St} {H:Hp} {Q:VK} (h:tO K c E (o2 f oa ob) σ H Q):tOp r (tO K c E oa) (tO K c E ob) σ H Q:=by
 cases oa with
 | v s=>exact vJ5 hp h
 | p s=>
   cases ob with
   | v t=>exact vJ5 hp h
   | p t=>
     obtain⟨env,B,W,h1,cf,e0,q⟩:=h
     obtain⟨ha,e1,e2⟩:=bnd e0
     obtain⟨hb,e3,e4⟩:=bnd e2
     obtain⟨x,e5,e6⟩:=bnd e4
     obtain⟨y,e7,e8⟩:=bnd e6
     obtain⟨z,e9,e10⟩:=bnd e8
     cases e10
     exact⟨env,B,W,ha,cf,e1,fun u hu=>⟨env,B,W,hb,cf,e3,fun w hw=>hp u w H x y z Q (zR cf hu e5) (zR cf hw e7) e9 fun v hv=>q v (hv _)⟩⟩
theorem zXs {op:UnaryOp} {r:V->Hp->VK->Prop} {f:D->Option D} (ho:UnR X (unaryOp op) r) (hp:PrS1 X.K c r f) (ha:OD X c E a oa):OD X c E (.UnaryOp op a pos) (o1 f oa):=
 ⟨PE.imp (zXn ho ha.h) fun _ _ _ h=>zVt hp h⟩
theorem qX8 {op:Operator} {r:R2} {f:D->D->Option D} (ho:OpR X (binaryOp op) r) (hp:PrS2 X.K c r f) (ha:OD X c E a oa) (hb:OD X c E b ob):OD X c E (.BinOp a op b pos) (o2 f oa ob):=
 ⟨PE.imp (zV1 ho ha.h hb.h) fun _ _ _ h=>vJh hp h⟩
theorem zJ4 {op:CmpOp} {r:R2} {f:D->D->Option D} (ho:OpR X (bM op) r) (hp:PrS2 X.K c r f) (ha:OD X c E a oa) (hb:OD X c E b ob) (hm:behindInMarks op b=false):OD X c E (.Compare a [op] [b] pos) (o2 f oa ob):=
 ⟨PE.imp (vK8 ho ha.h hb.h hm) fun _ _ _ h=>vJh hp h⟩
end
abbrev ST:=Ev->Res (Bool×Ev)
def tT (K:aQ) (c:Nat->aZ) (E:XK) (s:ST):TT:=fun σ H Q=>∃env B W,Cf K c env σ H B W/\(s env).wp (fun r=>∀H' W',Step env σ H B W r.2 σ H' W' ->Cf K c r.2 σ H' B W' ->Q r.1 H') (erP K c E H B W)
structure TD (X:Cx) (c:Nat->aZ) (E:XK) (e:Expr) (s:ST):Prop where
 h:PT X e (tT X.K c E s)
structure WD (X:Cx) (c:Nat->aZ) (E:XK) (e:Expr) (s:ST):Prop where
 h:PW X e (tT X.K c E s)
theorem PT.imp {X:Cx} {e:Expr} {t t' :TT} (h:PT X e t) (k:∀σ H Q,t' σ H Q->t σ H Q):PT X e t' :=fun pins s σ H Q I q=>h pins s σ H Q I (k σ H Q q)
theorem PW.imp {X:Cx} {e:Expr} {t t' :TT} (h:PW X e t) (k:∀σ H Q,t' σ H Q->t σ H Q):PW X e t' :=fun wh pins s σ H Q I q=>h wh pins s σ H Q I (k σ H Q q)
def blOf:D->Option Bool
 | .bl b=>some b
 | _=>none
theorem vVv {K:aQ} {c:Nat->aZ} {F:Hp} {u:V} {x:D} {b:Bool} (h:DAt K c F u x) (e:blOf x=some b):u= .bl b:=by
 cases h <;> cases e
 rfl
def asB (o:Oe):ST:=fun env=>(oV o env).bind fun r=>(opt (blOf r.1)).bind fun b=> .ok (b,r.2)
theorem vJ3 {K:aQ} {c:Nat->aZ} {E:XK} {o:Oe} {σ:L2.St} {H:Hp} {Q:VK} (h:tV K c E (oV o) σ H Q):tO K c E o σ H Q:=by
 cases o with
 | v s=>exact h
 | p s=>
   obtain⟨env,B,W,cf,w⟩:=h
   obtain⟨h1,e0,w1⟩:=qB w
   refine⟨env,B,W,h1,cf,e0,fun u hu=>?_⟩
   obtain⟨x,env',W',g,q⟩:=qKk cf hu w1
   exact q u H W' g
theorem qX5 {K:aQ} {c:Nat->aZ} {E:XK} {o:Oe} {σ:L2.St} {H:Hp} {Q:Bool->Hp->Prop} (h:tT K c E (asB o) σ H Q):tO K c E o σ H fun x H1=>∃k,x= .bl k/\Q k H1:=by
 obtain⟨env,B,W,cf,w⟩:=h
 refine vJ3 ⟨env,B,W,cf,wp_mono (fun r1 h1 u H1 W1 g=>?_) (fun _ _ he=>he) (qW.mp w)⟩
 obtain⟨b,e1,h2⟩:=qB h1
 exact⟨b,vVv g.at_ e1,h2 H1 W1 g.st g.cf⟩
section
variable {X:Cx} {c:Nat->aZ} {E:XK} {e a b d:Expr} {rest:List Expr} {pos:Pos} {sa sb:ST} {oa ob oc:Oe} {o:Oe}
theorem xH (h:OD X c E e o) (he:∀whole,isTrue e X.env whole=(do let v ←whole;standAt e.pos;holding [v] (truthy v)):=by intro _;rfl):TD X c E e (asB o):=
 ⟨PT.imp (zZ8 h.h he) fun _ _ _ h=>qX5 h⟩
theorem qQw {op:CmpOp} {r:R2} {f:D->D->Option D} (ho:OpR X (bM op) r) (hp:PrS2 X.K c r f) (ha:OD X c E a oa) (hb:OD X c E b ob) (hm:behindInMarks op b=false):TD X c E (.Compare a [op] [b] pos) (asB (o2 f oa ob)):=
 ⟨PT.imp (vKn ho ha.h hb.h hm) fun _ _ _ h=>vJh hp (qX5 h)⟩
def oCh (f f' :D->D->Option D) (oa ob oc:Oe):Oe:= .v fun env=>(evO oa env).bind fun r=>(evO ob r.2).bind fun r' =>cond (r.1.st || ob.isP) ((opt (rsv r'.2 r.1)).bind fun x=>(opt (rsv r'.2 r'.1)).bind fun y=>(opt (f x y)).bind fun z=>(opt (blOf z)).bind fun k=>cond k
 ((evO oc r'.2).bind fun r3=>cond (r'.1.st || oc.isP) ((opt (rsv r3.2 r'.1)).bind fun y=>(opt (rsv r3.2 r3.1)).bind fun w=>(opt (f' y w)).bind fun z=> .ok (z,r3.2)) .no) (.ok (.bl false,r'.2))) .no
theorem zZr {K:aQ} {r r' :R2} {f f' :D->D->Option D} (hp:PrS2 K c r f) (hp' :PrS2 K c r' f') {σ:L2.St} {H:Hp} {Q:VK} (h:tO K c E (oCh f f' oa ob oc) σ H Q):vJ4 r r' (tO K c E oa) (tO K c E ob) (tO K c E oc) σ H Q:=by
 obtain⟨env,B,W,cf,w⟩:=h
 refine yY cf (qW.mp w) fun r1 w1 u H1 W1 g1=>?_
 refine yY g1.cf (wp_mono (fun _ q=>q) (fun C fs he=>he.back g1.st) (qW.mp w1)) fun r2 w2 v H2 W2 g2=>?_
 obtain⟨hs,w3⟩:=v4 w2
 obtain⟨x,e3,w4⟩:=qB w3
 obtain⟨y,e4,w5⟩:=qB w4
 obtain⟨z,e5,w6⟩:=qB w5
 obtain⟨k,e6,w7⟩:=qB w6
 refine hp u v H2 x y z _ (zR g2.cf (g1.next g2 hs) e3) (zR g2.cf g2.at_ e4) e5 fun t ht=>⟨k,vVv (ht H2) e6,?_⟩
 have st:=g1.st.trans g2.st
 cases k with
 | false=>exact w7 _ H2 W2 ⟨st,g2.cf, .bl false⟩
 | true=>
   refine yY g2.cf (wp_mono (fun _ q=>q) (fun C fs he=>he.back st) (qW.mp w7)) fun r3 w8 t H3 W3 g3=>?_
   obtain⟨hs',w9⟩:=v4 w8
   obtain⟨y',e7,w10⟩:=qB w9
   obtain⟨w',e8,w11⟩:=qB w10
   obtain⟨z',e9,w12⟩:=qB w11
   exact hp' v t H3 y' w' z' Q (zR g3.cf (g2.next g3 hs') e7) (zR g3.cf g3.at_ e8) e9 fun v hv=>w12 v H3 W3 ⟨st.trans g3.st,g3.cf,hv _⟩
theorem vXa {op op' :CmpOp} {r r' :R2} {f f' :D->D->Option D} (ho:OpR X (bM op) r) (hp:PrS2 X.K c r f) (ho' :OpR X (bM op') r') (hp' :PrS2 X.K c r' f') (ha:OD X c E a oa) (hb:OD X c E b ob) (hc:OD X c E d oc)
  (hm:lastMarks [op,op'] [b,d]=false:=by with_unfolding_all rfl):TD X c E (.Compare a [op,op'] [b,d] pos) (asB (oCh f f' oa ob oc)):=
 ⟨PT.imp (vXq ho ho' ha.h hb.h hc.h hm) fun _ _ _ h=>zZr hp hp' (qX5 h)⟩
def bAnd (s t:ST):ST:=fun env=>(s env).bind fun r=>cond r.1 (t r.2) (.ok (false,r.2))
def bOr (s t:ST):ST:=fun env=>(s env).bind fun r=>cond r.1 (.ok (true,r.2)) (t r.2)
def bNot (s:ST):ST:=fun env=>(s env).bind fun r=> .ok (!r.1,r.2)
theorem td_w (h:WD X c E e sa):TD X c E e sa:=⟨PW.pt h.h⟩
theorem vQr (h:TD X c E a sa):WD X c E (.BoolOp .And [a] pos) sa:=⟨vKj h.h⟩
theorem qZo (h:TD X c E a sa):WD X c E (.BoolOp .Or [a] pos) sa:=⟨zZ4 h.h⟩
theorem vQs {K:aQ} {s:ST} {env env' :Ev} {σ σ' :L2.St} {H H' :Hp} {B W W' :Fp} {Q:Bool->Hp->Prop} (st:Step env σ H B W env' σ' H' W') (cf:Cf K c env' σ' H' B W') (h:(s env').wp (fun r=>∀H2 W2,Step env σ H B W r.2 σ' H2 W2->Cf K c r.2 σ' H2 B W2->Q r.1 H2) (erP K c E H B W)):tT K c E s σ' H' Q:=
 ⟨env',B,W',cf,wp_mono (fun r q H2 W2 st2 cf2=>q H2 W2 (st.trans st2) cf2) (fun C fs he=>he.back st) h⟩
theorem vJz (ha:TD X c E a sa) (hb:WD X c E (.BoolOp .And (b::rest) pos) sb):WD X c E (.BoolOp .And (a::b::rest) pos) (bAnd sa sb):=by
 refine⟨PW.imp (zZ5 ha.h hb.h) fun σ H Q=>?_⟩
 rintro⟨env,B,W,cf,w⟩
 refine⟨env,B,W,cf,wp_mono (fun r1 h1 H1 W1 st1 cf1=>?_) (fun _ _ he=>he) (qW.mp w)⟩
 obtain⟨k,e1⟩:=r1
 cases k with
 | false=>exact h1 H1 W1 st1 cf1
 | true=>exact vQs st1 cf1 h1
theorem qZh (ha:TD X c E a sa) (hb:WD X c E (.BoolOp .Or (b::rest) pos) sb):WD X c E (.BoolOp .Or (a::b::rest) pos) (bOr sa sb):=by
 refine⟨PW.imp (zXh ha.h hb.h) fun σ H Q=>?_⟩
 rintro⟨env,B,W,cf,w⟩
 refine⟨env,B,W,cf,wp_mono (fun r1 h1 H1 W1 st1 cf1=>?_) (fun _ _ he=>he) (qW.mp w)⟩
 obtain⟨k,e1⟩:=r1
 cases k with
 | true=>exact h1 H1 W1 st1 cf1
 | false=>exact vQs st1 cf1 h1
theorem xK (ha:TD X c E a sa):TD X c E (.UnaryOp .Not a pos) (bNot sa):=by
 refine⟨PT.imp (zZ9 ha.h) fun σ H Q=>?_⟩
 rintro⟨env,B,W,cf,w⟩
 exact⟨env,B,W,cf,wp_mono (fun r1 h1=>h1) (fun _ _ he=>he) (qW.mp w)⟩
end
section
variable {X:Cx} {c:Nat->aZ} {E:XK} {e a b d:Expr} {rest:List Expr} {pos:Pos} {sa sb:ST} {oa ob oc:Oe} {o:Oe}
def oAnd (s t:Oe):Oe:= .v fun env=>(asB s env).bind fun r=>cond r.1 (oV t r.2) (.ok (.bl false,r.2))
def oNot (s:Oe):Oe:= .v fun env=>(asB s env).bind fun r=> .ok (.bl (!r.1),r.2)
theorem vY5 {K:aQ} {s:SV} {env env' :Ev} {σ:L2.St} {H H' :Hp} {B W W' :Fp} {Q:VK} (st:Step env σ H B W env' σ H' W') (cf:Cf K c env' σ H' B W') (h:(s env').wp (fun r=>∀u H2 W2,GotD K c env σ H B W r.2 H2 W2 r.1 u->Q u H2) (erP K c E H B W)):tV K c E s σ H' Q:=
 ⟨env',B,W',cf,wp_mono (fun r q u H2 W2 g=>q u H2 W2 ⟨st.trans g.st,g.cf,g.at_⟩) (fun C fs he=>he.back st) h⟩
theorem zJ2 {op} (h:OD X c E a o):OD X c E (.BoolOp op [a] pos) o:=⟨zJm h.h⟩
theorem zJ5 (ha:OD X c E a oa) (hb:OD X c E (.BoolOp .And (b::rest) pos) ob):OD X c E (.BoolOp .And (a::b::rest) pos) (oAnd oa ob):=by
 refine⟨PE.imp (zJr ha.h hb.h) fun σ H Q=>?_⟩
 rintro⟨env,B,W,cf,w⟩
 refine qX5 (Q:=fun k H1=>if k=true then tO X.K c E ob σ H1 Q else Q (.bl false) H1) ⟨env,B,W,cf,wp_mono (fun r1 h1 H1 W1 st1 cf1=>?_) (fun _ _ he=>he) (qW.mp w)⟩
 obtain⟨k,e1⟩:=r1
 cases k with
 | false=>exact h1 _ H1 W1 ⟨st1,cf1, .bl false⟩
 | true=>exact vJ3 (vY5 st1 cf1 h1)
theorem zJ3 (ha:OD X c E a oa):OD X c E (.UnaryOp .Not a pos) (oNot oa):=by
 refine⟨PE.imp (zJn ha.h) fun σ H Q=>?_⟩
 rintro⟨env,B,W,cf,w⟩
 exact qX5 (Q:=fun k H1=>Q (.bl (!k)) H1) ⟨env,B,W,cf,wp_mono (fun r1 h1 H1 W1 st1 cf1=>h1 _ H1 W1 ⟨st1,cf1, .bl _⟩) (fun _ _ he=>he) (qW.mp w)⟩
def eIte (t:ST) (x y:SE):SE:=fun env=>(t env).bind fun r=>cond r.1 (x r.2) (y r.2)
theorem Got.back {K:aQ} {env env' env2:Ev} {σ:L2.St} {H H' H2:Hp} {B W W' W2 Z:Fp} {o:O} {u:V} (st:Step env σ H B W env' σ H' W') (g:Got K c env' σ H' B W' env2 H2 W2 Z o u):Got K c env σ H B W env2 H2 W2 Z o u:=⟨st.trans g.st,g.cf,g.at_⟩
theorem vQv {K:aQ} {s:SE} {env env' :Ev} {σ:L2.St} {H H' :Hp} {B W W' :Fp} {Q:VK} (st:Step env σ H B W env' σ H' W') (cf:Cf K c env' σ H' B W') (h:(s env').wp (fun r=>∀u H2 W2 Z,Got K c env σ H B W r.2 H2 W2 Z r.1 u->Q u H2) (erP K c E H B W)):tE K c E s σ H' Q:=
 ⟨env',B,W',cf,wp_mono (fun r q u H2 W2 Z g=>q u H2 W2 Z (g.back st)) (fun C fs he=>he.back st) h⟩
theorem vYp {s t:SE} (hc:TD X c E d sa) (ha:ED X c E a s) (hb:ED X c E b t):ED X c E (.IfExp d a b pos) (eIte sa s t):=by
 refine⟨PE.imp (vXz hc.h ha.h hb.h) fun σ H Q=>?_⟩
 rintro⟨env,B,W,cf,w⟩
 refine⟨env,B,W,cf,wp_mono (fun r1 h1 H1 W1 st1 cf1=>?_) (fun _ _ he=>he) (qW.mp w)⟩
 obtain⟨k,e1⟩:=r1
 cases k with
 | true=>exact vQv st1 cf1 h1
 | false=>exact vQv st1 cf1 h1
end
def fidx (f:Str):List Str->Option Nat
 | []=>none
 | g::r=>if f=g then some 0 else(fidx f r).map (· + 1)
theorem qQ1 {f:Str}:∀ {fs:List Str} {vs:List V} {j:Nat} {v:V},fidx f fs=some j->vs[j]?=some v->(fs.zip vs).lookup f=some v
 | [],vs,j,v,h,e=>by cases h
 | g::r,[],j,v,h,e=>by simp at e
 | g::r,w::vs,j,v,h,e=>by
   rw [cJ]
   simp only [fidx] at h
   by_cases q:f=g
   ·rw [if_pos q] at h
    cases h
    cases e
    rw [List.lookup,show(f == g)=true by rw [q];exact beq_self_eq_true _]
   ·rw [if_neg q] at h
    obtain⟨i,h1,rfl⟩:=bY.mp h
    rw [List.lookup,show(f == g)=false from beq_eq_false_iff_ne.mpr q]
    exact qQ1 h1 (by simpa using e)
def kidx {κ:Type} [DecidableEq κ] (k:κ):List κ->Option Nat
 | []=>none
 | g::r=>if g=k then some 0 else(kidx k r).map (· + 1)
theorem yM {k:Key}:∀ {ks:List Key} {vs:List V},ks.length=vs.length->valV (ks.zip vs) k=(kidx k ks).bind fun j=>vs[j]?
 | [],[],_=>rfl
 | g::r,w::vs,h=>by
   rw [cJ]
   simp only [kidx]
   by_cases q:g=k
   ·rw [if_pos q,qQ8 q];rfl
   ·rw [if_neg q,qQ9 q,yM (Nat.succ.inj h)]
    cases kidx k r with
    | none=>rfl
    | some i=>rfl
 | [],_::_,h=>by cases h
 | _::_,[],h=>by cases h
theorem qZe {κ:Type} [DecidableEq κ] {k:κ}:∀ {ks:List κ} {j:Nat},kidx k ks=some j->j < ks.length/\ks[j]?=some k
 | [],j,h=>by cases h
 | g::r,j,h=>by
   simp only [kidx] at h
   by_cases q:g=k
   ·rw [if_pos q] at h;cases h;exact⟨Nat.succ_pos _,by rw [q];rfl⟩
   ·rw [if_neg q] at h
    obtain⟨i,h1,rfl⟩:=bY.mp h
    obtain⟨h2,h3⟩:=qZe h1
    exact⟨Nat.succ_lt_succ h2,by simpa using h3⟩
theorem qJ5 {H:Hp}:∀ {π:List Nat} {v u w:V} {j:Nat},walk H v π=some u->walk H u [j]=some w->walk H v (π ++ [j])=some w
 | [],v,u,w,j,h,k=>by
   have:v=u:=by cases v <;> simpa [walk] using h
   rw [this];exact k
 | i::π,v,u,w,j,h,k=>by
   cases v with
   | ref p=>
     rw [List.cons_append]
     simp only [walk] at h⊢
     cases e:H p with
     | none=>rw [e] at h;cases h
     | some o=>
       rw [e] at h
       dsimp only at h⊢
       cases e2:(kids o)[i]? with
       | none=>rw [e2] at h;cases h
       | some v=>
         rw [e2] at h
         exact qJ5 h k
   | _=>cases h
theorem qKt {H:Hp} {σ:L2.St} {i j:Nat} {π:List Nat} {u w:V} (h:vW H σ i π=some u) (k:walk H u [j]=some w):vW H σ i (π ++ [j])=some w:=by
 unfold vW at h⊢
 cases e:σ[i]? with
 | none=>rw [e] at h;cases h
 | some x=>
   rw [e] at h
   cases x with
   | none=>cases h
   | some v=>exact qJ5 h k
theorem vWo {K:aQ} {c:Nat->aZ} {F H:Hp} {σ:L2.St} {k:Kd} {os:List O} {o:O} {p:aZ} {vs:List V} {Z:Fp} {i j:Nat} {π:List Nat} (w:vW H σ i π=some (.ref p)) (b:OwAt c H p k vs) (r:OsAt K c F H os vs Z) (e:os[j]?=some o):
  ∃v,vs[j]?=some v/\HnAt K c F σ H v (hnO o i (π ++ [j])):=by
 obtain⟨v,Z1,R,h1,h2,h3,h4⟩:=r.focus e
 obtain⟨ho,k1,k2⟩:=b.kids
 refine⟨v,h1,vWr h2 (qKt w ?_)⟩
 rw [qVp k1 (by rw [k2];exact h1)]
 simp [walk]
def fldD (cs:List Nat) (f:Str):D->Option D
 | .nd (.obj C fs) ds=>cond (cs.contains C) ((fidx f fs).bind fun j=>ds[j]?) none
 | _=>none
def zZd (env:Ev) (cs:List Nat) (f:Str):Hn->Option Hn
 | .d x=>(fldD cs f x).map .d
 | .p i π=>match getE env i π with
   | some (.ow (.obj C fs) os)=>cond (cs.contains C) ((fidx f fs).bind fun j=>(os[j]?).bind fun o=>some (hnO o i (π ++ [j]))) none
   | _=>none
def oFld (cs:List Nat) (f:Str):Oe->Oe
 | .p s=> .p fun env=>(s env).bind (zZd env cs f)
 | .v s=> .v fun env=>(s env).bind fun r=>(opt (fldD cs f r.1)).bind fun x=> .ok (x,r.2)
def qQs (K:aQ) (c:Nat->aZ) (cs:List Nat) (f:Str):Prop:=∀C∈cs,Cls K (c C)/\jU K (c C) f
theorem vE {α:Type} {b:Bool} {x:Option α} {y:α} (h:cond b x none=some y):b=true/\x=some y:=by
 cases b with
 | true=>exact⟨rfl,h⟩
 | false=>cases h
theorem qXa {cs:List Nat} {C:Nat} (h:cs.contains C=true):C∈cs:=List.contains_iff_mem.mp h
section
variable {X:Cx} {K:aQ} {c:Nat->aZ} {E:XK} {e a b:Expr} {pos:Pos} {o oa ob:Oe} {f:Str} {cs:List Nat}
theorem vVl {F:Hp} {u:V} {x y:D} (ok:qQs K c cs f) (h:DAt K c F u x) (e:fldD cs f x=some y):∃a C dx fs v,u= .ref a/\F a=some (.ins C dx fs)/\Cls K C/\jU K C f/\fs.lookup f=some v/\DAt K c F v y:=by
 unfold fldD at e
 split at e
 ·rename_i C fs ds
  obtain⟨q1,q2⟩:=vE e
  obtain⟨j,e1,e2⟩:=bnd q2
  obtain⟨p,vs,rfl,⟨h1,dx,h2⟩,h3⟩:=h.un
  obtain⟨v,g1,g2⟩:=h3.get e2
  obtain⟨k1,k2⟩:=ok C (qXa q1)
  exact⟨p,_,dx,_,v,rfl,h2,k1,k2,qQ1 e1 g1,g2⟩
 ·cases e
theorem qZr (ok:qQs X.K c cs f) (h:OD X c E e o) (hb:attributeBase e f X.env (eval e X.env)=eval e X.env:=by rfl):OD X c E (.Attribute e f pos) (oFld cs f o):=by
 refine⟨PE.imp (zJq h.h hb) fun σ H Q q=>?_⟩
 cases o with
 | p s=>
   obtain⟨env,B,W,h1,cf,e0,q⟩:=q
   obtain⟨h0,e1,e2⟩:=bnd e0
   refine⟨env,B,W,h0,cf,e1,fun u hu=>?_⟩
   cases h0 with
   | d x=>
     obtain⟨y,e3,rfl⟩:=bY.mp e2
     obtain⟨a,C,dx,fs,v,rfl,r1,r2,r3,r4,r5⟩:=vVl ok hu e3
     exact⟨a,C,dx,fs,v,rfl,qG _ _ r1,r2,r3,r4,q v r5⟩
   | p i π=>
     have hu' :vW H σ i π=some u:=hu
     simp only [zZd] at e2
     cases e3:getE env i π with
     | none=>rw [e3] at e2;cases e2
     | some o1=>
       rw [e3] at e2
       cases o1 with
       | fz d=>cases e2
       | ow k os=>
         cases k with
         | obj C fs=>
           obtain⟨q1,q2⟩:=vE e2
           obtain⟨j,e4,e5⟩:=bnd q2
           obtain⟨o2,e6,e7⟩:=bnd e5
           cases e7
           obtain⟨v1,Z1,R,w1,w2,w3,w4⟩:=cf.place e3
           rw [hu'] at w1
           cases w1
           rw [OAt.ow] at w2
           obtain⟨p,vs,Z',rfl,b,cc,d⟩:=w2
           obtain⟨v,g1,g2⟩:=vWo hu' b cc e6
           obtain⟨b1,dx,b2⟩:=b
           obtain⟨k1,k2⟩:=ok C (qXa q1)
           exact⟨p,_,dx,_,v,rfl,b2,k1,k2,qQ1 e4 g1,q v g2⟩
         | _=>cases e2
 | v s=>
   obtain⟨env,B,W,cf,w⟩:=q
   refine⟨env,B,W,cf,wp_mono (fun r w1 u H1 W1 g=>?_) (fun _ _ he=>he) (qW.mp w)⟩
   obtain⟨y,e3,w2⟩:=qB w1
   obtain⟨a,C,dx,fs,v,rfl,r1,r2,r3,r4,r5⟩:=vVl ok g.at_ e3
   exact⟨a,C,dx,fs,v,rfl,qG _ _ r1,r2,r3,r4,w2 v H1 W1 ⟨g.st,g.cf,r5⟩⟩
end
def qZi:D->Option Key
 | .int i=>some (.inl i)
 | .str x=>some (.inr x)
 | _=>none
theorem qVc {K:aQ} {c:Nat->aZ} {F:Hp} {u:V} {x:D} {k:Key} (h:DAt K c F u x) (e:qZi x=some k):u=kV k:=by
 cases h <;> cases e <;> rfl
def xB:D->Option Int
 | .int i=>some i
 | _=>none
theorem zJ {K:aQ} {c:Nat->aZ} {F:Hp} {u:V} {x:D} {i:Int} (h:DAt K c F u x) (e:xB x=some i):u= .int i:=by
 cases h <;> cases e <;> rfl
def zXd:D->Option Str
 | .str i=>some i
 | _=>none
theorem vXf {K:aQ} {c:Nat->aZ} {F:Hp} {u:V} {x:D} {i:Str} (h:DAt K c F u x) (e:zXd x=some i):u= .str i:=by
 cases h <;> cases e <;> rfl
def idxK (n:Nat) (y:D):Kd->Option Nat
 | .lst=>(xB y).bind fun i=>ixN n i
 | .tup=>(xB y).bind fun i=>ixN n i
 | .dct ks=>(qZi y).bind fun k=>kidx k ks
 | _=>none
def ixD (x y:D):Option D:=match x with
 | .nd k ds=>(idxK ds.length y k).bind fun j=>ds[j]?
 | .str z=>(xB y).bind fun i=>(atI z.cps.toList i).bind fun ch=>cond (decide (z.length<=bX)) (some (.str ⟨#[ch]⟩)) none
 | _=>none
def hnIx (env:Ev) (y:D):Hn->Option Hn
 | .d x=>(ixD x y).map .d
 | .p i π=>match getE env i π with
   | some (.ow k os)=>(idxK os.length y k).bind fun j=>(os[j]?).bind fun o=>some (hnO o i (π ++ [j]))
   | _=>none
def oIx (a b:Oe):Oe:=match a,b with
 | .p s, .p t=> .p fun env=>(s env).bind fun h=>(t env).bind fun h' =>(rsv env h').bind fun y=>hnIx env y h
 | a,b=> .v fun env=>(evO a env).bind fun r=>(evO b r.2).bind fun r' =>cond r.1.st ((opt (rsv r'.2 r'.1)).bind fun y=>(opt (hnIx r'.2 y r.1)).bind fun h=>hnV r'.2 h) .no
def rDGet:R2:=fun x y H Q=>∃a v,x= .ref a/\DGet H a y (some v)/\Q v H
theorem vVe {X:Cx} (hu:X.A.units + 1 < dC):IxR X rDGet:=by
 intro value slice pins s σ H x y v u Q I rx ry h hs
 obtain⟨a,z,rfl,g,q⟩:=h
 cases rx
 exact tail_any (qY7 I g) PySem.F.slot_dict_getitem.lookup (vZ7 hu I g ry fun w' s3 I3 rw' =>⟨z,H,I3,rw',q⟩) hs
def rIxA (K:aQ):R2:=fun x y H Q=>rIx K x y H Q\/rDGet x y H Q
theorem zWj {X:Cx} (hu:X.A.units + 1 < dC):IxR X (rIxA X.K):=zWi.or (vVe hu)
section
variable {X:Cx} {K:aQ} {c:Nat->aZ} {E:XK} {e a b:Expr} {pos:Pos} {o oa ob:Oe}
theorem vW5 {α:Type} {xs:List α} {i:Int} {j:Nat} {v:α} (h:ixN xs.length i=some j) (e:xs[j]?=some v):atI xs i=some v:=by
 unfold atI;rw [h];exact e
theorem zZc {H:Hp} {p:aZ} {w:V} {k:Kd} {vs:List V} {y:D} {n j:Nat} {v:V} {Q:VK} (h:NdAt K c H p k vs) (hn:vs.length=n) (hy:DAt K c H w y) (e:idxK n y k=some j) (ev:vs[j]?=some v) (q:Q v H):rIxA K (.ref p) w H Q:=by
 subst hn
 cases k with
 | lst=>
   obtain⟨i,e1,e2⟩:=bnd e
   exact .inl (.inl ⟨p,vs,i,v,rfl,zJ hy e1,h,vW5 e2 ev,q⟩)
 | tup=>
   obtain⟨i,e1,e2⟩:=bnd e
   exact .inl (.inr (.inl ⟨p,vs,i,v,rfl,zJ hy e1,h,vW5 e2 ev,q⟩))
 | dct ks=>
   obtain⟨k,e1,e2⟩:=bnd e
   refine .inr ⟨p,v,rfl,?_,q⟩
   rw [qVc hy e1]
   have:=DGet.k (k:=k) h.2.2
   rw [yM h.1,e2] at this
   rw [←ev];exact this
 | _=>cases e
theorem zWk {H:Hp} {F:Hp} {u w:V} {x y z:D} {Q:VK} (s:Same F H) (h:DAt K c F u x) (hy:DAt K c H w y) (e:ixD x y=some z) (q:∀v,DAt K c F v z->Q v H):rIxA K u w H Q:=by
 unfold ixD at e
 split at e
 ·obtain⟨j,e1,e2⟩:=bnd e
  obtain⟨p,vs,rfl,h1,h2⟩:=h.un
  obtain⟨v,g1,g2⟩:=h2.get e2
  exact zZc (h1.same s) h2.len hy e1 g1 (q v g2)
 ·rename_i z'
  obtain⟨i,e1,e2⟩:=bnd e
  obtain⟨ch,e3,e4⟩:=bnd e2
  obtain⟨q1,q2⟩:=vE e4
  cases q2
  exact .inl (.inr (.inr ⟨z',i,ch,vXf h rfl,zJ hy e1,of_decide_eq_true q1,e3,q _ (.str _)⟩))
 ·cases e
theorem vVg {env:Ev} {σ:L2.St} {H:Hp} {B W:Fp} {h h' :Hn} {u w:V} {y:D} {Q:VK} (cf:Cf K c env σ H B W) (hu:HnAt K c (hide (hd2 B W) H) σ H u h) (hy:DAt K c H w y) (e:hnIx env y h=some h') (q:∀v,HnAt K c (hide (hd2 B W) H) σ H v h' ->Q v H):rIxA K u w H Q:=by
 cases h with
 | d x=>
   obtain⟨z,e1,rfl⟩:=bY.mp e
   exact zWk qG hu hy e1 q
 | p i π=>
   have hu' :vW H σ i π=some u:=hu
   simp only [hnIx] at e
   cases e3:getE env i π with
   | none=>rw [e3] at e;cases e
   | some o1=>
     rw [e3] at e
     cases o1 with
     | fz d=>cases e
     | ow k os=>
       obtain⟨j,e4,e5⟩:=bnd e
       obtain⟨o2,e6,e7⟩:=bnd e5
       cases e7
       obtain⟨v1,Z1,R,w1,w2,w3,w4⟩:=cf.place e3
       rw [hu'] at w1
       cases w1
       rw [OAt.ow] at w2
       obtain⟨p,vs,Z',rfl,b,cc,d⟩:=w2
       obtain⟨v,g1,g2⟩:=vWo hu' b cc e6
       exact zZc (b.nd rfl) cc.length hy e4 g1 (q v g2)
theorem vQu {σ:L2.St} {H:Hp} {Q:VK} (h:tV K c E (fun env=>(evO oa env).bind fun r=>(evO ob r.2).bind fun r' =>cond r.1.st ((opt (rsv r'.2 r'.1)).bind fun y=>(opt (hnIx r'.2 y r.1)).bind fun h=>hnV r'.2 h) .no) σ H Q):tOp (rIxA K) (tO K c E oa) (tO K c E ob) σ H Q:=by
 obtain⟨env,B,W,cf,w⟩:=h
 refine yY cf (qW.mp w) fun r1 w1 u H1 W1 g1=>?_
 refine yY g1.cf (wp_mono (fun _ q=>q) (fun C fs he=>he.back g1.st) (qW.mp w1)) fun r2 w2 v H2 W2 g2=>?_
 obtain⟨hs,w3⟩:=v4 w2
 obtain⟨y,e3,w4⟩:=qB w3
 obtain⟨h',e4,w5⟩:=qB w4
 refine vVg g2.cf (g1.next g2 (by rw [hs];rfl)) (zR g2.cf g2.at_ e3) e4 fun z hz=>?_
 obtain⟨x,env',W',g,q⟩:=qKk g2.cf hz w5
 exact q z H2 W' ⟨(g1.st.trans g2.st).trans g.st,g.cf,g.at_⟩
theorem zXt (hu:X.A.units + 1 < dC) (ha:OD X c E a oa) (hb:OD X c E b ob) (hs:qXj b:=by exact fun _ _=>rfl):OD X c E (.Subscript a b pos) (oIx oa ob):=by
 refine⟨PE.imp (zV2 (zWj hu) ha.h hb.h hs) fun σ H Q h=>?_⟩
 cases oa with
 | v s=>exact vQu h
 | p s=>
   cases ob with
   | v t=>exact vQu h
   | p t=>
     obtain⟨env,B,W,h1,cf,e0,q⟩:=h
     obtain⟨h0,e1,e2⟩:=bnd e0
     obtain⟨h2,e3,e4⟩:=bnd e2
     obtain⟨y,e5,e6⟩:=bnd e4
     exact⟨env,B,W,h0,cf,e1,fun u hu=>⟨env,B,W,h2,cf,e3,fun w hw=>vVg cf hu (zR cf hw e5) e6 q⟩⟩
end
def evOs:List Oe->Ev->Res (List Hn×Ev)
 | [],env=> .ok ([],env)
 | o::os,env=>(evO o env).bind fun r=>cond (r.1.st || os.all Oe.isP) ((evOs os r.2).bind fun r' => .ok (r.1::r'.1,r'.2)) .no
def tOs (K:aQ) (c:Nat->aZ) (E:XK):List Oe->TA
 | []=>tNil
 | o::os=>qJu (tO K c E o) (tOs K c E os)
structure OsD (X:Cx) (c:Nat->aZ) (E:XK) (es:List Expr) (os:List Oe):Prop where
 h:PA X es (tOs X.K c E os)
theorem vV {X:Cx} {c:Nat->aZ} {E:XK}:OsD X c E [] []:=⟨xI⟩
theorem qD {X:Cx} {c:Nat->aZ} {E:XK} {e:Expr} {es:List Expr} {o:Oe} {os:List Oe} (ha:OD X c E e o) (hr:OsD X c E es os) (hs:aU (e::es) X.env=(false,eval e X.env)::aU es X.env:=by rfl):OsD X c E (e::es) (o::os):=⟨jR ha.h hr.h hs⟩
structure GotHs (K:aQ) (c:Nat->aZ) (env:Ev) (σ:L2.St) (H:Hp) (B W:Fp) (os:List Oe) (env' :Ev) (H' :Hp) (W' :Fp) (hs:List Hn) (us:List V):Prop where
 st:Step env σ H B W env' σ H' W'
 cf:Cf K c env' σ H' B W'
 at_:j6 K c (hide (hd2 B W') H') σ H' us hs
 pu:os.all Oe.isP=true->H' =H/\W' =W/\env' =env
section
variable {K:aQ} {c:Nat->aZ} {E:XK}
theorem qVj:∀ {os:List Oe} {env:Ev} {σ:L2.St} {H:Hp} {B W:Fp} {Q:List V->Hp->Prop} {w:List Hn×Ev->Prop},Cf K c env σ H B W->(evOs os env).wp w (erP K c E H B W)->(∀r,w r->∀us H' W',GotHs K c env σ H B W os r.2 H' W' r.1 us->Q us H')->tOs K c E os σ H Q
 | [],env,σ,H,B,W,Q,w,cf,hw,k=>k _ hw [] H W ⟨.refl,cf,trivial,fun _=>⟨rfl,rfl,rfl⟩⟩
 | o::os,env,σ,H,B,W,Q,w,cf,hw,k=>by
   refine yY cf (qW.mp hw) fun r w1 u H1 W1 g1=>?_
   obtain⟨hs,w2⟩:=v4 w1
   refine qVj g1.cf (wp_mono (fun _ q=>q) (fun C fs he=>he.back g1.st) (qW.mp w2)) fun r' w3 us H2 W2 g2=>?_
   refine k _ w3 (u::us) H2 W2 ⟨g1.st.trans g2.st,g2.cf,⟨?_,g2.at_⟩,fun z=>?_⟩
   ·cases e:r.1.st with
    | true=>exact g1.at_.step g2.st.same e
    | false=>
      rw [e] at hs
      obtain⟨e1,e2,_⟩:=g2.pu (by simpa using hs)
      rw [e1,e2]
      exact g1.at_
   ·rw [List.all_cons,bD] at z
    obtain⟨a1,a2,a3⟩:=g1.pu z.1
    obtain⟨b1,b2,b3⟩:=g2.pu z.2
    exact⟨b1.trans a1,b2.trans a2,b3.trans a3⟩
def rsvs (env:Ev):List Hn->Option (List D)
 | []=>some []
 | h::hs=>(rsv env h).bind fun x=>(rsvs env hs).bind fun xs=>some (x::xs)
theorem vQ3 {env:Ev} {σ:L2.St} {H:Hp} {B W:Fp} (cf:Cf K c env σ H B W):∀ {hs:List Hn} {us:List V} {xs:List D},j6 K c (hide (hd2 B W) H) σ H us hs->rsvs env hs=some xs->DsAt K c H us xs
 | [],[],xs,_,e=>by cases e;exact .nil
 | h::hs,u::us,xs,a,e=>by
   obtain⟨x,e1,e2⟩:=bnd e
   obtain⟨ys,e3,e4⟩:=bnd e2
   cases e4
   exact .cons (zR cf a.1 e1) (vQ3 cf a.2 e3)
 | [],_::_,_,a,_=>a.elim
 | _::_,[],_,a,_=>a.elim
def qQm:List Hn->Ev->Res (List D×Ev)
 | [],env=> .ok ([],env)
 | h::hs,env=>(rsvB env h).bind fun r=>(qQm hs r.2).bind fun r' => .ok (r.1::r'.1,r'.2)
def Vws (K:aQ) (c:Nat->aZ) (F H:Hp):List V->List D->Prop
 | [],[]=>True
 | u::us,x::xs=>Vw K c F H u x/\Vws K c F H us xs
 | _,_=>False
theorem HnAt.mono {F F' :Hp} {σ:L2.St} {H:Hp} {u:V} {h:Hn} (a:HnAt K c F σ H u h) (s:Same F F'):HnAt K c F' σ H u h:=by
 cases h with
 | d x=>exact DAt.same s a
 | p i π=>exact a
theorem j6.mono {F F' :Hp} {σ:L2.St} {H:Hp} (s:Same F F'):∀ {us:List V} {hs:List Hn},j6 K c F σ H us hs->j6 K c F' σ H us hs
 | [],[],_=>trivial
 | u::us,h::hs,a=>⟨a.1.mono s,j6.mono s a.2⟩
 | [],_::_,a=>a.elim
 | _::_,[],a=>a.elim
theorem rsvBs_wp {EE:Nat->List (Str×D)->Prop}:∀ {hs:List Hn} {us:List V} {env:Ev} {σ:L2.St} {H:Hp} {B W:Fp} {Q:List D×Ev->Prop},Cf K c env σ H B W->j6 K c (hide (hd2 B W) H) σ H us hs->(qQm hs env).wp Q EE->
  ∃xs env' W',Step env σ H B W env' σ H W' /\Cf K c env' σ H B W' /\Vws K c (hide (hd2 B W') H) H us xs/\Q (xs,env')
 | [],[],env,σ,H,B,W,Q,cf,_,w=>⟨[],env,W, .refl,cf,trivial,w⟩
 | h::hs,u::us,env,σ,H,B,W,Q,cf,a,w=>by
   obtain⟨x,env1,W1,st1,cf1,v1,w1⟩:=vQ4 cf a.1 (qW.mp w)
   obtain⟨xs,env2,W2,st2,cf2,v2,w2⟩:=rsvBs_wp cf1 (j6.mono st1.same a.2) (qW.mp w1)
   exact⟨x::xs,env2,W2,st1.trans st2,cf2,⟨v1.same st2.same,v2⟩,w2⟩
 | [],_::_,_,_,_,_,_,_,_,a,_=>a.elim
 | _::_,[],_,_,_,_,_,_,_,a,_=>a.elim
end
def PrSN (K:aQ) (c:Nat->aZ) (r:List V->Hp->VK->Prop) (f:List D->Option D):Prop:=∀(us:List V) (H:Hp) (xs:List D) (z:D) (Q:VK),DsAt K c H us xs->f xs=some z->(∀v,(∀F,DAt K c F v z)->Q v H)->r us H Q
def svN (f:List D->Option D) (os:List Oe):SV:=fun env=>(evOs os env).bind fun r=>(opt (rsvs r.2 r.1)).bind fun xs=>(opt (f xs)).bind fun z=> .ok (z,r.2)
def oL (f:List D->Option D) (os:List Oe):Oe:=match os with
 | [.p s]=> .p fun env=>(s env).bind fun h=>(rsv env h).bind fun x=>(f [x]).bind fun z=>some (.d z)
 | os=> .v (svN f os)
section
variable {X:Cx} {K:aQ} {c:Nat->aZ} {E:XK} {e:Expr} {es:List Expr} {pos p:Pos} {x:Str} {id T:String} {r:List V->Hp->VK->Prop} {os:List Oe}
theorem zZp {f:List D->Option D} (hp:PrSN K c r f) {σ:L2.St} {H:Hp} {Q:VK} (h:tV K c E (svN f os) σ H Q):tCB r (tOs K c E os) σ H Q:=by
 obtain⟨env,B,W,cf,w⟩:=h
 refine qVj cf (qW.mp w) fun r1 w1 us H1 W1 g=>?_
 obtain⟨xs,e1,w2⟩:=qB w1
 obtain⟨z,e2,w3⟩:=qB w2
 exact hp us H1 xs z Q (vQ3 g.cf g.at_ e1) e2 fun v hv=>w3 v H1 W1 ⟨g.st,g.cf,hv _⟩
theorem zW6 {f:List D->Option D} (hp:PrSN K c r f) {σ:L2.St} {H:Hp} {Q:VK} (h:tO K c E (oL f os) σ H Q):tCB r (tOs K c E os) σ H Q:=by
 unfold oL at h
 split at h
 ·obtain⟨env,B,W,h1,cf,e0,q⟩:=h
  obtain⟨h0,e1,e2⟩:=bnd e0
  obtain⟨x,e3,e4⟩:=bnd e2
  obtain⟨z,e5,e6⟩:=bnd e4
  cases e6
  exact⟨env,B,W,h0,cf,e1,fun u hu=>hp [u] H [x] z Q (.cons (zR cf hu e3) .nil) e5 fun v hv=>q v (hv _)⟩
 ·exact zZp hp h
theorem qZ5 {f:List D->Option D} (hc:zZ X (.builtin id) r) (hp:PrSN X.K c r f) (hg:Gl X x) (hm:X.mg x=none) (hv:cO x=some (.builtin id)) (ha:OsD X c E (e::es) os) (hn:x≠"__name__":=by decide) (hdb:(x == ("__debug__":Str))=false:=by decide)
  (he:aU (e::es) X.env=(false,eval e X.env)::aU es X.env:=by rfl) (hpl:(cM pos (aU es X.env)).any (·.1)=false:=by rfl):OD X c E (.Call (.Name x p) (e::es) [] pos) (oL f os):=
 ⟨PE.imp (yR hc hg hm hv ha.h hn hdb he hpl) fun _ _ _ h=>zW6 hp h⟩
end
section
variable {K:aQ} {c:Nat->aZ} {E:XK} {env env' :Ev} {σ:L2.St} {H H' :Hp} {B W W' :Fp} {p:aZ} {o:O} {k:Kd}
theorem Got.lay (cf:Cf K c env σ H B W) (hn:H p=none) (sm:Same H H') {vs:List V} {ds:List D} (ha:OwAt c H' p k vs) (hd:DsAt K c (hide (hd2 (hd2 B W) (one p)) H') vs ds):Got K c env σ H B W env H' W (one p) (.ow k (ds.map .fz)) (.ref p):=by
 obtain⟨z1,z2⟩:=cf.fresh hn
 have st:∀a,B a + W a≠0->H' a=H a:=fun a z=>by obtain⟨o,q,_⟩:=cf.hbs z;rw [q,sm a o q]
 have np:∀a o,H a=some o->a≠p:=fun a o q z=>by rw [z,hn] at q;cases q
 have s1:Same (hide (hd2 B W) H) (hide (hd2 (hd2 B (one p)) W) H'):=zW fun a o z q=>⟨by have:=j7 (np a o q);dsimp only [hd2] at *;omega,sm a o q⟩
 have s2:hide (hd2 B (hd2 W (one p))) H' =hide (hd2 (hd2 B (one p)) W) H' :=vO fun a=>by dsimp only [hd2];omega
 have s3:hide (hd2 (hd2 B W) (one p)) H' =hide (hd2 (hd2 B (one p)) W) H' :=vO fun a=>by dsimp only [hd2];omega
 refine⟨⟨by rw [s2];exact s1,fun a z=>st a (by omega),fun a z=>?_,fun a z=>?_,fun a z1 _=> .of (st a (by omega)),fun _ o h=>⟨⟨o,h⟩,rfl⟩,rfl⟩,⟨cf.at_.keep s1 fun a z=>st a (by omega),fun a=>?_,fun a z=>?_⟩,OAt.ow.mpr ⟨p,vs,fun _=>0,rfl,ha,OsAt.fzs.mpr ⟨by rw [←s3];exact hd,fun _=>rfl⟩,fun _=>rfl⟩⟩
 ·by_cases q:a=p
  ·exact .inr (by rw [q];exact hn)
  ·exact .inl (by have:=j7 q;dsimp only [hd2] at z;omega)
 ·cases q:H a with
  | none=>rfl
  | some o=>rw [sm a o q] at z;cases z
 ·have:=cf.nd a
  by_cases q:a=p
  ·subst q;rw [show hd2 B (one a) a=B a + one a a from rfl,jV];omega
  ·rw [show hd2 B (one p) a=B a + one p a from rfl,j7 q];omega
 ·by_cases q:a=p
  ·subst q;exact ha.hb
  ·rw [show hd2 B (one p) a=B a + one p a from rfl,j7 q] at z
   obtain⟨o,h1,h2⟩:=cf.hb a (by omega)
   exact⟨o,sm a o h1,h2⟩
theorem qZ7 (cf:Cf K c env σ H B W) (hn:H p=none) (sm:Same H H'):Same (hide (hd2 B W) H) (hide (hd2 (hd2 B W) (one p)) H'):=zW fun a o z q=>⟨by
 have np:a≠p:=fun z=>by rw [z,hn] at q;cases q
 have:=j7 np;dsimp only [hd2] at *;omega,sm a o q⟩
end
def PrF (K:aQ) (c:Nat->aZ) (r:List V->Hp->VK->Prop) (f:List D->Option (List D)):Prop:=∀(us:List V) (H:Hp) (T:Fp) (xs ds:List D) (Q:VK),(∀a,T a≠0->∃o,H a=some o/\Hb o)->Vws K c (hide T H) H us xs->f xs=some ds->
 (∀p ws H',H p=none->Same H H' ->H' p=some (.lst ws)->DsAt K c (hide (hd2 T (one p)) H') ws ds->Q (.ref p) H')->r us H Q
def PrA (K:aQ) (c:Nat->aZ) (r:List V->Hp->VK->Prop) (f:List D->Option D):Prop:=∀(us:List V) (H:Hp) (T:Fp) (xs:List D) (z:D) (Q:VK),(∀a,T a≠0->∃o,H a=some o/\Hb o)->Vws K c (hide T H) H us xs->f xs=some z->
 (∀v H',Same H H' ->DAt K c (hide T H') v z->Q v H')->r us H Q
def eF (f:List D->Option (List D)) (os:List Oe):SE:=fun env=>(evOs os env).bind fun r=>(qQm r.1 r.2).bind fun q=>(opt (f q.1)).bind fun ds=> .ok (.ow .lst (ds.map .fz),q.2)
def svA (f:List D->Option D) (os:List Oe):SV:=fun env=>(evOs os env).bind fun r=>(qQm r.1 r.2).bind fun q=>(opt (f q.1)).bind fun z=> .ok (z,q.2)
section
variable {X:Cx} {K:aQ} {c:Nat->aZ} {E:XK} {e:Expr} {es:List Expr} {pos p:Pos} {x:Str} {id T:String} {r:List V->Hp->VK->Prop} {os:List Oe}
theorem vJg {f:List D->Option (List D)} (hp:PrF K c r f) {σ:L2.St} {H:Hp} {Q:VK} (h:tE K c E (eF f os) σ H Q):tCB r (tOs K c E os) σ H Q:=by
 obtain⟨env,B,W,cf,w⟩:=h
 refine qVj cf (qW.mp w) fun r1 w1 us H1 W1 g=>?_
 obtain⟨xs,env2,W2,st2,cf2,v2,w2⟩:=rsvBs_wp g.cf g.at_ (qW.mp w1)
 obtain⟨ds,e2,w3⟩:=qB w2
 refine hp us H1 (hd2 B W2) xs ds Q (fun a z=>cf2.hbs z) v2 e2 fun p ws H' hn sm hq dz=>?_
 exact w3 _ H' W2 _ ((Got.lay cf2 hn sm (k:= .lst) hq dz).back (g.st.trans st2))
theorem zVs {f:List D->Option D} (hp:PrA K c r f) {σ:L2.St} {H:Hp} {Q:VK} (h:tV K c E (svA f os) σ H Q):tCB r (tOs K c E os) σ H Q:=by
 obtain⟨env,B,W,cf,w⟩:=h
 refine qVj cf (qW.mp w) fun r1 w1 us H1 W1 g=>?_
 obtain⟨xs,env2,W2,st2,cf2,v2,w2⟩:=rsvBs_wp g.cf g.at_ (qW.mp w1)
 obtain⟨z,e2,w3⟩:=qB w2
 refine hp us H1 (hd2 B W2) xs z Q (fun a z=>cf2.hbs z) v2 e2 fun v H' sm dz=>?_
 exact w3 v H' W2 ⟨(g.st.trans st2).trans (.grow cf2 sm),cf2.grow sm,dz⟩
theorem vYq {f:List D->Option (List D)} (hc:zZ X (.builtin id) r) (hp:PrF X.K c r f) (hg:Gl X x) (hm:X.mg x=none) (hv:cO x=some (.builtin id)) (ha:OsD X c E (e::es) os) (hn:x≠"__name__":=by decide) (hdb:(x == ("__debug__":Str))=false:=by decide)
  (he:aU (e::es) X.env=(false,eval e X.env)::aU es X.env:=by rfl) (hpl:(cM pos (aU es X.env)).any (·.1)=false:=by rfl):ED X c E (.Call (.Name x p) (e::es) [] pos) (eF f os):=
 ⟨PE.imp (yR hc hg hm hv ha.h hn hdb he hpl) fun _ _ _ h=>vJg hp h⟩
theorem qWf {f:List D->Option (List D)} (hc:zZ X (.type T) r) (hp:PrF X.K c r f) (hg:Gl X x) (hm:X.mg x=none) (hv:cO x=some (.type T)) (ha:OsD X c E (e::es) os) (hn:x≠"__name__":=by decide) (hdb:(x == ("__debug__":Str))=false:=by decide)
  (he:aU (e::es) X.env=(false,eval e X.env)::aU es X.env:=by rfl) (hpl:(cM pos (aU es X.env)).any (·.1)=false:=by rfl):ED X c E (.Call (.Name x p) (e::es) [] pos) (eF f os):=
 ⟨PE.imp (qJ8 hc hg hm hv ha.h hn hdb he hpl) fun _ _ _ h=>vJg hp h⟩
end
def evVs:List SV->Ev->Res (List D×Ev)
 | [],env=> .ok ([],env)
 | s::ss,env=>(s env).bind fun r=>(evVs ss r.2).bind fun r' => .ok (r.1::r'.1,r'.2)
def tVs (K:aQ) (c:Nat->aZ) (E:XK):List SV->TA
 | []=>tNil
 | s::ss=>qJu (tV K c E s) (tVs K c E ss)
structure VsD (X:Cx) (c:Nat->aZ) (E:XK) (es:List Expr) (ss:List SV):Prop where
 h:PA X es (tVs X.K c E ss)
theorem qE {X:Cx} {c:Nat->aZ} {E:XK}:VsD X c E [] []:=⟨xI⟩
theorem qZ {X:Cx} {c:Nat->aZ} {E:XK} {e:Expr} {es:List Expr} {s:SV} {ss:List SV} (ha:EV X c E e s) (hr:VsD X c E es ss) (hs:aU (e::es) X.env=(false,eval e X.env)::aU es X.env:=by rfl):VsD X c E (e::es) (s::ss):=⟨jR ha.h hr.h hs⟩
structure GotDs (K:aQ) (c:Nat->aZ) (env:Ev) (σ:L2.St) (H:Hp) (B W:Fp) (env' :Ev) (H' :Hp) (W' :Fp) (xs:List D) (us:List V):Prop where
 st:Step env σ H B W env' σ H' W'
 cf:Cf K c env' σ H' B W'
 at_:DsAt K c (hide (hd2 B W') H') us xs
theorem qVi {K:aQ} {c:Nat->aZ} {E:XK}:∀ {ss:List SV} {env:Ev} {σ:L2.St} {H:Hp} {B W:Fp} {Q:List V->Hp->Prop} {w:List D×Ev->Prop},Cf K c env σ H B W->(evVs ss env).wp w (erP K c E H B W)->(∀r,w r->∀us H' W',GotDs K c env σ H B W r.2 H' W' r.1 us->Q us H')->tVs K c E ss σ H Q
 | [],env,σ,H,B,W,Q,w,cf,hw,k=>k _ hw [] H W ⟨.refl,cf, .nil⟩
 | s::ss,env,σ,H,B,W,Q,w,cf,hw,k=>by
   refine⟨env,B,W,cf,wp_mono (fun r w1 u H1 W1 g1=>?_) (fun _ _ he=>he) (qW.mp hw)⟩
   refine qVi g1.cf (wp_mono (fun _ q=>q) (fun C fs he=>he.back g1.st) (qW.mp w1)) fun r' w3 us H2 W2 g2=>?_
   exact k _ w3 (u::us) H2 W2 ⟨g1.st.trans g2.st,g2.cf, .cons (g1.at_.same g2.st.same) g2.at_⟩
def vX (ss:List SV):SV:=fun env=>(evVs ss env).bind fun r=>cond (decide (r.1.length<=1000)) (.ok (.tup r.1,r.2)) .no
def eLst (ss:List SV):SE:=fun env=>(evVs ss env).bind fun r=>cond (decide (r.1.length<=1000)) (.ok (.ow .lst (r.1.map .fz),r.2)) .no
theorem vWn {n:Nat} (h:n<=1000):n<=bX:=dL (vV7 h)
section
variable {X:Cx} {c:Nat->aZ} {E:XK} {es:List Expr} {pos:Pos} {ss:List SV}
theorem vI {x1} (h:VsD X c E es ss):EV X c E (.Tuple es x1 pos) (vX ss):=by
 refine⟨PE.imp (vWg h.h) fun σ H Q=>?_⟩
 rintro⟨env,B,W,cf,w⟩
 refine qVi cf (qW.mp w) fun r w1 us H1 W1 g=>?_
 obtain⟨hl,w2⟩:=v4 w1
 refine⟨vWn (by rw [g.at_.len];exact of_decide_eq_true hl),fun p hp=>?_⟩
 have sm:Same H1 (upd H1 p (.tup us)):= .upd hp
 obtain⟨z1,z2⟩:=g.cf.fresh hp
 refine w2 (.ref p) _ W1 ⟨g.st.trans (.grow g.cf sm),g.cf.grow sm, .of (k:= .tup) (SqT.of ?_) (g.at_.same (zW fun a o z q=>⟨z,sm a o q⟩))⟩
 rw [vT (by dsimp only [hd2];omega),upd_same]
theorem vC (h:VsD X c E es ss):ED X c E (.List es pos) (eLst ss):=by
 refine⟨PE.imp (zJo h.h) fun σ H Q=>?_⟩
 rintro⟨env,B,W,cf,w⟩
 refine qVi cf (qW.mp w) fun r w1 us H1 W1 g=>?_
 obtain⟨hl,w2⟩:=v4 w1
 refine⟨vWn (by rw [g.at_.len];exact of_decide_eq_true hl),fun p hp=>?_⟩
 have sm:Same H1 (upd H1 p (.lst us)):= .upd hp
 exact w2 (.ref p) _ W1 _ ((Got.lay g.cf hp sm (k:= .lst) upd_same (g.at_.same (qZ7 g.cf hp sm))).back g.st)
def eDct0:SE:=fun env=> .ok (.ow (.dct []) [],env)
theorem qZf:ED X c E (.Dict [] [] pos) eDct0:=by
 refine⟨PE.imp vX1 fun σ H Q=>?_⟩
 rintro⟨env,B,W,cf,w⟩
 intro p hp
 have sm:Same H (upd H p (.dK [])):= .upd hp
 exact w (.ref p) _ W _ (Got.lay cf hp sm (k:= .dct []) (vs:=[]) (ds:=[]) ⟨rfl,dW,upd_same⟩ .nil)
end
inductive Out where
 | nx (env:Ev) | rt (o:O) (env:Ev) | bk (env:Ev) | ct (env:Ev)
abbrev SS:=Ev->Res Out
structure GotR (K:aQ) (c:Nat->aZ) (env:Ev) (σ:L2.St) (H:Hp) (B W:Fp) (env' :Ev) (σ' :L2.St) (H' :Hp) (W' Z:Fp) (o:O) (u:V):Prop where
 st:Step env σ H B W env' σ' H' (hd2 W' Z)
 cf:Cf K c env' σ' H' (hd2 B Z) W'
 at_:OAt K c (hide (hd2 (hd2 B Z) W') H') H' o u Z
def OutP (K:aQ) (c:Nat->aZ) (env:Ev) (σ:L2.St) (H:Hp) (B W:Fp) (D:Ends):Out->Prop
 | .nx e=>∀σ' H' W',Step env σ H B W e σ' H' W' ->Cf K c e σ' H' B W' ->D.nx σ' H'
 | .bk e=>∀σ' H' W',Step env σ H B W e σ' H' W' ->Cf K c e σ' H' B W' ->D.bk σ' H'
 | .ct e=>∀σ' H' W',Step env σ H B W e σ' H' W' ->Cf K c e σ' H' B W' ->D.ct σ' H'
 | .rt o e=>∀v σ' H' W' Z,GotR K c env σ H B W e σ' H' W' Z o v->D.rt v H'
def tS (K:aQ) (c:Nat->aZ) (E:XK) (s:SS):TS:=fun D σ H=>∃env B W,Cf K c env σ H B W/\(s env).wp (OutP K c env σ H B W D) (erP K c E H B W)
structure SD (X:Cx) (c:Nat->aZ) (E:XK) (st:Stmt) (s:SS):Prop where
 h:PS X st (tS X.K c E s)
structure SDs (X:Cx) (c:Nat->aZ) (E:XK) (st:List Stmt) (s:SS):Prop where
 h:PSs X st (tS X.K c E s)
theorem PS.imp {X:Cx} {st:Stmt} {t t' :TS} (h:PS X st t) (k:∀D σ H,t' D σ H->t D σ H):PS X st t' :=fun pins s σ H D I q=>h pins s σ H D I (k D σ H q)
theorem PSs.imp {X:Cx} {st:List Stmt} {t t' :TS} (h:PSs X st t) (k:∀D σ H,t' D σ H->t D σ H):PSs X st t' :=fun pins s σ H D I q=>h pins s σ H D I (k D σ H q)
theorem PS.len {X:Cx} {st:Stmt} {t:TS} (h:PS X st (fun D σ H=>σ.length=X.N.length/\t D σ H)):PS X st t:=fun pins s σ H D I q=>h pins s σ H D I ⟨I.len,q⟩
section
variable {K:aQ} {c:Nat->aZ} {E:XK} {env env' :Ev} {σ σ' :L2.St} {H H' :Hp} {B W W' :Fp} {D:Ends} {o:Out} {s:SS}
theorem OutP.back (st:Step env σ H B W env' σ' H' W') (h:OutP K c env σ H B W D o):OutP K c env' σ' H' B W' D o:=by
 cases o with
 | nx e=>exact fun σ2 H2 W2 s2 cf=>h σ2 H2 W2 (st.trans s2) cf
 | bk e=>exact fun σ2 H2 W2 s2 cf=>h σ2 H2 W2 (st.trans s2) cf
 | ct e=>exact fun σ2 H2 W2 s2 cf=>h σ2 H2 W2 (st.trans s2) cf
 | rt r e=>exact fun v σ2 H2 W2 Z g=>h v σ2 H2 W2 Z ⟨st.trans g.st,g.cf,g.at_⟩
theorem qW2 (st:Step env σ H B W env' σ' H' W') (cf:Cf K c env' σ' H' B W') (h:(s env').wp (OutP K c env σ H B W D) (erP K c E H B W)):tS K c E s D σ' H' :=
 ⟨env',B,W',cf,wp_mono (fun _ q=>q.back st) (fun _ _ he=>he.back st) h⟩
end
def sSeq (s t:SS):SS:=fun env=>(s env).bind fun o=>match o with
 | .nx e=>t e
 | o=> .ok o
def sNil:SS:=fun env=> .ok (.nx env)
section
variable {X:Cx} {c:Nat->aZ} {E:XK} {st:Stmt} {sts:List Stmt} {s t u:SS} {pos:Pos}
theorem qS:SDs X c E [] sNil:=by
 refine⟨PSs.imp vKo fun D σ H=>?_⟩
 rintro⟨env,B,W,cf,w⟩
 exact w σ H W .refl cf
theorem qX (h:SD X c E st s):SDs X c E [st] s:=⟨vQ7 h.h⟩
theorem qV (h:SD X c E st s) (k:SDs X c E sts t):SDs X c E (st::sts) (sSeq s t):=by
 refine⟨PSs.imp (qYl h.h k.h) fun D σ H=>?_⟩
 rintro⟨env,B,W,cf,w⟩
 refine⟨env,B,W,cf,wp_mono (fun o ho=>?_) (fun _ _ he=>he) (qW.mp w)⟩
 cases o with
 | nx e=>exact fun σ' H' W' st' cf' =>qW2 st' cf' ho
 | bk e=>exact ho
 | ct e=>exact ho
 | rt r e=>exact ho
def sIf (b:ST) (s t:SS):SS:=fun env=>(b env).bind fun r=>cond r.1 (s r.2) (t r.2)
theorem v3 {e:Expr} {x y:List Stmt} {sc:ST} (hc:TD X c E e sc) (ha:SDs X c E x s) (hb:SDs X c E y t):SD X c E (.If e x y pos) (sIf sc s t):=by
 refine⟨PS.imp (zXi hc.h ha.h hb.h) fun D σ H=>?_⟩
 rintro⟨env,B,W,cf,w⟩
 refine⟨env,B,W,cf,wp_mono (fun r1 h1 H1 W1 st1 cf1=>?_) (fun _ _ he=>he) (qW.mp w)⟩
 obtain⟨k,e1⟩:=r1
 cases k with
 | true=>exact qW2 st1 cf1 h1
 | false=>exact qW2 st1 cf1 h1
def sRet (s:SE):SS:=fun env=>(s env).bind fun r=> .ok (.rt r.1 r.2)
theorem qO {e:Expr} {s:SE} (h:ED X c E e s):SD X c E (.Return (some e) pos) (sRet s):=by
 refine⟨PS.imp (vWd h.h) fun D σ H=>?_⟩
 rintro⟨env,B,W,cf,w⟩
 exact⟨env,B,W,cf,wp_mono (fun r1 h1 u H1 W1 Z g=>h1 u σ H1 W1 Z ⟨g.st,g.cf,g.at_⟩) (fun _ _ he=>he) (qW.mp w)⟩
def eMv (i:Nat):SE:=fun env=>match env[i]? with
 | some (.s false o)=> .ok (o,env.set i .un)
 | _=> .no
theorem qQ0 {env:Ev} {i j:Nat} {s:Slot} {o:O} (hs:∀o,s≠ .s true o) (h:(env.set i s)[j]?=some (.s true o)):j≠i/\env[j]?=some (.s true o):=by
 have hj:j≠i:=fun z=>by
  subst z
  rw [List.getElem?_set] at h
  simp only [if_true] at h
  split at h
  ·exact hs o (Option.some.inj h)
  ·cases h
 rw [bE (Ne.symm hj)] at h
 exact⟨hj,h⟩
theorem qJ0 {e:Expr} {i:Nat} (h:PE X e (tVar i)):ED X c E e (eMv i):=by
 refine⟨PE.imp h fun σ H Q=>?_⟩
 rintro⟨env,B,W,cf,w⟩
 unfold eMv at w
 split at w
 ·rename_i o e0
  obtain⟨x,Z1,R,h1,h2,h3,h4⟩:=cf.focus e0
  cases x with
  | none=>exact h2.elim
  | some v=>
    have eq:hide (hd2 (hd2 B Z1) R) H=hide (hd2 B W) H:=vO fun a=>by dsimp only [hd2];rw [h3];omega
    have eq2:hide (hd2 B (hd2 R Z1)) H=hide (hd2 B W) H:=vO fun a=>by dsimp only [hd2];rw [h3];omega
    have cf' :=h4 H (hd2 B Z1) R .un (some v) (fun _=>0) (by rw [eq];exact Same.refl _) (fun a=>by omega) (fun _ _=>rfl) (fun _=>rfl) (fun a=>by have:=cf.nd a;rw [h3] at this;dsimp only [hd2];omega) (fun a z=>by
     by_cases q:B a=0
     ·exact jP.hb (x:=some v) h2 (by dsimp only [hd2] at z;omega)
     ·exact cf.hb a q)
    rw [wI h1] at cf'
    refine⟨v,h1,w v H R Z1 ⟨⟨by rw [eq2];exact Same.refl _,fun _ _=>rfl,fun a z=> .inl (by dsimp only [hd2] at z;rw [h3];omega),fun _ z=>z,fun _ _ _=> .refl,fun j o' q=>?_,dQ⟩,cf',by rw [eq];exact h2⟩⟩
    obtain⟨_,q2⟩:=qQ0 (fun _ z=>by cases z) q
    exact⟨⟨o',q2⟩,rfl⟩
 ·exact w.elim
def vL (s:SE):SS:=fun env=>(s env).bind fun r=> .ok (.nx r.2)
theorem zP {e:Expr} {s:SE} (h:ED X c E e s) (hs:swapsWith e none pos.line X.env=pure false:=by rfl):SD X c E (.Expr e pos) (vL s):=by
 refine⟨PS.imp (vKq h.h hs) fun D σ H=>?_⟩
 rintro⟨env,B,W,cf,w⟩
 exact⟨env,B,W,cf,wp_mono (fun r1 h1 u H1 W1 Z g=>h1 σ H1 W1 g.fz.st g.fz.cf) (fun _ _ he=>he) (qW.mp w)⟩
end
section
variable {K:aQ} {c:Nat->aZ} {env env' :Ev} {σ σ' :L2.St} {H H' :Hp} {B W W' Z:Fp} {i:Nat} {o:O} {u:V}
theorem GotR.put (g:GotR K c env σ H B W env' σ' H' W' Z o u) (hi:i < env'.length):∃W2,Step env σ H B W (env'.set i (.s false o)) (σ'.set i (some u)) H' W2/\Cf K c (env'.set i (.s false o)) (σ'.set i (some u)) H' B W2:=by
 obtain⟨W2,cf2,sm,nw⟩:=g.cf.put (B:=B) (io:=false) (fun _=>rfl) g.at_ hi
 refine⟨W2,g.st.trans ⟨?_,fun _ _=>rfl,fun a z=> .inl ?_,fun _ z=>z,fun _ _ _=> .refl,fun j o' q=>?_,dQ⟩,cf2⟩
 ·rw [show hide (hd2 B (hd2 W' Z)) H' =hide (hd2 (hd2 B Z) W') H' from vO fun a=>by dsimp only [hd2];omega]
  exact sm
 ·have:=nw a z;dsimp only [hd2];omega
 ·obtain⟨q1,q2⟩:=qQ0 (fun _ z=>by cases z) q
  exact⟨⟨o',q2⟩,bE (Ne.symm q1)⟩
theorem Got.r (g:Got K c env σ H B W env' H' W' Z o u):GotR K c env σ H B W env' σ H' W' Z o u:=⟨g.st,g.cf,g.at_⟩
end
def sSet (i:Nat) (s:SE):SS:=fun env=>(s env).bind fun r=> .ok (.nx (r.2.set i (.s false r.1)))
section
variable {X:Cx} {c:Nat->aZ} {E:XK} {pos pos' :Pos} {i:Nat} {x:Str} {e:Expr}
theorem Cf.len {K:aQ} {env:Ev} {σ:L2.St} {H:Hp} {B W:Fp} (h:Cf K c env σ H B W):env.length=σ.length:=h.at_.len
theorem vQ0 {K:aQ} {env:Ev} {σ:L2.St} {H:Hp} {B W:Fp} (cf:Cf K c env σ H B W) {N:List Str} (hl:σ.length=N.length) (hi:N[i]?=some x):i < env.length:=by
 rw [cf.len,hl];exact(aT.mp hi).1
theorem qI {s:SE} (hN:X.N.Nodup) (hi:X.N[i]?=some x) (hx:Loc X.env.scope x) (he:ED X c E e s) (hs:swapsWith e (some (.Name x pos')) pos.line X.env=pure false:=by rfl) (hf:X.fn x=true\/X.env.scope.names.lookup x=some .local:=by first | exact .inl rfl | exact .inr rfl | assumption):
  SD X c E (.Assign [.Name x pos'] e pos) (sSet i s):=by
 refine⟨PS.len (PS.imp (zJa hN hi hx he.h hs hf) fun D σ H=>?_)⟩
 rintro⟨hl,env,B,W,cf,w⟩
 refine⟨env,B,W,cf,wp_mono (fun r1 h1 u H1 W1 Z g=>?_) (fun _ _ he=>he) (qW.mp w)⟩
 obtain⟨W2,s2,c2⟩:=g.r.put (vQ0 g.cf hl hi)
 exact h1 _ H1 W2 s2 c2
end
abbrev SG:=D->Ev->Option Ev
def tG (K:aQ) (c:Nat->aZ) (T:List Nat) (g:SG):TG:=fun v σ H Q=>∃env B W d e,Cf K c env σ H B W/\DAt K c (hide (hd2 B W) H) v d/\g d env=some e/\∀σ' W',Step env σ H B W e σ' H W' ->Cf K c e σ' H B W' ->(∀i,i∉T->σ'[i]?=σ[i]?)->Q σ' H
structure GD (X:Cx) (c:Nat->aZ) (e:Expr) (T:List Nat) (g:SG):Prop where
 h:PG X e (tG X.K c T g)
abbrev SGs:=List D->Ev->Option Ev
def tGs (K:aQ) (c:Nat->aZ) (T:List Nat) (g:SGs):TGs:=fun vs σ H Q=>∃env B W ds e,Cf K c env σ H B W/\DsAt K c (hide (hd2 B W) H) vs ds/\g ds env=some e/\∀σ' W',Step env σ H B W e σ' H W' ->Cf K c e σ' H B W' ->(∀i,i∉T->σ'[i]?=σ[i]?)->Q σ' H
structure GDs (X:Cx) (c:Nat->aZ) (es:List Expr) (T:List Nat) (g:SGs):Prop where
 h:PGs X es (tGs X.K c T g)
theorem PG.imp {X:Cx} {e:Expr} {t t' :TG} (h:PG X e t) (k:∀v σ H Q,t' v σ H Q->t v σ H Q):PG X e t' :=fun pins s σ H v u Q I r q=>h pins s σ H v u Q I r (k v σ H Q q)
theorem PGs.imp {X:Cx} {e:List Expr} {t t' :TGs} (h:PGs X e t) (k:∀v σ H Q,t' v σ H Q->t v σ H Q):PGs X e t' :=fun pins s σ H v u Q I r q=>h pins s σ H v u Q I r (k v σ H Q q)
theorem PG.len {X:Cx} {e:Expr} {t:TG} (h:PG X e (fun v σ H Q=>σ.length=X.N.length/\t v σ H Q)):PG X e t:=fun pins s σ H v u Q I r q=>h pins s σ H v u Q I r ⟨I.len,q⟩
def gN (i:Nat):SG:=fun d env=>some (env.set i (.s false (.fz d)))
def gNl:SGs:=fun ds env=>match ds with
 | []=>some env
 | _=>none
def gCn (g:SG) (gs:SGs):SGs:=fun ds env=>match ds with
 | d::r=>(g d env).bind fun e=>gs r e
 | []=>none
def gT (n:Nat) (gs:SGs):SG:=fun d env=>match d with
 | .nd .tup ds=>if ds.length=n then gs ds env else none
 | _=>none
section
variable {X:Cx} {c:Nat->aZ} {pos:Pos} {x:Str} {i n:Nat} {e:Expr} {es:List Expr} {g:SG} {gs:SGs} {T T' :List Nat}
theorem qF (hN:X.N.Nodup) (hi:X.N[i]?=some x) (hx:Loc X.env.scope x) (hf:X.fn x=true\/X.env.scope.names.lookup x=some .local:=by first | exact .inl rfl | exact .inr rfl | assumption):GD X c (.Name x pos) [i] (gN i):=by
 refine⟨PG.len (PG.imp (vQ8 hN hi hx hf) fun v σ H Q=>?_)⟩
 rintro⟨hl,env,B,W,d,e,cf,hd,h1,h2⟩
 cases h1
 have g:GotD X.K c env σ H B W env H W d v:=⟨.refl,cf,hd⟩
 obtain⟨W2,s2,c2⟩:=g.own.r.put (vQ0 cf hl hi)
 exact h2 _ W2 s2 c2 fun j hj=>bE fun z=>hj (by rw [z];exact aI)
theorem xZ:GDs X c [] [] gNl:=by
 refine⟨PGs.imp vK2 fun v σ H Q=>?_⟩
 rintro⟨env,B,W,ds,e,cf,hd,h1,h2⟩
 cases ds with
 | nil=>
   have:=hd.un0
   cases h1
   exact⟨this,h2 _ W .refl cf fun _ _=>rfl⟩
 | cons d r=>cases h1
theorem vK (h:GD X c e T g) (k:GDs X c es T' gs) (hs:(assignEach (e::es) X.env).map (·.2)=assign e X.env::(assignEach es X.env).map (·.2):=by rfl):GDs X c (e::es) (T ++ T') (gCn g gs):=by
 refine⟨PGs.imp (vXx h.h k.h hs) fun v σ H Q=>?_⟩
 rintro⟨env,B,W,ds,e,cf,hd,h1,h2⟩
 cases ds with
 | nil=>cases h1
 | cons d r=>
   obtain⟨u,us,rfl,a,b⟩:=hd.un
   obtain⟨e2,e1,h1⟩:=bnd h1
   exact⟨u,us,rfl,env,B,W,d,e2,cf,a,e1,fun σ' W' st' cf' k1=>⟨e2,B,W',r,e,cf',b.same st'.same,h1,fun σ2 W2 st2 cf2 k2=>h2 σ2 W2 (st'.trans st2) cf2 fun i hi=>(k2 i fun z=>hi (bB _ z)).trans (k1 i fun z=>hi (dU _ z))⟩⟩
theorem yH {k:Nat} (hc:X.calm=true) (h:GDs X c es T gs) (hn:(assignEach es X.env).length=n:=by rfl) (hst:(assignEach es X.env).findIdx? (·.1)=none:=by rfl):GD X c (.Tuple es k pos) T (gT n gs):=by
 refine⟨PG.imp (zJj hc h.h hn hst) fun v σ H Q=>?_⟩
 rintro⟨env,B,W,d,e,cf,hd,h1,h2⟩
 unfold gT at h1
 split at h1
 ·rename_i ds
  split at h1
  ·rename_i hl
   obtain⟨p,vs,q1,q2,q3⟩:=hd.un
   exact⟨p,vs,q1,qG.tup q2,by rw [q3.len];exact hl,env,B,W,ds,e,cf,q3,h1,h2⟩
  ·cases h1
 ·cases h1
end
def sAsg (s:SV) (g:SG):SS:=fun env=>(s env).bind fun r=>(opt (g r.1 r.2)).bind fun e=> .ok (.nx e)
theorem qKf {X:Cx} {c:Nat->aZ} {E:XK} {tg e:Expr} {s:SV} {g:SG} {T:List Nat} {pos:Pos} (he:EV X c E e s) (hg:GD X c tg T g) (hs:swapsWithSole [tg] e pos.line X.env=pure false:=by rfl) (hw:swappedStores [tg] e X.env=pure none:=by rfl)
  (h1:(assignEach [tg] X.env).map (·.2)=[assign tg X.env]:=by rfl):SD X c E (.Assign [tg] e pos) (sAsg s g):=by
 refine⟨PS.imp (zJd he.h hg.h hs hw h1) fun D σ H=>?_⟩
 rintro⟨env,B,W,cf,w⟩
 refine⟨env,B,W,cf,wp_mono (fun r1 h1 u H1 W1 g1=>?_) (fun _ _ he=>he) (qW.mp w)⟩
 obtain⟨e2,e1,h2⟩:=qB h1
 exact⟨r1.2,B,W1,r1.1,e2,g1.cf,g1.at_,e1,fun σ' W' st' cf' _=>h2 σ' H1 W' (g1.st.trans st') cf'⟩
def ItD (K:aQ) (c:Nat->aZ) (F:Hp) (J:It) (ds:List D):Prop:=∀(i:Nat) (H:Hp) (T:Fp),Same F (hide T H)->(∀a,T a≠0->∃o,H a=some o/\Hb o)->
 (∀d,ds[i]?=some d->J.go i H/\∀x H',J.yld i H x H' ->Same H H' /\DAt K c (hide T H') x d)/\(i=ds.length->J.stop i H)
abbrev SI:=Ev->Res (List D×Ev)
def tIt (K:aQ) (c:Nat->aZ) (E:XK) (s:SI):TI:=fun σ H R=>∃env B W,Cf K c env σ H B W/\(s env).wp (fun r=>∀J H' W',Step env σ H B W r.2 σ H' W' ->Cf K c r.2 σ H' B W' ->ItD K c (hide (hd2 B W') H') J r.1->R J H') (erP K c E H B W)
structure ID' (X:Cx) (c:Nat->aZ) (E:XK) (tg e:Expr) (s:SI):Prop where
 h:PI X tg e (tIt X.K c E s)
theorem PI.imp {X:Cx} {tg e:Expr} {t t' :TI} (h:PI X tg e t) (k:∀σ H R,t' σ H R->t σ H R):PI X tg e t' :=fun pins s σ H R I q=>h pins s σ H R I (k σ H R q)
def forS (g:SG) (body:SS):List D->SS
 | [],env=> .ok (.nx env)
 | d::ds,env=>(opt (g d env)).bind fun e1=>(body e1).bind fun o=>match o with
    | .nx e2=>forS g body ds e2
    | .ct e2=>forS g body ds e2
    | .bk e2=> .ok (.nx e2)
    | .rt r e2=> .ok (.rt r e2)
def sFor (it:SI) (g:SG) (body:SS):SS:=fun env=>(it env).bind fun r=>forS g body r.1 r.2
theorem vY6 {K:aQ} {c:Nat->aZ} {E:XK} {it:SI} {T:List Nat} {g:SG} {body:SS} {D:Ends} {σ:L2.St} {H:Hp} (h:tS K c E (sFor it g body) D σ H):tFor (tIt K c E it) (tG K c T g) (tS K c E body) D σ H:=by
 obtain⟨env,B,W,cf,w⟩:=h
 refine⟨env,B,W,cf,wp_mono (fun r1 h1 J H1 W1 st1 cf1 iter=>?_) (fun _ _ he=>he) (qW.mp w)⟩
 obtain⟨ds,e1⟩:=r1
 refine⟨fun i m σ' H' =>m=ds.length - i/\i<=ds.length/\∃env' W',Same (hide (hd2 B W1) H1) (hide (hd2 B W') H')/\Cf K c env' σ' H' B W' /\(forS g body (ds.drop i) env').wp (OutP K c env' σ' H' B W' D) (erP K c E H' B W'),
  ⟨ds.length,by simp,cH _,e1,W1,Same.refl _,cf1,wp_mono (fun o q=>q.back st1) (fun _ _ he=>he.back st1) h1⟩,?_⟩
 rintro i m σ' H' ⟨rfl,hi,env',W',sm,cf',w'⟩
 obtain⟨it1,it2⟩:=iter i H' (hd2 B W') sm (fun a z=>cf'.hbs z)
 by_cases hlt:i < ds.length
 ·obtain⟨go,yl⟩:=it1 ds[i] (aF hlt)
  refine .inr ⟨go,fun σ2 H2=>ds.length - (i + 1) < ds.length - i/\(ds.length - (i + 1)=ds.length - (i + 1)/\i + 1<=ds.length/\∃env2 W2,Same (hide (hd2 B W1) H1) (hide (hd2 B W2) H2)/\Cf K c env2 σ2 H2 B W2/\(forS g body (ds.drop (i + 1)) env2).wp (OutP K c env2 σ2 H2 B W2 D) (erP K c E H2 B W2)),fun σ2 H2 q=>⟨_,q.1,q.2⟩,fun x H2 y=>?_⟩
  obtain⟨sm2,hx⟩:=yl x H2 y
  rw [List.drop_eq_getElem_cons hlt] at w'
  obtain⟨e3,e2,w'⟩:=qB w'
  refine⟨env',B,W',ds[i],e3,cf'.grow sm2,hx,e2,fun σ3 W3 st3 cf3 _=>?_⟩
  have stA:Step env' σ' H' B W' e3 σ3 H2 W3:=(Step.grow cf' sm2).trans st3
  have next:∀e4,(forS g body (ds.drop (i + 1)) e4).wp (OutP K c env' σ' H' B W' D) (erP K c E H' B W')->∀σ4 H4 W4,Step e3 σ3 H2 B W3 e4 σ4 H4 W4->Cf K c e4 σ4 H4 B W4->
    ds.length - (i + 1) < ds.length - i/\(ds.length - (i + 1)=ds.length - (i + 1)/\i + 1<=ds.length/\∃env2 W2,Same (hide (hd2 B W1) H1) (hide (hd2 B W2) H4)/\Cf K c env2 σ4 H4 B W2/\(forS g body (ds.drop (i + 1)) env2).wp (OutP K c env2 σ4 H4 B W2 D) (erP K c E H4 B W2)):=fun e4 q σ4 H4 W4 st4 cf4=>by
   have stB:=stA.trans st4
   exact⟨by omega,rfl,hlt,e4,W4,sm.trans stB.same,cf4,wp_mono (fun o q=>q.back stB) (fun _ _ he=>he.back stB) q⟩
  refine⟨e3,B,W3,cf3,wp_mono (fun o q=>?_) (fun _ _ he=>he.back stA) (qW.mp w')⟩
  cases o with
  | nx e4=>exact next e4 q
  | ct e4=>exact next e4 q
  | bk e4=>exact fun σ4 H4 W4 st4 cf4=>q σ4 H4 W4 (stA.trans st4) cf4
  | rt r e4=>exact fun v σ4 H4 W4 Z g=>q v σ4 H4 W4 Z ⟨stA.trans g.st,g.cf,g.at_⟩
 ·have hi2:i=ds.length:=by omega
  subst hi2
  rw [List.drop_length] at w'
  exact .inl ⟨it2 rfl,w' σ' H' W' .refl cf'⟩
theorem zO {X:Cx} {c:Nat->aZ} {E:XK} {tg iter:Expr} {body:List Stmt} {pos:Pos} {it:SI} {g:SG} {T:List Nat} {s:SS} (hp:PassesOwn (model X.prog X.w) X.A X.env X.xe) (hc:X.calm=true) (hi:ID' X c E tg iter it) (hg:GD X c tg T g) (hb:SDs X c E body s)
  (hs:∀x,foldedSetIterable iter X.env x=pure x:=by intro _;rfl):SD X c E (.For tg iter body [] pos) (sFor it g s):=
 ⟨PS.imp (zJb hp hc hi.h hg.h hb.h hs) fun _ _ _ h=>vY6 h⟩
def wH (b:ST) (body:SS):Nat->SS
 | 0,_=> .no
 | n + 1,env=>(b env).bind fun r=>cond r.1 ((body r.2).bind fun o=>match o with
     | .nx e2=>wH b body n e2
     | .ct e2=>wH b body n e2
     | .bk e2=> .ok (.nx e2)
     | .rt r e2=> .ok (.rt r e2)) (.ok (.nx r.2))
theorem vV3 {K:aQ} {c:Nat->aZ} {E:XK} {t:ST} {body:SS} {n:Nat} {D:Ends} {σ:L2.St} {H:Hp} (h:tS K c E (wH t body n) D σ H):vJ2 (tT K c E t) (tS K c E body) D σ H:=by
 obtain⟨env,B,W,cf,w⟩:=h
 refine⟨fun m σ' H' =>∃env' B' W',Cf K c env' σ' H' B' W' /\(wH t body m env').wp (OutP K c env' σ' H' B' W' D) (erP K c E H' B' W'),⟨n,env,B,W,cf,w⟩,?_⟩
 rintro m σ' H' ⟨env',B',W',cf',w'⟩
 cases m with
 | zero=>exact w'.elim
 | succ m=>
   refine⟨env',B',W',cf',wp_mono (fun r q H1 W1 st1 cf1=>?_) (fun _ _ he=>he) (qW.mp w')⟩
   obtain⟨k,e1⟩:=r
   cases k with
   | false=>exact q σ' H1 W1 st1 cf1
   | true=>
     refine⟨fun σ2 H2=>∃env' B' W',Cf K c env' σ2 H2 B' W' /\(wH t body m env').wp (OutP K c env' σ2 H2 B' W' D) (erP K c E H2 B' W'),fun σ2 H2 q=>⟨m,Nat.lt_succ_self m,q⟩,e1,B',W1,cf1,wp_mono (fun o q=>?_) (fun _ _ he=>he.back st1) (qW.mp q)⟩
     have go:∀e4,(wH t body m e4).wp (OutP K c env' σ' H' B' W' D) (erP K c E H' B' W')->∀σ4 H4 W4,Step e1 σ' H1 B' W1 e4 σ4 H4 W4->Cf K c e4 σ4 H4 B' W4->∃env' B' W',Cf K c env' σ4 H4 B' W' /\(wH t body m env').wp (OutP K c env' σ4 H4 B' W' D) (erP K c E H4 B' W'):=fun e4 q σ4 H4 W4 st4 cf4=>
      ⟨e4,B',W4,cf4,wp_mono (fun o q=>q.back (st1.trans st4)) (fun _ _ he=>he.back (st1.trans st4)) q⟩
     cases o with
     | nx e4=>exact go e4 q
     | ct e4=>exact go e4 q
     | bk e4=>exact fun σ4 H4 W4 st4 cf4=>q σ4 H4 W4 (st1.trans st4) cf4
     | rt r e4=>exact fun v σ4 H4 W4 Z g=>q v σ4 H4 W4 Z ⟨st1.trans g.st,g.cf,g.at_⟩
theorem vXk {X:Cx} {c:Nat->aZ} {E:XK} {e:Expr} {body:List Stmt} {pos:Pos} {t:ST} {s:SS} (n:Nat) (hp:PassesOwn (model X.prog X.w) X.A X.env X.xe) (hc:TD X c E e t) (hb:SDs X c E body s):SD X c E (.While e body [] pos) (wH t s n):=
 ⟨PS.imp (vXr hp hc.h hb.h) fun _ _ _ h=>vV3 h⟩
abbrev Fn:=Ev->Res (O×Ev)
def zWf:Slot->Slot
 | .s true o=> .s true o
 | _=> .un
def outs:Nat->Ev->Ev
 | 0,_=> []
 | _ + 1,[]=> []
 | n + 1,s::e=>zWf s::outs n e
def fnS (n m:Nat) (body:SS):Fn:=fun args=>(body (args ++ List.replicate m .un)).bind fun o=>match o with
 | .nx e=> .ok (.fz .non,outs n e)
 | .rt r e=> .ok (r,outs n e)
 | _=> .no
def spD (K:aQ) (c:Nat->aZ) (n:Nat) (F:Fn):Sp:=fun vs H Q E=>∃args B W,args.length=n/\Cf K c args (vs.map some) H B W/\
 (F args).wp (fun r=>∀v H' W' Z,GotR K c args (vs.map some) H B W r.2 (vs.map some) H' W' Z r.1 v->Q v H') (erP K c E H B W)
section
variable {K:aQ} {c:Nat->aZ} {F H H' :Hp}
theorem SlAt.uns (t:TabF c F):∀m:Nat,SlAt K c F H (List.replicate m .un) (List.replicate m none) (fun _=>0)
 | 0=>⟨⟨rfl,t⟩,fun _=>rfl⟩
 | m + 1=>⟨none,List.replicate m none,fun _=>0,fun _=>0,rfl,fun _=>rfl,SlAt.uns t m,fun _=>rfl⟩
theorem SlAt.append:∀ {env env' :Ev} {σ σ' :L2.St} {Z Z' :Fp},SlAt K c F H env σ Z->SlAt K c F H env' σ' Z' ->SlAt K c F H (env ++ env') (σ ++ σ') (fun a=>Z a + Z' a)
 | [],env',σ,σ',Z,Z',h,k=>by
   rw [h.1.1]
   exact k.cast fun a=>by rw [h.2];(try dsimp only);omega
 | s::env,env',σ,σ',Z,Z',h,k=>by
   obtain⟨x,r,Z1,Z2,rfl,b,cc,d⟩:=h
   exact⟨x,r ++ σ',Z1,_,rfl,b,cc.append k,fun a=>by dsimp only;rw [d];omega⟩
theorem Cf.ext {args:Ev} {τ:L2.St} {B W:Fp} {m:Nat} (h:Cf K c args τ H B W):Cf K c (args ++ List.replicate m .un) (τ ++ List.replicate m none) H B W:=
 ⟨(h.at_.append (SlAt.uns h.at_.tab m)).cast fun a=>by(try dsimp only);omega,h.nd,h.hb⟩
theorem SlAt.outs:∀ {n:Nat} {e:Ev} {σ τ:L2.St} {Z:Fp},SlAt K c F H e σ Z->n<=e.length->τ.length=n->(∀(i:Nat) o,i < n->e[i]?=some (.s true o)->σ[i]?=τ[i]?)->∃Z',SlAt K c F H (outs n e) τ Z' /\∀a,Z' a<=Z a
 | 0,e,σ,τ,Z,h,hl,ht,k=>⟨fun _=>0,⟨⟨cG ht,h.tab⟩,fun _=>rfl⟩,fun _=>cH _⟩
 | n + 1,[],σ,τ,Z,h,hl,ht,k=>by simp at hl
 | n + 1,s::e,σ,[],Z,h,hl,ht,k=>by simp at ht
 | n + 1,s::e,σ,t::τ,Z,h,hl,ht,k=>by
   obtain⟨x,r,Z1,Z2,rfl,b,cc,d⟩:=h
   obtain⟨Z',h1,h2⟩:=SlAt.outs (n:=n) (τ:=τ) cc (by simpa using hl) (by simpa using ht) fun i o hi e=>by
    have:=k (i + 1) o (by omega) (by simpa using e)
    simpa using this
   have un:∃Y:Fp,SlAt K c F H (.un::DX.outs n e) (t::τ) Y/\∀a,Y a<=Z a:=⟨Z',⟨t,τ,fun _=>0,Z',rfl,fun _=>rfl,h1,fun a=>by dsimp only;omega⟩,fun a=>by have:=h2 a;rw [d];omega⟩
   cases s with
   | un=>exact un
   | s io o=>
     cases io with
     | false=>exact un
     | true=>
       have e0:=k 0 o (by omega) rfl
       simp only [eW,Option.some.injEq] at e0
       subst e0
       exact⟨fun a=>Z1 a + Z' a,⟨x,τ,Z1,Z',rfl,b,h1,fun _=>rfl⟩,fun a=>by have:=h2 a;rw [d];dsimp only;omega⟩
theorem qYo:∀ {n i:Nat} {e:Ev} {o:O},(outs n e)[i]?=some (.s true o)->i < n/\e[i]?=some (.s true o)
 | 0,i,e,o,h=>by simp [outs] at h
 | n + 1,i,[],o,h=>by simp [outs] at h
 | n + 1,0,s::e,o,h=>by
   simp only [outs,eW,Option.some.injEq] at h
   refine⟨Nat.succ_pos _,?_⟩
   cases s with
   | un=>cases h
   | s io o' =>cases io <;> cases h;rfl
 | n + 1,i + 1,s::e,o,h=>by
   simp only [outs,List.getElem?_cons_succ] at h⊢
   obtain⟨h1,h2⟩:=qYo h
   exact⟨by omega,h2⟩
theorem qYn:∀ {n:Nat} {e:Ev},n<=e.length->(outs n e).length=n
 | 0,e,_=>by simp [outs]
 | n + 1,[],h=>by simp at h
 | n + 1,s::e,h=>by rw [outs,aK,qYn (by simpa using h)]
theorem zWq {args:Ev} {m i:Nat} {o:O} (h:(args ++ List.replicate m .un)[i]?=some (.s true o)):i < args.length/\args[i]?=some (.s true o):=by
 by_cases hi:i < args.length
 ·rw [bS hi] at h;exact⟨hi,h⟩
 ·rw [cQ (by omega),List.getElem?_replicate] at h
  split at h <;> cases h
theorem GotR.out {args e:Ev} {τ σ' :L2.St} {B W W' Z:Fp} {m n:Nat} {r:O} {v:V} (hn:args.length=n) (cf:Cf K c args τ H B W) (g:GotR K c (args ++ List.replicate m .un) (τ ++ List.replicate m none) H B W e σ' H' W' Z r v):
  ∃W2,GotR K c args τ H B W (outs n e) τ H' W2 Z r v:=by
 have hle:n<=e.length:=by rw [g.st.len,aP];omega
 have hτ:τ.length=n:=by rw [←cf.len];exact hn
 have back:∀(i:Nat) (o:O),i < n->e[i]?=some (.s true o)->(∃o0,args[i]?=some (.s true o0))/\σ'[i]?=τ[i]?:=fun i o hi h=>by
  obtain⟨⟨o0,h3⟩,h5⟩:=g.st.io i o h
  rw [bS (by omega)] at h5
  exact⟨⟨o0,(zWq h3).2⟩,h5⟩
 obtain⟨W2,h1,h2⟩:=g.cf.at_.outs hle hτ fun i o hi h=>(back i o hi h).2
 have sm:Same (hide (hd2 (hd2 B Z) W') H') (hide (hd2 (hd2 B Z) W2) H'):=zX fun a z=>by have:=h2 a;dsimp only [hd2] at *;omega
 have sm2:Same (hide (hd2 B (hd2 W' Z)) H') (hide (hd2 B (hd2 W2 Z)) H'):=zX fun a z=>by have:=h2 a;dsimp only [hd2] at *;omega
 refine⟨W2,⟨g.st.same.trans sm2,g.st.by_,fun a z=>g.st.new a (by have:=h2 a;dsimp only [hd2] at *;omega),g.st.dom,fun a z1 z2=>g.st.pin a z1 (by have:=h2 a;dsimp only [hd2] at *;omega),fun i o h=>?_,by rw [qYn hle,hn]⟩,
  ⟨h1.keep sm fun _ _=>rfl,fun a=>by have:=h2 a;have:=g.cf.nd a;dsimp only [hd2] at *;omega,g.cf.hb⟩,g.at_.keep sm fun _ _=>rfl⟩
 obtain⟨hi,h3⟩:=qYo h
 exact⟨(back i o hi h3).1,rfl⟩
end
theorem fnD {P:aH} {w:bJ} {K:aQ} {c:Nat->aZ} {mg:Str->Option Value} {base:Heap} {x qual:Str} {st:Stmt} {f:aZ} {fd:bW} {N ps:List Str} {k:Nat} (F:Fun K x qual st f fd) (S:FnScope N ps (qJ st)) {body:SS}
  (hb:∀(cdv:Value) (A:bF) (outer:List Env) (s:aJ) (H:Hp) (E:XK),Room k (A.deeper (envOfC qual (qJ st) s.heap.objs.size f cdv))->SDs (cxOf (CXd P w) P w K mg base N qual (qJ st) f cdv A outer s H E) c E (qH st) body):
  FnOk P w K mg base (CXd P w) (k + 1) f fd ps (spD K c ps.length (fnS ps.length (N.length - ps.length) body)):=by
 refine F.okD S (fun vs H Q E h=>?_) (fun cdv Ar outer s H vs Q E hr h=>?_)
 ·obtain⟨args,B,W,hl,cf,_⟩:=h
  have:=cf.len
  rw [aY] at this
  omega
 ·obtain⟨args,B,W,hl,cf,wp0⟩:=h
  have hvl:vs.length=ps.length:=by
   have:=cf.len
   rw [aY] at this
   omega
  refine⟨_,(hb cdv Ar outer s H E hr).h,?_⟩
  have hst:L2.yK N vs=vs.map some ++ List.replicate (N.length - ps.length) none:=by unfold L2.yK;rw [hvl]
  show tS K c E body _ (L2.yK N vs) H
  rw [hst]
  unfold fnS at wp0
  refine⟨args ++ List.replicate (N.length - ps.length) .un,B,W,cf.ext,wp_mono (fun o ho=>?_) (fun _ _ he=>he) (qW.mp wp0)⟩
  cases o with
  | nx e=>
    intro σ' H' W' st' cf'
    have g:GotR K c (args ++ List.replicate (N.length - ps.length) .un) (vs.map some ++ List.replicate (N.length - ps.length) none) H B W e σ' H' W' (fun _=>0) (.fz .non) .non:=⟨st'.cast (fun _=>rfl) (fun _=>rfl) fun _=>rfl,cf'.cast (fun _=>rfl) fun _=>rfl,OAt.fz.mpr ⟨.non,fun _=>rfl⟩⟩
    obtain⟨W2,g2⟩:=g.out hl cf
    exact ho .non H' W2 _ g2
  | rt r e=>
    intro v σ' H' W' Z g
    obtain⟨W2,g2⟩:=g.out hl cf
    exact ho v H' W2 Z g2
  | bk e=>exact ho.elim
  | ct e=>exact ho.elim
mutual
def qQp:D->Bool
 | .nd .tup ds=>flatDs ds
 | .nd _ _=>false
 | _=>true
def flatDs:List D->Bool
 | []=>true
 | d::ds=>qQp d && flatDs ds
end
mutual
def qYb:O->Bool
 | .fz d=>qQp d
 | .ow _ os=>flatOs os
def flatOs:List O->Bool
 | []=>true
 | o::os=>qYb o && flatOs os
end
theorem qJh:∀ {ds:List D} {i:Nat} {d:D},flatDs ds=true->ds[i]?=some d->qQp d=true
 | [],i,d,h,e=>by simp at e
 | x::ds,0,d,h,e=>by
   rw [flatDs,bD] at h
   cases e
   exact h.1
 | x::ds,i + 1,d,h,e=>by
   rw [flatDs,bD] at h
   exact qJh h.2 (by simpa using e)
section
variable {K:aQ} {c:Nat->aZ} {F F' H H' :Hp}
theorem vXh (k:∀a o,F a=some o->¬Hb o->F' a=some o) {p:aZ} {vs:List V} (h:SqT K F p vs):SqT K F' p vs:=by
 rcases h with(h | ⟨o,h⟩) | h
 ·exact .inl (.inl (k _ _ h fun z=>z))
 ·exact .inl (.inr ⟨o,k _ _ h fun z=>z⟩)
 ·exact .inr h
theorem DAt.flat (k:∀a o,F a=some o->¬Hb o->F' a=some o) {v:V} {d:D} (h:DAt K c F v d) (hf:qQp d=true):DAt K c F' v d:=by
 induction h with
 | non=>exact .non
 | int i=>exact .int i
 | str i=>exact .str i
 | bl i=>exact .bl i
 | fn i=>exact .fn i
 | @nd p kd vs ds h l r ih=>
   cases kd with
   | tup=>
     rw [qQp] at hf
     exact .nd (vXh k h) l fun i v d a b=>ih i v d a b (qJh hf b)
   | lst=>simp [qQp] at hf
   | dct ks=>simp [qQp] at hf
   | dcT ks=>simp [qQp] at hf
   | obj C fs=>simp [qQp] at hf
   | exc C fs=>simp [qQp] at hf
mutual
theorem OAt.flat (k:∀a o,F a=some o->¬Hb o->F' a=some o):∀ {o:O} {v:V} {Z:Fp},qYb o=true->OAt K c F H o v Z->OAt K c F' H o v Z
 | .fz d,v,Z,hf,h=>by
   rw [OAt.fz] at h⊢
   rw [qYb] at hf
   exact⟨h.1.flat k hf,h.2⟩
 | .ow kd os,v,Z,hf,h=>by
   rw [OAt.ow] at h⊢
   rw [qYb] at hf
   obtain⟨p,vs,Z',a,b,c,d⟩:=h
   exact⟨p,vs,Z',a,b,OsAt.flat k hf c,d⟩
theorem OsAt.flat (k:∀a o,F a=some o->¬Hb o->F' a=some o):∀ {os:List O} {vs:List V} {Z:Fp},flatOs os=true->OsAt K c F H os vs Z->OsAt K c F' H os vs Z
 | [],vs,Z,hf,h=>by rw [OsAt.nil] at h⊢;exact h
 | o::os,vs,Z,hf,h=>by
   rw [OsAt.cons] at h⊢
   rw [flatOs,bD] at hf
   obtain⟨v,r,Z1,Z2,a,b,c,d⟩:=h
   exact⟨v,r,Z1,Z2,a,OAt.flat k hf.1 b,OsAt.flat k hf.2 c,d⟩
end
end
mutual
def ndD:D->Bool
 | .nd (.dct _) _=>false
 | .nd (.dcT _) _=>false
 | .nd _ ds=>ndDs ds
 | _=>true
def ndDs:List D->Bool
 | []=>true
 | d::ds=>ndD d && ndDs ds
end
mutual
def ndO:O->Bool
 | .fz d=>ndD d
 | .ow _ os=>ndOs os
def ndOs:List O->Bool
 | []=>true
 | o::os=>ndO o && ndOs os
end
theorem qYr:∀ {ds:List D} {i:Nat} {d:D},ndDs ds=true->ds[i]?=some d->ndD d=true
 | [],i,d,h,e=>by simp at e
 | x::ds,0,d,h,e=>by
   rw [ndDs,bD] at h
   cases e
   exact h.1
 | x::ds,i + 1,d,h,e=>by
   rw [ndDs,bD] at h
   exact qYr h.2 (by simpa using e)
def isDK:HO->Prop
 | .dK _=>True
 | .dT _=>True
 | _=>False
section
variable {K:aQ} {c:Nat->aZ} {F F' H H' :Hp}
theorem NdAt.nd' (k:∀a o,F a=some o->¬isDK o->F' a=some o) {p:aZ} {kd:Kd} {vs:List V} (h:NdAt K c F p kd vs) (hk:∀ks,kd≠ .dct ks) (hk' :∀ks,kd≠ .dcT ks):NdAt K c F' p kd vs:=by
 cases kd with
 | lst=>
   rcases h with(h | ⟨o,h⟩) | h
   ·exact .inl (.inl (k _ _ h fun z=>z))
   ·exact .inl (.inr ⟨o,k _ _ h fun z=>z⟩)
   ·exact .inr h
 | tup=>
   rcases h with(h | ⟨o,h⟩) | h
   ·exact .inl (.inl (k _ _ h fun z=>z))
   ·exact .inl (.inr ⟨o,k _ _ h fun z=>z⟩)
   ·exact .inr h
 | dct ks=>exact absurd rfl (hk ks)
 | dcT ks=>exact absurd rfl (hk' ks)
 | obj C fs=>obtain⟨a,dx,b⟩:=h;exact⟨a,dx,k _ _ b fun z=>z⟩
 | exc C fs=>
   obtain⟨a,ox,b,d⟩:=h
   refine⟨a,ox,k _ _ b fun z=>z,?_⟩
   cases ox with
   | none=>exact d
   | some dx=>exact k _ _ d fun z=>z
theorem DAt.nd' (k:∀a o,F a=some o->¬isDK o->F' a=some o) {v:V} {d:D} (h:DAt K c F v d) (hf:ndD d=true):DAt K c F' v d:=by
 induction h with
 | non=>exact .non
 | int i=>exact .int i
 | str i=>exact .str i
 | bl i=>exact .bl i
 | fn i=>exact .fn i
 | @nd p kd vs ds h l r ih=>
   have hk:(∀ks,kd≠ .dct ks)/\(∀ks,kd≠ .dcT ks)/\ndDs ds=true:=by
    cases kd with
    | lst=>rw [ndD] at hf <;> simp_all
    | tup=>rw [ndD] at hf <;> simp_all
    | dct ks=>simp [ndD] at hf
    | dcT ks=>simp [ndD] at hf
    | obj C fs=>rw [ndD] at hf <;> simp_all
    | exc C fs=>rw [ndD] at hf <;> simp_all
   exact .nd (h.nd' k hk.1 hk.2.1) l fun i v d a b=>ih i v d a b (qYr hk.2.2 b)
mutual
theorem OAt.nd' (k:∀a o,F a=some o->¬isDK o->F' a=some o):∀ {o:O} {v:V} {Z:Fp},ndO o=true->OAt K c F H o v Z->OAt K c F' H o v Z
 | .fz d,v,Z,hf,h=>by
   rw [OAt.fz] at h⊢
   rw [ndO] at hf
   exact⟨h.1.nd' k hf,h.2⟩
 | .ow kd os,v,Z,hf,h=>by
   rw [OAt.ow] at h⊢
   rw [ndO] at hf
   obtain⟨p,vs,Z',a,b,c,d⟩:=h
   exact⟨p,vs,Z',a,b,OsAt.nd' k hf c,d⟩
theorem OsAt.nd' (k:∀a o,F a=some o->¬isDK o->F' a=some o):∀ {os:List O} {vs:List V} {Z:Fp},ndOs os=true->OsAt K c F H os vs Z->OsAt K c F' H os vs Z
 | [],vs,Z,hf,h=>by rw [OsAt.nil] at h⊢;exact h
 | o::os,vs,Z,hf,h=>by
   rw [OsAt.cons] at h⊢
   rw [ndOs,bD] at hf
   obtain⟨v,r,Z1,Z2,a,b,c,d⟩:=h
   exact⟨v,r,Z1,Z2,a,OAt.nd' k hf.1 b,OsAt.nd' k hf.2 c,d⟩
end
end
def dcFz:O->Bool
 | .ow (.dct _) os=>os.all fun o=>match o with
   | .fz _=>true
   | _=>false
 | _=>false
theorem zVd {K:aQ} {c:Nat->aZ} {F H:Hp} {o:O} {v:V} {Z:Fp} (h:OAt K c F H o v Z) (e:dcFz o=true):∀a,Z a≠0->∃ho,H a=some ho/\isDK ho:=by
 unfold dcFz at e
 split at e
 ·rename_i ks os
  rw [OAt.ow] at h
  obtain⟨p,vs,Z',rfl,b,cc,d⟩:=h
  have key:∀ {os:List O} {vs:List V} {Z:Fp},(os.all fun o=>match o with | .fz _=>true | _=>false)=true->OsAt K c F H os vs Z->∀a,Z a=0:=fun {os}=>by
   induction os with
   | nil=>intro vs Z _ h;rw [OsAt.nil] at h;exact h.2
   | cons o os ih=>
     intro vs Z hf h
     rw [List.all_cons,bD] at hf
     rw [OsAt.cons] at h
     obtain⟨v,r,Z1,Z2,_,b,cc,d⟩:=h
     cases o with
     | ow _ _=>cases hf.1
     | fz x=>rw [OAt.fz] at b;intro a;rw [d,b.2,ih hf.2 cc]
  intro a z
  have z0:=key e cc a
  by_cases y:a=p
  ·subst y;exact⟨_,b.2.2,trivial⟩
  ·rw [d,j7 y,z0] at z;exact absurd rfl z
 ·cases e
inductive Am where
 | v (s:SV) | b (s:SP) | io (i:Nat)
def pIo (i:Nat):SP:=fun env=>match env[i]? with
 | some (.s _ _)=>some (.p i [])
 | _=>none
def Am.o:Am->Oe
 | .v s=> .v s
 | .b s=> .p s
 | .io i=> .p (pIo i)
def xQ:List Am->List Hn->List Nat
 | .io _::as, .p j _::hs=>j::xQ as hs
 | _::as,_::hs=>xQ as hs
 | _,_=> []
def yW:List Nat->Ev->Option (List O×Ev)
 | [],env=>some ([],env)
 | j::js,env=>match env[j]? with
   | some (.s _ o)=>(yW js (env.set j .un)).bind fun q=>some (o::q.1,q.2)
   | _=>none
def flag (env:Ev) (j:Nat):Bool:=match env[j]? with
 | some (.s io _)=>io
 | _=>false
def putS (e1:Ev):List Nat->List O->Ev->Ev
 | j::js,o::os,env=>putS e1 js os (env.set j (.s (flag e1 j) o))
 | _,_,env=>env
def getL:List Nat->List O->Nat->Option O
 | j::js,o::os,i=>if j=i then some o else getL js os i
 | _,_,_=>none
def xM (ls:List Nat) (lo:List O):List Am->List Hn->List O->Option Ev
 | [],[],_=>some []
 | .v _::as, .d x::hs,os=>(xM ls lo as hs os).bind fun r=>some (.s false (.fz x)::r)
 | .b _::as, .d x::hs,os=>(xM ls lo as hs os).bind fun r=>some (.s false (.fz x)::r)
 | .b _::as, .p i π::hs,os=>(getL ls lo i).bind fun o0=>(getP o0 π).bind fun o=>(xM ls lo as hs os).bind fun r=>some (.s false (.fz (fzO o))::r)
 | .io _::as, .p _ []::hs,o::os=>(xM ls lo as hs os).bind fun r=>some (.s true o::r)
 | _,_,_=>none
def jW:List Am->List Hn->List Nat
 | .b _::as, .p i _::hs=>cond ((jW as hs).contains i) (jW as hs) (i::jW as hs)
 | _::as,_::hs=>jW as hs
 | _,_=> []
def qVw:List Am->Ev->Option (List O)
 | [],[]=>some []
 | .io _::as, .s true o::e=>(qVw as e).bind fun r=>some (o::r)
 | .io _::_,_::_=>none
 | _::as,_::e=>qVw as e
 | _,_=>none
def jN:List Am->List V->List V
 | .io _::as,u::us=>u::jN as us
 | _::as,_::us=>jN as us
 | _,_=> []
section
variable {K:aQ} {c:Nat->aZ} {F F' H H' :Hp}
theorem qZ1:∀ {js:List Nat} {env envR:Ev} {os:List O} {σ:L2.St} {W:Fp},SlAt K c F H env σ W->yW js env=some (os,envR)->∃vs Wc R,js.map (fun j=>σ[j]?)=vs.map (fun v=>some (some v))/\OsAt K c F H os vs Wc/\SlAt K c F H envR σ R/\(∀a,W a=Wc a + R a)/\
  js.Nodup/\(∀j∈js,envR[j]?=some .un)/\(∀j,j∉js->envR[j]?=env[j]?)/\envR.length=env.length
 | [],env,envR,os,σ,W,h,e=>by
   cases e
   exact⟨[],fun _=>0,W,rfl,OsAt.nil.mpr ⟨rfl,fun _=>rfl⟩,h,fun a=>by(try dsimp only);omega,dW,fun _ z=>by simp at z,fun _ _=>rfl,rfl⟩
 | j::js,env,envR,os,σ,W,h,e=>by
   simp only [yW] at e
   cases e0:env[j]? with
   | none=>rw [e0] at e;cases e
   | some s=>
     rw [e0] at e
     cases s with
     | un=>cases e
     | s io o=>
       obtain⟨q,e1,e2⟩:=bnd e
       cases e2
       obtain⟨x,Z1,R1,h1,h2,h3,h4⟩:=h.focus e0
       cases x with
       | none=>exact h2.elim
       | some v=>
         have h5:=h4 F H .un (some v) (fun _=>0) R1 (Same.refl _) (fun _ _=>rfl) (fun _=>rfl) fun a=>by(try dsimp only);omega
         rw [wI h1] at h5
         obtain⟨vs,Wc,R,a1,a2,a3,a4,a5,a6,a7,a8⟩:=qZ1 h5 e1
         have hj:j < env.length:=(aT.mp e0).1
         have nj:j∉js:=fun z=>by
          have key:∀ {js:List Nat} {env:Ev} {q:List O×Ev},env[j]?=some .un->j∈js->yW js env=some q->False:=by
           intro js
           induction js with
           | nil=>intro env q _ z;simp at z
           | cons i is ih=>
             intro env q hu z ht
             simp only [yW] at ht
             by_cases hi:i=j
             ·subst hi;rw [hu] at ht;cases ht
             ·rcases aB.mp z with z | z
              ·exact hi z.symm
              ·cases e3:env[i]? with
               | none=>rw [e3] at ht;cases ht
               | some s=>
                 rw [e3] at ht
                 cases s with
                 | un=>cases ht
                 | s io o=>
                   obtain⟨q',e4,_⟩:=bnd ht
                   exact ih (by rw [bE hi];exact hu) z e4
          exact key (eG hj) z e1
         refine⟨v::vs,fun a=>Z1 a + Wc a,R,by rw [aC,aC,h1,a1],OsAt.cons.mpr ⟨v,vs,Z1,Wc,rfl,h2,a2,fun _=>rfl⟩,a3,fun a=>by rw [h3,a4];(try dsimp only);omega,bO.mpr ⟨nj,a5⟩,fun i hi=>?_,fun i hi=>?_,by rw [a8,dQ]⟩
         ·rcases aB.mp hi with rfl | hi
          ·rw [a7 i nj,eG hj]
          ·exact a6 i hi
         ·rw [a7 i fun z=>hi (aE _ z),bE fun z=>hi (by rw [z];exact aI)]
theorem qW4 {e1:Ev}:∀ {js:List Nat} {os:List O} {vs:List V} {env:Ev} {σ:L2.St} {R Wc Y:Fp},SlAt K c F H env σ R->js.Nodup->(∀j∈js,env[j]?=some .un)->js.map (fun j=>σ[j]?)=vs.map (fun v=>some (some v))->OsAt K c F H os vs Wc->(∀a,Y a=R a + Wc a)->SlAt K c F H (putS e1 js os env) σ Y
 | [],os,vs,env,σ,R,Wc,Y,h,_,_,e,k,y=>by
   cases vs with
   | cons v vs=>cases e
   | nil=>
     cases os with
     | cons o os=>rw [OsAt.cons] at k;obtain⟨_,_,_,_,z,_⟩:=k;cases z
     | nil=>
       rw [OsAt.nil] at k
       exact h.cast fun a=>by rw [y,k.2];omega
 | j::js,os,vs,env,σ,R,Wc,Y,h,hn,hu,e,k,y=>by
   cases vs with
   | nil=>cases e
   | cons v vs=>
     rw [aC,aC,List.cons.injEq] at e
     cases os with
     | nil=>rw [OsAt.nil] at k;cases k.1
     | cons o os=>
       rw [OsAt.cons] at k
       obtain⟨v',r,Z1,Z2,z,k1,k2,k3⟩:=k
       cases z
       rw [bO] at hn
       obtain⟨x,Z0,R0,h1,h2,h3,h4⟩:=h.focus (hu j aI)
       have z0:∀a,Z0 a=0:=h2
       have hx:x=some v:=by rw [e.1] at h1;exact(Option.some.inj h1).symm
       subst hx
       have h5:=h4 F H (.s (flag e1 j) o) (some v) Z1 (fun a=>Z1 a + R a) (Same.refl _) (fun _ _=>rfl) k1 fun a=>by rw [h3,z0];(try dsimp only);omega
       rw [wI h1] at h5
       simp only [putS]
       exact qW4 h5 hn.2 (fun i hi=>by rw [bE fun z=>hn.1 (by rw [z];exact hi)];exact hu i (aE _ hi)) e.2 k2 fun a=>by rw [y,k3];(try dsimp only);omega
theorem qZ4 {e1:Ev}:∀ {js:List Nat} {os:List O} {env:Ev} {i:Nat} {o:O},(putS e1 js os env)[i]?=some (.s true o)->(i∈js/\flag e1 i=true)\/env[i]?=some (.s true o)
 | [],os,env,i,o,h=> .inr (by simpa [putS] using h)
 | j::js,[],env,i,o,h=> .inr (by simpa [putS] using h)
 | j::js,o' ::os,env,i,o,h=>by
   simp only [putS] at h
   rcases qZ4 h with⟨h1,h2⟩ | h1
   ·exact .inl ⟨aE _ h1,h2⟩
   ·by_cases z:j=i
    ·subst z
     rw [List.getElem?_set] at h1
     simp only [if_true] at h1
     split at h1
     ·have:=Option.some.inj h1
      rw [Slot.s.injEq] at this
      exact .inl ⟨aI,this.1⟩
     ·cases h1
    ·rw [bE z] at h1
     exact .inr h1
theorem qZ3 {e1:Ev}:∀ {js:List Nat} {os:List O} {env:Ev},(putS e1 js os env).length=env.length
 | [],os,env=>by simp [putS]
 | j::js,[],env=>by simp [putS]
 | j::js,o' ::os,env=>by simp only [putS];rw [qZ3,dQ]
theorem qZb {io:Bool} {u:V} {x:D} (h:DAt K c F u x):jP K c F H (.s io (.fz x)) (some u) (fun _=>0):=by
 show OAt K c F H (.fz x) u (fun _=>0)
 rw [OAt.fz]
 exact⟨h,fun _=>rfl⟩
theorem vVh {σ:L2.St}:∀ {ls:List Nat} {lo:List O} {vs:List V} {L:Fp} {i:Nat} {o:O},OsAt K c F H lo vs L->ls.map (fun j=>σ[j]?)=vs.map (fun v=>some (some v))->getL ls lo i=some o->∃(v:V) (Z R:Fp),σ[i]?=some (some v)/\OAt K c F H o v Z/\∀a,L a=Z a + R a
 | [],lo,vs,L,i,o,h,e,g=>by cases lo <;> simp [getL] at g
 | j::js,[],vs,L,i,o,h,e,g=>by simp [getL] at g
 | j::js,o0::lo,[],L,i,o,h,e,g=>by cases e
 | j::js,o0::lo,v::vs,L,i,o,h,e,g=>by
   rw [aC,aC,List.cons.injEq] at e
   rw [OsAt.cons] at h
   obtain⟨v',r,Z1,Z2,z,b,cc,d⟩:=h
   cases z
   simp only [getL] at g
   by_cases q:j=i
   ·rw [if_pos q] at g
    cases g
    exact⟨v,Z1,Z2,by rw [←q];exact e.1,b,d⟩
   ·rw [if_neg q] at g
    obtain⟨w,Z,R,h1,h2,h3⟩:=vVh cc e.2 g
    exact⟨w,Z,fun a=>Z1 a + R a,h1,h2,fun a=>by rw [d,h3];(try dsimp only);omega⟩
theorem mkArgs_at {ls:List Nat} {lo:List O} {lv:List V} {σ:L2.St} {L:Fp} {Fc:Hp} (ol:OsAt K c F H lo lv L) (el:ls.map (fun j=>σ[j]?)=lv.map (fun v=>some (some v))) (tb:TabF c Fc) (lk:∀a,L a≠0->Fc a=H a) (sm:Same F Fc):∀ {as:List Am} {hs:List Hn} {us:List V} {os:List O} {args:Ev} {Wc:Fp},j6 K c F σ H us hs->OsAt K c F H os (jN as us) Wc->xM ls lo as hs os=some args->
  SlAt K c Fc H args (us.map some) Wc/\args.length=as.length
 | [],[],us,os,args,Wc,hh,ho,e=>by
   cases e
   cases us with
   | cons u us=>exact hh.elim
   | nil=>
     cases os with
     | cons o os=>rw [OsAt.cons] at ho;obtain⟨_,_,_,_,z,_⟩:=ho;cases z
     | nil=>rw [OsAt.nil] at ho;exact⟨⟨⟨rfl,tb⟩,ho.2⟩,rfl⟩
 | .v s::as, .d x::hs,us,os,args,Wc,hh,ho,e=>by
   cases us with
   | nil=>exact hh.elim
   | cons u us=>
     obtain⟨r,e1,e2⟩:=bnd e
     cases e2
     obtain⟨h1,h2⟩:=mkArgs_at ol el tb lk sm (as:=as) (hs:=hs) hh.2 ho e1
     exact⟨⟨some u,us.map some,fun _=>0,Wc,rfl,qZb (DAt.same sm hh.1),h1,fun a=>by(try dsimp only);omega⟩,by rw [aK,aK,h2]⟩
 | .b s::as, .d x::hs,us,os,args,Wc,hh,ho,e=>by
   cases us with
   | nil=>exact hh.elim
   | cons u us=>
     obtain⟨r,e1,e2⟩:=bnd e
     cases e2
     obtain⟨h1,h2⟩:=mkArgs_at ol el tb lk sm (as:=as) (hs:=hs) hh.2 ho e1
     exact⟨⟨some u,us.map some,fun _=>0,Wc,rfl,qZb (DAt.same sm hh.1),h1,fun a=>by(try dsimp only);omega⟩,by rw [aK,aK,h2]⟩
 | .b s::as, .p i π::hs,us,os,args,Wc,hh,ho,e=>by
   cases us with
   | nil=>exact hh.elim
   | cons u us=>
     obtain⟨o0,e0,e⟩:=bnd e
     obtain⟨o,e5,e⟩:=bnd e
     obtain⟨r,e1,e2⟩:=bnd e
     cases e2
     obtain⟨h1,h2⟩:=mkArgs_at ol el tb lk sm (as:=as) (hs:=hs) hh.2 ho e1
     have hw:vW H σ i π=some u:=hh.1
     have dd:DAt K c Fc u (fzO o):=by
      obtain⟨v,Z,R,g1,g2,g3⟩:=vVh ol el e0
      obtain⟨v1,Z1,R1,k1,k2,k3,k4⟩:=OAt.focus g2 e5
      have:v1=u:=by
       unfold vW at hw
       rw [g1] at hw
       exact Option.some.inj (k1.symm.trans hw)
      subst this
      exact k2.dat sm fun a z=>lk a (by rw [g3,k3];omega)
     exact⟨⟨some u,us.map some,fun _=>0,Wc,rfl,qZb dd,h1,fun a=>by(try dsimp only);omega⟩,by rw [aK,aK,h2]⟩
 | .io i::as, .p j []::hs,us,os,args,Wc,hh,ho,e=>by
   cases us with
   | nil=>exact hh.elim
   | cons u us=>
     cases os with
     | nil=>cases e
     | cons o os=>
       obtain⟨r,e1,e2⟩:=bnd e
       cases e2
       rw [show jN (.io i::as) (u::us)=u::jN as us from rfl,OsAt.cons] at ho
       obtain⟨v,r',Z1,Z2,z,k1,k2,k3⟩:=ho
       cases z
       obtain⟨h1,h2⟩:=mkArgs_at ol el tb lk sm (as:=as) (hs:=hs) hh.2 k2 e1
       exact⟨⟨some u,us.map some,Z1,Z2,rfl,k1.keep sm fun _ _=>rfl,h1,k3⟩,by rw [aK,aK,h2]⟩
 | .v _::_, .p _ _::_,_,_,_,_,_,_,e=>by cases e
 | .io _::_, .d _::_,_,_,_,_,_,_,e=>by cases e
 | .io _::_, .p _ (_::_)::_,_,_,_,_,_,_,e=>by cases e
 | [],_::_,_,_,_,_,_,_,e=>by cases e
 | .v _::_,[],_,_,_,_,_,_,e=>by cases e
 | .b _::_,[],_,_,_,_,_,_,e=>by cases e
 | .io _::_,[],_,_,_,_,_,_,e=>by cases e
theorem outOs_at:∀ {as:List Am} {e:Ev} {us:List V} {os:List O} {W:Fp},SlAt K c F H e (us.map some) W->qVw as e=some os->∃W',OsAt K c F H os (jN as us) W' /\∀a,W' a<=W a
 | [],[],us,os,W,h,e=>by
   cases e
   have:us=[]:=by simpa using h.1.1
   subst this
   exact⟨fun _=>0,OsAt.nil.mpr ⟨rfl,fun _=>rfl⟩,fun _=>cH _⟩
 | .io i::as, .s true o::e,us,os,W,h,eq=>by
   obtain⟨r,e1,e2⟩:=bnd eq
   cases e2
   obtain⟨x,t,Z1,Z2,z,b,cc,d⟩:=h
   cases us with
   | nil=>cases z
   | cons u us=>
     rw [aC,List.cons.injEq] at z
     obtain⟨z1,z2⟩:=z
     subst z1 z2
     obtain⟨W',h1,h2⟩:=outOs_at cc e1
     exact⟨fun a=>Z1 a + W' a,OsAt.cons.mpr ⟨u,_,Z1,W',rfl,b,h1,fun _=>rfl⟩,fun a=>by have:=h2 a;rw [d];(try dsimp only);omega⟩
 | .v _::as,s::e,us,os,W,h,eq=>by
   obtain⟨x,t,Z1,Z2,z,b,cc,d⟩:=h
   cases us with
   | nil=>cases z
   | cons u us=>
     rw [aC,List.cons.injEq] at z
     obtain⟨z1,z2⟩:=z
     subst z2
     obtain⟨W',h1,h2⟩:=outOs_at (as:=as) cc (by simpa [qVw] using eq)
     exact⟨W',h1,fun a=>by have:=h2 a;rw [d];omega⟩
 | .b _::as,s::e,us,os,W,h,eq=>by
   obtain⟨x,t,Z1,Z2,z,b,cc,d⟩:=h
   cases us with
   | nil=>cases z
   | cons u us=>
     rw [aC,List.cons.injEq] at z
     obtain⟨z1,z2⟩:=z
     subst z2
     obtain⟨W',h1,h2⟩:=outOs_at (as:=as) cc (by simpa [qVw] using eq)
     exact⟨W',h1,fun a=>by have:=h2 a;rw [d];omega⟩
 | .io _::_, .un::_,_,_,_,_,eq=>by cases eq
 | .io _::_, .s false _::_,_,_,_,_,eq=>by cases eq
 | [],_::_,_,_,_,_,eq=>by cases eq
 | .v _::_,[],_,_,_,_,eq=>by cases eq
 | .b _::_,[],_,_,_,_,eq=>by cases eq
 | .io _::_,[],_,_,_,_,eq=>by cases eq
theorem wM {ls:List Nat} {lo:List O} {σ:L2.St}:∀ {as:List Am} {hs:List Hn} {us:List V} {os:List O} {args:Ev},j6 K c F σ H us hs->xM ls lo as hs os=some args->(xQ as hs).map (fun j=>σ[j]?)=(jN as us).map (fun v=>some (some v))
 | [],[],us,os,args,hh,_=>by cases us <;> rfl
 | .io i::as, .p j []::hs,us,os,args,hh,e=>by
   cases us with
   | nil=>exact hh.elim
   | cons u us=>
     cases os with
     | nil=>cases e
     | cons o os=>
       obtain⟨r,e1,_⟩:=bnd e
       have w:vW H σ j []=some u:=hh.1
       have w2:σ[j]?=some (some u):=by
        unfold vW at w
        cases e:σ[j]? with
        | none=>rw [e] at w;cases w
        | some y=>
          rw [e] at w
          cases y with
          | none=>cases w
          | some v=>have:v=u:=by cases v <;> simpa [walk] using w
                    rw [this]
       simp only [xQ,jN,aC]
       rw [w2,wM hh.2 e1]
 | .v s::as, .d x::hs,us,os,args,hh,e=>by
   cases us with
   | nil=>exact hh.elim
   | cons u us=>
     obtain⟨r,e1,_⟩:=bnd e
     simp only [xQ,jN]
     exact wM hh.2 e1
 | .b s::as, .d x::hs,us,os,args,hh,e=>by
   cases us with
   | nil=>exact hh.elim
   | cons u us=>
     obtain⟨r,e1,_⟩:=bnd e
     simp only [xQ,jN]
     exact wM hh.2 e1
 | .b s::as, .p i π::hs,us,os,args,hh,e=>by
   cases us with
   | nil=>exact hh.elim
   | cons u us=>
     obtain⟨o0,_,e⟩:=bnd e
     obtain⟨o,_,e⟩:=bnd e
     obtain⟨r,e1,_⟩:=bnd e
     simp only [xQ,jN]
     exact wM hh.2 e1
 | .v _::_, .p _ _::_,_,_,_,_,e=>by cases e
 | .io _::_, .d _::_,_,_,_,_,e=>by cases e
 | .io _::_, .p _ (_::_)::_,_,_,_,_,e=>by cases e
 | [],_::_,_,_,_,_,e=>by cases e
 | .v _::_,[],_,_,_,_,e=>by cases e
 | .b _::_,[],_,_,_,_,e=>by cases e
 | .io _::_,[],_,_,_,_,e=>by cases e
end
def qWv (lo:List O) (r:O) (os:List O):Bool:=lo.isEmpty || (qYb r && flatOs os) || (lo.all dcFz && ndO r && ndOs os)
def qV1 (F:Fn) (as:List Am) (hs:List Hn) (env:Ev):Res (O×Ev):=(opt (yW (jW as hs) env)).bind fun t0=>(opt (yW (xQ as hs) t0.2)).bind fun t=>(opt (xM (jW as hs) t0.1 as hs t.1)).bind fun args=>(F args).bind fun q=>(opt (qVw as q.2)).bind fun os=>
 cond (qWv t0.1 q.1 os) (.ok (q.1,putS env (jW as hs) t0.1 (putS env (xQ as hs) os t.2))) .no
def vQ (F:Fn) (as:List Am):SE:=fun env=>(evOs (as.map Am.o) env).bind fun r=>qV1 F as r.1 r.2
theorem vQ5 {e1:Ev}:∀ {js:List Nat} {os:List O} {env:Ev} {i:Nat},i∉js->(putS e1 js os env)[i]?=env[i]?
 | [],os,env,i,_=>by cases os <;> rfl
 | j::js,[],env,i,_=>rfl
 | j::js,o::os,env,i,h=>by
   simp only [putS]
   rw [vQ5 fun z=>h (aE _ z),bE fun z=>h (by rw [z];exact aI)]
theorem qWk {K:aQ} {c:Nat->aZ} {env:Ev} {σ:L2.St} {H:Hp} {B W:Fp} {as:List Am} {hs:List Hn} {us:List V} {F:Fn} {Q:VK} {E:XK} (cf:Cf K c env σ H B W) (hh:j6 K c (hide (hd2 B W) H) σ H us hs)
  (hw:(qV1 F as hs env).wp (fun r=>∀u H' W' Z,Got K c env σ H B W r.2 H' W' Z r.1 u->Q u H') (erP K c E H B W)):spD K c as.length F us H Q E:=by
 obtain⟨t0,e0,w0⟩:=qB hw
 obtain⟨t,e1,w1⟩:=qB w0
 obtain⟨args,e2,w2⟩:=qB w1
 obtain⟨lo,eL⟩:=t0
 obtain⟨os,eR⟩:=t
 obtain⟨lv,L,R1,l1,l2,l3,l4,l5,l6,l7,l8⟩:=qZ1 cf.at_ e0
 obtain⟨vs,Wc,R,a1,a2,a3,a4',a5,a6,a7,a8⟩:=qZ1 l3 e1
 have a4:∀a,W a=L a + (Wc a + R a):=fun a=>by rw [l4,a4']
 have hv:=wM hh e2
 have hvs:vs=jN as us:=by
  have e:vs.map (fun v=>some (some v))=(jN as us).map (fun v=>some (some v)):=a1.symm.trans hv
  exact List.map_inj_right (f:=fun v:V=>some (some v)) (fun x y h=>Option.some.inj (Option.some.inj h)) |>.mp e
 subst hvs
 have nd:∀a,B a + (L a + (Wc a + R a))<=1:=fun a=>by have:=cf.nd a;rw [a4] at this;exact this
 let Bc:Fp:=fun a=>B a + R a
 have bc:∀a,Bc a=B a + R a:=fun _=>rfl
 have smc:Same (hide (hd2 B W) H) (hide (hd2 Bc Wc) H):=zX fun a z=>by have:=a4 a;have:=bc a;dsimp only [hd2] at *;omega
 have Lv:∀a,L a≠0->hide (hd2 Bc Wc) H a=H a:=fun a q=>vT (by have:=nd a;have:=bc a;dsimp only [hd2];omega)
 obtain⟨sA,la⟩:=mkArgs_at l2 l1 (cf.at_.tab.same smc) Lv smc (as:=as) (hs:=hs) hh a2 e2
 have hbR:∀a,B a + (L a + R a)≠0->∃o,H a=some o/\Hb o:=fun a z=>cf.hbs (by rw [a4];omega)
 have cfc:Cf K c args (us.map some) H Bc Wc:=⟨sA,fun a=>by have:=nd a;rw [bc];omega,fun a z=>hbR a (by rw [bc] at z;omega)⟩
 refine⟨args,Bc,Wc,la,cfc,wp_mono (fun q w3 v H' W' Z g=>?_) (fun C fs he H2 Y ox sx er=>?_) (qW.mp w2)⟩
 rotate_left
 · -- an error:what lies aside stays
   have eq:hide (hd2 B fun a=>Y a + R a) H2=hide (hd2 Bc Y) H2:=vO fun a=>by have:=bc a;dsimp only [hd2];omega
   exact he H2 (fun a=>Y a + R a) ox ⟨by rw [eq];exact smc.trans sx.same,fun a z=>sx.by_ a (by rw [bc];omega),sx.dom⟩ (by rw [eq];exact er)
 obtain⟨os',e3,w4⟩:=qB w3
 obtain⟨hf,w5⟩:=v4 w4
 have cellR:∀a,R a≠0->H' a=H a:=fun a z=>g.st.by_ a (by rw [bc];omega)
 have cellL:∀a,L a≠0->H' a=H a:=fun a z=>by
  obtain⟨o,h1,_⟩:=hbR a (by omega)
  have h2:=g.st.same a o (by rw [Lv a z];exact h1)
  rw [(wF h2).2,h1]
 have cellB:∀a,B a≠0->H' a=H a:=fun a z=>g.st.by_ a (by rw [bc];omega)
 obtain⟨W2,b1,b2⟩:=outOs_at g.cf.at_ e3
 have newL:∀a,L a≠0->W' a + Z a=0:=fun a z=>by
  by_cases q0:W' a + Z a=0
  ·exact q0
  ·rcases g.st.new a (by dsimp only [hd2];omega) with q1 | q1
   ·have:=nd a;omega
   ·obtain⟨o,h1,_⟩:=hbR a (by omega);rw [q1] at h1;cases h1
 have nd4:∀a,B a + Z a + (L a + (R a + W2 a))<=1:=fun a=>by
  have n1:=g.cf.nd a
  have n2:=b2 a
  have n3:=nd a
  have n4:=bc a
  dsimp only [hd2] at n1
  by_cases z:L a=0
  ·omega
  ·have:=newL a z;omega
 have sm4:Same (hide (hd2 B W) H) (hide (hd2 (hd2 B Z) (fun a=>L a + (R a + W2 a))) H'):=fun a o h=>by
  obtain⟨z1,z2⟩:=wF h
  obtain⟨z3,z4⟩:=wF (g.st.same a o (smc a o h))
  rw [vT]
  ·exact z4
  ·have:=a4 a;have:=b2 a
   dsimp only [hd2] at *
   omega
 have kF:∀(P:HO->Prop),(∀a,L a≠0->∃o,H a=some o/\P o)->∀a o,hide (hd2 (hd2 Bc Z) W') H' a=some o->¬P o->hide (hd2 (hd2 B Z) (fun a=>L a + (R a + W2 a))) H' a=some o:=fun P hP a o q1 q2=>by
  obtain⟨z1,z2⟩:=wF q1
  rw [vT]
  ·exact z2
  ·have:=b2 a;have:=bc a
   by_cases z:L a=0
   ·dsimp only [hd2] at *;omega
   ·obtain⟨o2,h1,h2⟩:=hP a z
    rw [cellL a z,h1] at z2
    cases z2
    exact absurd h2 q2
 have fin:OAt K c (hide (hd2 (hd2 B Z) (fun a=>L a + (R a + W2 a))) H') H' q.1 v Z/\OsAt K c (hide (hd2 (hd2 B Z) (fun a=>L a + (R a + W2 a))) H') H' os' (jN as us) W2:=by
  unfold qWv at hf
  rw [Bool.or_eq_true,Bool.or_eq_true] at hf
  rcases hf with(hf | hf) | hf
  ·have hl0:lo=[]:=List.isEmpty_iff.mp hf
   subst hl0
   rw [OsAt.nil] at l2
   have sm:Same (hide (hd2 (hd2 Bc Z) W') H') (hide (hd2 (hd2 B Z) (fun a=>L a + (R a + W2 a))) H'):=zX fun a z=>by have:=b2 a;have:=l2.2 a;have:=bc a;dsimp only [hd2] at *;omega
   exact⟨g.at_.keep sm fun _ _=>rfl,b1.keep sm fun _ _=>rfl⟩
  ·rw [bD] at hf
   have k:=kF Hb fun a z=>by obtain⟨o,h1,h2⟩:=hbR a (by omega);exact⟨o,h1,h2⟩
   exact⟨g.at_.flat k hf.1,b1.flat k hf.2⟩
  ·rw [bD,bD] at hf
   have hP:∀ {lo:List O} {lv:List V} {L:Fp},lo.all dcFz=true->OsAt K c (hide (hd2 B W) H) H lo lv L->∀a,L a≠0->∃o,H a=some o/\isDK o:=fun {lo}=>by
    induction lo with
    | nil=>intro lv L _ h a z;rw [OsAt.nil] at h;exact absurd (h.2 a) z
    | cons o lo ih=>
      intro lv L hl h a z
      rw [List.all_cons,bD] at hl
      rw [OsAt.cons] at h
      obtain⟨v,r,Z1,Z2,_,p1,p2,p3⟩:=h
      by_cases y:Z1 a=0
      ·exact ih hl.2 p2 a (by rw [p3] at z;omega)
      ·exact zVd p1 hl.1 a y
   have k:=kF isDK (hP hf.1.1 l2)
   exact⟨g.at_.nd' k hf.1.2,b1.nd' k hf.2⟩
 have sl3:=qW4 (e1:=env) (a3.keep sm4 cellR) a5 a6 a1 fin.2 (Y:=fun a=>R a + W2 a) fun _=>rfl
 have sl4:=qW4 (e1:=env) sl3 l5 (fun j hj=>by
  by_cases z:j∈xQ as hs
  · -- taken twice:not so
    exfalso
    have:eL[j]?=some .un:=l6 j hj
    have key:∀ {js:List Nat} {env:Ev} {q:List O×Ev},env[j]?=some .un->j∈js->yW js env=some q->False:=by
     intro js
     induction js with
     | nil=>intro env q _ z;simp at z
     | cons i is ih=>
       intro env q hu z ht
       simp only [yW] at ht
       by_cases hi:i=j
       ·subst hi;rw [hu] at ht;cases ht
       ·rcases aB.mp z with z | z
        ·exact hi z.symm
        ·cases e3:env[i]? with
         | none=>rw [e3] at ht;cases ht
         | some s=>
           rw [e3] at ht
           cases s with
           | un=>cases ht
           | s io o=>
             obtain⟨q',e4,_⟩:=bnd ht
             exact ih (by rw [bE hi];exact hu) z e4
    exact key this z e1
  ·rw [vQ5 z,a7 j z];exact l6 j hj) l1 (l2.keep sm4 cellL) (Y:=fun a=>L a + (R a + W2 a)) fun a=>by(try dsimp only);omega
 refine w5 v H' (fun a=>L a + (R a + W2 a)) Z ⟨⟨?_,cellB,fun a z=>?_,g.st.dom,fun a z1 z2=>?_,fun i o h=>?_,by rw [qZ3,qZ3,a8,l8]⟩,⟨sl4,fun a=>nd4 a,fun a z=>?_⟩,fin.1⟩
 ·rw [show hide (hd2 B (hd2 (fun a=>L a + (R a + W2 a)) Z)) H' =hide (hd2 (hd2 B Z) (fun a=>L a + (R a + W2 a))) H' from vO fun a=>by dsimp only [hd2];omega]
  exact sm4
 ·by_cases q0:L a + R a=0
  ·rcases g.st.new a (by have:=b2 a;dsimp only [hd2] at *;omega) with q1 | q1
   ·exact .inl (by rw [a4];omega)
   ·exact .inr q1
  ·exact .inl (by rw [a4];omega)
 ·by_cases q1:L a=0
  ·by_cases q0:R a=0
   ·exact g.st.pin a (by rw [a4] at z1;omega) (by have:=b2 a;dsimp only [hd2] at *;omega)
   ·exact .of (cellR a q0)
  ·exact .of (cellL a q1)
 ·refine⟨?_,rfl⟩
  have fl:flag env i=true->∃o0,env[i]?=some (.s true o0):=fun h2=>by
   unfold flag at h2
   split at h2
   ·rename_i io o' e
    rw [h2] at e
    exact⟨o',e⟩
   ·cases h2
  rcases qZ4 h with⟨h1,h2⟩ | h1
  ·exact fl h2
  ·rcases qZ4 h1 with⟨h1,h2⟩ | h1
   ·exact fl h2
   ·by_cases z:i∈xQ as hs
    ·rw [a6 i z] at h1;cases h1
    ·rw [a7 i z] at h1
     by_cases y:i∈jW as hs
     ·rw [l6 i y] at h1;cases h1
     ·rw [l7 i y] at h1;exact⟨o,h1⟩
 ·by_cases q0:B a=0
  ·exact g.cf.hb a (by have:=bc a;dsimp only [hd2] at *;omega)
  ·rw [cellB a q0];exact cf.hb a q0
theorem vXe {K:aQ} {c:Nat->aZ} {E:XK} {F:Fn} {as:List Am} {σ:L2.St} {H:Hp} {Q:VK} (h:tE K c E (vQ F as) σ H Q):zVr (spD K c as.length F) [] E (tOs K c E (as.map Am.o)) σ H Q:=by
 obtain⟨env,B,W,cf,w⟩:=h
 refine qVj cf (qW.mp w) fun r1 w1 us H1 W1 g=>?_
 show spD K c as.length F (us ++ []) H1 Q E
 rw [bR]
 exact qWk g.cf g.at_ (wp_mono (fun r q v H' W' Z g2=>q v H' W' Z (g2.back g.st)) (fun _ _ he=>he.back g.st) w1)
section
variable {X:Cx} {c:Nat->aZ} {E:XK} {k:Nat} {f:aZ} {fd:bW} {ps:List Str} {x:Str} {p pos:Pos} {e:Expr} {es:List Expr} {F:Fn} {as:List Am}
theorem vY (G:FnOk X.prog X.w X.K X.mg X.base (CXd X.prog X.w) k f fd ps (spD X.K c as.length F)) (hr:Room k X.A) (hg:Gl X x) (hm:X.mg x=some (.ref f)) (hk:eN X.K (.ref f)=true) (hb:yD X.K fd ps []) (hx:qQz (CXd X.prog X.w) X E)
  (ha:OsD X c E (e::es) (as.map Am.o)) (hdb:(x == ("__debug__":Str))=false:=by decide) (he:aU (e::es) X.env=(false,eval e X.env)::aU es X.env:=by rfl) (hpl:(cM pos (aU es X.env)).any (·.1)=false:=by rfl):
  ED X c E (.Call (.Name x p) (e::es) [] pos) (vQ F as):=
 ⟨PE.imp (vK9 G hr hg hm hk hb .nil hx ha.h hdb he hpl) fun _ _ _ h=>vXe h⟩
theorem zV6 {i:Nat} (h:PE X e (tVar i)):OD X c E e (Am.io i).o:=by
 refine⟨PE.imp h fun σ H Q=>?_⟩
 rintro⟨env,B,W,h1,cf,e0,q⟩
 simp only [pIo] at e0
 cases e1:env[i]? with
 | none=>rw [e1] at e0;cases e0
 | some s=>
   rw [e1] at e0
   cases s with
   | un=>cases e0
   | s io o=>
     cases e0
     obtain⟨x,Z1,R,h1,h2,h3,h4⟩:=cf.focus e1
     cases x with
     | none=>exact h2.elim
     | some v=>exact⟨v,h1,q v (by show vW H σ i []=some v;unfold vW;rw [h1];simp [walk])⟩
end
def popL (env:Ev) (n:Nat):Option (O×Ev):=match env[n]? with
 | some (.s _ o)=>some (o,env.take n)
 | _=>none
def qJx (C:Nat) (F:Fn) (as:List Am):SE:=fun env=>(evOs (as.map Am.o) env).bind fun r=>(qV1 F (.io r.2.length::as) (.p r.2.length []::r.1) (r.2 ++ [.s false (.ow (.obj C []) [])])).bind fun q=>match q.1 with
 | .fz .non=>opt (popL q.2 r.2.length)
 | _=> .no
section
variable {K:aQ} {c:Nat->aZ} {E:XK}
theorem qJ6 {H H' :Hp} (sm:Same H H'):∀ {π:List Nat} {v u:V},walk H v π=some u->walk H' v π=some u
 | [],v,u,h=>by cases v <;> simpa [walk] using h
 | j::π,v,u,h=>by
   cases v with
   | ref p=>
     simp only [walk] at h⊢
     cases e:H p with
     | none=>rw [e] at h;cases h
     | some o=>
       rw [e] at h
       rw [sm p o e]
       dsimp only at h⊢
       cases e2:(kids o)[j]? with
       | none=>rw [e2] at h;cases h
       | some v=>rw [e2] at h;exact qJ6 sm h
   | _=>cases h
theorem j6.push {F F' H H' :Hp} {σ:L2.St} {y:L2.St} (sF:Same F F') (sm:Same H H'):∀ {us:List V} {hs:List Hn},j6 K c F σ H us hs->j6 K c F' (σ ++ y) H' us hs
 | [],[],_=>trivial
 | u::us,h::hs,a=>by
   refine⟨?_,j6.push sF sm a.2⟩
   cases h with
   | d x=>exact DAt.same sF a.1
   | p i π=>
     have w:vW H σ i π=some u:=a.1
     show vW H' (σ ++ y) i π=some u
     unfold vW at w⊢
     cases e:σ[i]? with
     | none=>rw [e] at w;cases w
     | some x=>
       rw [e] at w
       rw [bS (aT.mp e).1,e]
       cases x with
       | none=>cases w
       | some v=>exact qJ6 sm w
 | [],_::_,a=>a.elim
 | _::_,[],a=>a.elim
theorem SlAt.pop {F H:Hp}:∀ {env:Ev} {σ:L2.St} {s:Slot} {x:Option V} {Z:Fp} {n:Nat},SlAt K c F H env (σ ++ [x]) Z->env[n]?=some s->n=σ.length->∃Z1 R,jP K c F H s x Z1/\SlAt K c F H (env.take n) σ R/\∀a,Z a=Z1 a + R a
 | [],σ,s,x,Z,n,h,e,hn=>by simp at e
 | s0::env,[],s,x,Z,n,h,e,hn=>by
   subst hn
   obtain⟨y,r,Z1,Z2,e1,b,cc,d⟩:=h
   cases e1
   cases e
   have:env=[]:=by
    cases env with
    | nil=>rfl
    | cons s1 env=>obtain⟨_,_,_,_,z,_⟩:=cc;cases z
   subst this
   exact⟨Z1,Z2,b,⟨⟨rfl,cc.1.2⟩,cc.2⟩,d⟩
 | s0::env,y::σ,s,x,Z,n,h,e,hn=>by
   subst hn
   obtain⟨y',r,Z1,Z2,e1,b,cc,d⟩:=h
   cases e1
   obtain⟨Z3,R,h1,h2,h3⟩:=SlAt.pop (σ:=σ) cc (by simpa using e) rfl
   exact⟨Z3,fun a=>Z1 a + R a,h1,⟨_,_,Z1,R,rfl,b,h2,fun _=>rfl⟩,fun a=>by rw [d,h3];(try dsimp only);omega⟩
theorem vXc {C:Nat} {F:Fn} {as:List Am} {σ:L2.St} {H:Hp} {Q:VK} (h:tE K c E (qJx C F as) σ H Q):zVq (c C) (spD K c (as.length + 1) F) [] E (tOs K c E (as.map Am.o)) σ H Q:=by
 obtain⟨env,B,W,cf,w⟩:=h
 refine qVj cf (qW.mp w) fun r w1 us H1 W1 g=>?_
 intro x dx hx hdx hne
 show spD K c (as.length + 1) F (.ref x::(us ++ [])) _ _ E
 rw [bR]
 have sm1:Same H1 (upd H1 dx (.own x)):= .upd hdx
 have hx1:upd H1 dx (.own x) x=none:=by rw [qU fun z=>hne z.symm];exact hx
 have sm2:Same (upd H1 dx (.own x)) (upd (upd H1 dx (.own x)) x (.ins (c C) dx [])):= .upd hx1
 have cf1:=g.cf.grow sm1
 have gl:Got K c r.2 σ (upd H1 dx (.own x)) B W1 r.2 (upd (upd H1 dx (.own x)) x (.ins (c C) dx [])) W1 (one x) (.ow (.obj C []) ([].map .fz)) (.ref x):=Got.lay cf1 hx1 sm2 (k:= .obj C []) (vs:=[]) (ds:=[]) ⟨rfl,dx,upd_same⟩ .nil
 generalize hH:upd (upd H1 dx (.own x)) x (.ins (c C) dx [])=H2 at *
 have stG:Step r.2 σ H1 B W1 r.2 σ H2 (hd2 W1 (one x)):=(Step.grow g.cf sm1).trans gl.st
 have lenσ:σ.length=r.2.length:=g.cf.len.symm
 have hid:hide (hd2 (hd2 B (one x)) W1) H2=hide (hd2 B (hd2 W1 (one x))) H2:=vO fun a=>by dsimp only [hd2];omega
 have cfP:Cf K c (r.2 ++ [.s false (.ow (.obj C []) [])]) (σ ++ [some (.ref x)]) H2 B (hd2 W1 (one x)):=by
  refine⟨?_,fun a=>by have:=gl.cf.nd a;dsimp only [hd2] at *;omega,fun a z=>gl.cf.hb a (by dsimp only [hd2];omega)⟩
  rw [←hid]
  refine(gl.cf.at_.append (env' :=[.s false (.ow (.obj C []) [])]) (σ' :=[some (.ref x)]) (Z' :=one x) ⟨some (.ref x),[],one x,fun _=>0,rfl,gl.at_,⟨⟨rfl,gl.cf.at_.tab⟩,fun _=>rfl⟩,fun a=>by(try dsimp only);omega⟩)
 have hh:j6 K c (hide (hd2 B (hd2 W1 (one x))) H2) (σ ++ [some (.ref x)]) H2 (.ref x::us) (.p r.2.length []::r.1):=by
  refine⟨?_,j6.push stG.same (sm1.trans sm2) g.at_⟩
  show vW H2 (σ ++ [some (.ref x)]) r.2.length []=some (.ref x)
  unfold vW
  rw [cQ (by omega),show r.2.length - σ.length=0 by omega]
  rfl
 refine qWk (as:= .io r.2.length::as) cfP hh (wp_mono (fun q w2 v H' W' Z gq=>?_) (fun C fs he=>?_) (qW.mp w1))
 rotate_left
 ·exact(he.back g.st).back stG
 obtain⟨q1,q2⟩:=q
 cases q1 with
 | ow k os=>exact w2.elim
 | fz d=>
   cases d with
   | non=>
     have ev:=gq.at_
     rw [OAt.fz] at ev
     have hv:v= .non:=by cases ev.1;rfl
     refine⟨hv,?_⟩
     obtain⟨p,e1,w3⟩:∃p,popL q2 r.2.length=some p/\∀u H' W' Z,Got K c env σ H B W p.2 H' W' Z p.1 u->Q u H' :=by
      cases e:popL q2 r.2.length with
      | none=>dsimp only at w2;rw [e] at w2;exact w2.elim
      | some p=>dsimp only at w2;rw [e] at w2;exact⟨p,rfl,w2⟩
     unfold popL at e1
     split at e1
     ·rename_i io o e2
      cases e1
      obtain⟨Z1,R,h1,h2,h3⟩:=SlAt.pop gq.cf.at_ e2 lenσ.symm
      have zz:∀a,Z a=0:=ev.2
      have hd1:hide (hd2 (hd2 B Z) W') H' =hide (hd2 (hd2 B Z1) R) H' :=vO fun a=>by dsimp only [hd2];rw [h3,zz];omega
      have hd3:hide (hd2 B (hd2 R Z1)) H' =hide (hd2 B (hd2 W' Z)) H' :=vO fun a=>by dsimp only [hd2];rw [h3,zz];omega
      have all:=(g.st.trans stG).same
      refine w3 (.ref x) H' R Z1 ⟨(g.st.trans stG).trans ⟨by rw [hd3];exact gq.st.same,gq.st.by_,fun a z=>gq.st.new a (by dsimp only [hd2] at *;rw [h3];omega),gq.st.dom,fun a z1 z2=>gq.st.pin a z1 (by dsimp only [hd2] at *;rw [h3];omega),fun i o' h=>?_,?_⟩,⟨by rw [←hd1];exact h2,fun a=>by have:=gq.cf.nd a;dsimp only [hd2] at *;rw [h3,zz] at this;omega,fun a z=>?_⟩,by rw [←hd1];exact h1⟩
      ·have hi:i < r.2.length:=by
        have:=(aT.mp h).1
        rw [dX] at this
        omega
       rw [List.getElem?_take_of_lt hi] at h
       obtain⟨⟨o0,k1⟩,k2⟩:=gq.st.io i o' h
       rw [bS hi] at k1
       exact⟨⟨o0,k1⟩,rfl⟩
      ·have:=gq.st.len
       rw [aP] at this
       rw [dX,this]
       simp
      ·by_cases q0:B a=0
       ·exact h1.hb (by dsimp only [hd2] at z;omega)
       ·exact gq.cf.hb a (by dsimp only [hd2];omega)
     ·cases e1
   | _=>exact w2.elim
end
section
variable {X:Cx} {c:Nat->aZ} {E:XK} {k:Nat} {f:aZ} {fd:bW} {ps:List Str} {x:Str} {p pos:Pos} {e:Expr} {es:List Expr} {F:Fn} {as:List Am} {C:Nat}
theorem zVc (M:Mk X.K (c C) f) (G:FnOk X.prog X.w X.K X.mg X.base (CXd X.prog X.w) k f fd ps (spD X.K c (as.length + 1) F)) (hr:Room (k + 1) X.A) (hg:Gl X x) (hm:X.mg x=some (.ref (c C))) (hb:yD X.K fd ps []) (hx:qQz (CXd X.prog X.w) X E)
  (ha:OsD X c E (e::es) (as.map Am.o)) (hdb:(x == ("__debug__":Str))=false:=by decide) (he:aU (e::es) X.env=(false,eval e X.env)::aU es X.env:=by rfl) (hpl:(cM pos (aU es X.env)).any (·.1)=false:=by rfl):
  ED X c E (.Call (.Name x p) (e::es) [] pos) (qJx C F as):=
 ⟨PE.imp (vK5 M G hr hg hm hb .nil hx ha.h hdb he hpl) fun _ _ _ h=>vXc h⟩
end
abbrev lim:Nat:=1000000
theorem qZv {n:Nat} (h:n<=lim):n < bX:=dN h (by decide)
section
variable {K:aQ} {c:Nat->aZ} {env env' :Ev} {σ:L2.St} {H H' :Hp} {B W Z:Fp} {i:Nat} {π:List Nat} {k:Kd} {os:List O}
theorem Cf.mut (cf:Cf K c env σ H (hd2 B Z) W) (e:getE env i π=some (.ow k os)):∃p vs Zk,vW H σ i π=some (.ref p)/\OwAt c H p k vs/\OsAt K c (hide (hd2 (hd2 B Z) W) H) H os vs Zk/\
  ∀k' os' vs' Zk' Z2 ho,OsAt K c (hide (hd2 (hd2 B Z) W) H) H os' vs' Zk' ->(∀a,Zk' a + Z2 a<=Zk a + Z a)->OwAt c (upd H p ho) p k' vs' ->Hb ho->Pin (H p) (some ho)->
   ∃W',Cf K c (setE env i π (.ow k' os')) σ (upd H p ho) (hd2 B Z2) W' /\Step env σ H B (hd2 W Z) (setE env i π (.ow k' os')) σ (upd H p ho) (hd2 W' Z2)/\
    ∀o v,OAt K c (hide (hd2 (hd2 B Z) W) H) H o v Z2->OAt K c (hide (hd2 (hd2 B Z2) W') (upd H p ho)) (upd H p ho) o v Z2:=by
 obtain⟨v1,Z1,R,h1,h2,h3,h4⟩:=cf.place e
 rw [OAt.ow] at h2
 obtain⟨p,vs,Zk,rfl,b,cc,d⟩:=h2
 refine⟨p,vs,Zk,h1,b,cc,fun k' os' vs' Zk' Z2 ho hk hz hp hb pn=>?_⟩
 have nd:∀a,B a + Z a + (one p a + Zk a + R a)<=1:=fun a=>by have:=cf.nd a;rw [h3,d] at this;dsimp only [hd2] at this;omega
 have np:B p=0/\Z p=0/\Zk p=0/\R p=0:=by have:=nd p;rw [jV] at this;omega
 have nz:Zk' p=0/\Z2 p=0:=by have:=hz p;omega
 have hid:∀a,(hd2 (hd2 B Z) W) a=B a + Z a + (one p a + Zk a + R a):=fun a=>by dsimp only [hd2];rw [h3,d]
 have sm:Same (hide (hd2 (hd2 B Z) W) H) (hide (hd2 (hd2 B Z2) (fun a=>(one p a + Zk' a) + R a)) (upd H p ho)):=zW fun a o z q=>by
  rw [hid] at z
  have:=hz a
  have ne:a≠p:=fun y=>by rw [y,jV] at z;omega
  exact⟨by dsimp only [hd2];omega,by rw [qU ne];exact q⟩
 have cell:∀a,a≠p->upd H p ho a=H a:=fun a z=>qU z
 refine⟨fun a=>(one p a + Zk' a) + R a,h4 (upd H p ho) (hd2 B Z2) _ (.ow k' os') (fun a=>one p a + Zk' a) sm (fun _=>rfl) (fun a z=>cell a fun y=>by rw [y] at z;omega) (OAt.ow.mpr ⟨p,vs',Zk',rfl,hp,hk.keep sm fun a z=>cell a fun y=>by rw [y] at z;omega,fun _=>rfl⟩) (fun a=>?_) (fun a z=>?_),⟨?_,fun a z=>cell a fun y=>by rw [y] at z;omega,fun a z=> .inl ?_,fun a z=>?_,fun a z1 z2=>?_,fun j o q=>⟨qZc q,rfl⟩,qVb⟩,fun o v h=>h.keep sm fun a z=>cell a fun y=>by rw [y] at z;omega⟩
 ·have:=nd a;have:=hz a;dsimp only [hd2];omega
 ·by_cases y:a=p
  ·subst y;exact⟨ho,upd_same,hb⟩
  ·rw [cell a y]
   by_cases q:B a=0
   ·exact cf.hbs (by have h5:=hid a;have h6:=hz a;dsimp only [hd2] at h5 z⊢;omega)
   ·exact cf.hb a (by dsimp only [hd2];omega)
 ·rw [show hide (hd2 B (hd2 W Z)) H=hide (hd2 (hd2 B Z) W) H from vO fun a=>by dsimp only [hd2];omega,show hide (hd2 B (hd2 (fun a=>(one p a + Zk' a) + R a) Z2)) (upd H p ho)=hide (hd2 (hd2 B Z2) (fun a=>(one p a + Zk' a) + R a)) (upd H p ho) from vO fun a=>by dsimp only [hd2];omega]
  exact sm
 ·have:=hz a;dsimp only [hd2] at *;rw [h3,d];omega
 ·by_cases y:a=p
  ·subst y;rw [upd_same] at z;cases z
  ·rw [cell a y] at z;exact z
 ·by_cases y:a=p
  ·subst y;rw [upd_same];exact pn
  ·exact .of (cell a y)
def stab (env env1:Ev) (i:Nat):List Nat->Bool
 | []=>true
 | [j]=>match env[i]?,env1[i]? with
   | some (.s _ (.ow (.obj _ fs) _)),some (.s _ (.ow _ _))=>match fs[j]? with
     | some f=>pinF f
     | none=>false
   | _,_=>false
 | _=>false
theorem qYh {K:aQ} {F:Hp} {io:Bool} {kd:Kd} {os:List O} {x:Option V} {Z1:Fp} (h:jP K c F H (.s io (.ow kd os)) x Z1):∃p vs,x=some (.ref p)/\OwAt c H p kd vs/\Z1 p≠0:=by
 cases x with
 | none=>exact h.elim
 | some v=>
   have h' :OAt K c F H (.ow kd os) v Z1:=h
   rw [OAt.ow] at h'
   obtain⟨p,vs,Z',rfl,b,_,d⟩:=h'
   exact⟨p,vs,rfl,b,by rw [d,jV];omega⟩
theorem vV5 {B' W' Y:Fp} {u:V} (cf:Cf K c env σ H B W) (st:Step env σ H B W env' σ H' Y) (cf' :Cf K c env' σ H' B' W') (hY:∀a,W' a≠0->Y a≠0) (hs:stab env env' i π=true) (h:vW H σ i π=some u):vW H' σ i π=some u:=by
 cases π with
 | nil=>
   unfold vW at h⊢
   cases e:σ[i]? with
   | none=>rw [e] at h;cases h
   | some x=>
     rw [e] at h
     cases x with
     | none=>cases h
     | some v=>simpa [walk] using h
 | cons j π=>
   cases π with
   | cons _ _=>simp [stab] at hs
   | nil=>
     simp only [stab] at hs
     split at hs
     ·rename_i io C fs os io' k' os' e1 e2
      split at hs
      ·rename_i f ef
       obtain⟨x,Z1,R,h1,h2,h3,_⟩:=cf.focus e1
       obtain⟨x',Z1',R',h1',h2',h3',_⟩:=cf'.focus e2
       obtain⟨p,vs,rfl,⟨b1,dx,b2⟩,zp⟩:=qYh h2
       obtain⟨p',vs',rfl,_,zp'⟩:=qYh h2'
       rw [h1] at h1'
       cases h1'
       have pn:=st.pin p (by rw [h3];omega) (hY p (by rw [h3'];omega))
       rw [b2] at pn
       obtain⟨fs',e3,q⟩:=pn
       unfold vW at h⊢
       rw [h1] at h⊢
       simp only [walk,b2,kids,yL b1] at h
       cases ev:vs[j]? with
       | none=>rw [ev] at h;cases h
       | some v=>
         rw [ev] at h
         have hv:v=u:=by cases v <;> simpa [walk] using h
         subst hv
         have hz:(fs.zip vs)[j]?=some (f,v):=by rw [List.getElem?_zip_eq_some];exact⟨ef,ev⟩
         have h5:=q j f v hs hz
         have h6:(kids (.ins (c C) dx fs'))[j]?=some v:=by
          show(fs'.map (·.2))[j]?=some v
          rw [bP,h5]
          rfl
         show walk H' (.ref p) [j]=some v
         rw [qVp e3 h6]
         simp [walk]
      ·cases hs
     ·cases hs
end
def qVz (env:Ev) (i:Nat) (π:List Nat):Option (List O):=match getE env i π with
 | some (.ow .lst os)=>some os
 | _=>none
theorem qWb {env:Ev} {i:Nat} {π:List Nat} {os:List O} (h:qVz env i π=some os):getE env i π=some (.ow .lst os):=by
 unfold qVz at h
 split at h
 ·rename_i e;cases h;exact e
 ·cases h
def eMu1 (s:SP) (a:SE) (f:List O->O->Option (O×List O)):SE:=fun env=>(opt (s env)).bind fun h=>match h with
 | .p i π=>(opt (qVz env i π)).bind fun _=>(a env).bind fun r=>(opt (qVz r.2 i π)).bind fun os=>cond (stab env r.2 i π) ((opt (f os r.1)).bind fun z=> .ok (z.1,setE r.2 i π (.ow .lst z.2))) .no
 | _=> .no
def apF (os:List O) (x:O):Option (O×List O):=cond (decide (os.length<=lim)) (some (.fz .non,os ++ [x])) none
def exF (os:List O) (x:O):Option (O×List O):=match x with
 | .ow .lst ys=>cond (decide (os.length + ys.length<=lim)) (some (.fz .non,os ++ ys)) none
 | _=>none
def PrM (K:aQ) (c:Nat->aZ) (r:V->List V->Hp->VK->Prop) (f:List O->O->Option (O×List O)):Prop:=∀(p:aZ) (vs:List V) (u:V) (F H:Hp) (os os' :List O) (x o:O) (Zk Z:Fp) (Q:VK),H p=some (.lst vs)->OsAt K c F H os vs Zk->OAt K c F H x u Z->f os x=some (o,os')->
 (∀v vs' Zk',o= .fz .non->v= .non->OsAt K c F H os' vs' Zk' ->(∀a,Zk' a<=Zk a + Z a)->Q v (upd H p (.lst vs')))->r (.ref p) [u] H Q
section
variable {K:aQ} {c:Nat->aZ} {E:XK}
theorem vZb:PrM K c rAppend apF:=fun p vs u F H os os' x o Zk Z Q h1 h2 h3 e q=>by
 obtain⟨q1,q2⟩:=vE e
 cases q2
 exact⟨p,vs,u,rfl,rfl,h1,by rw [h2.length];exact qZv (of_decide_eq_true q1),q .non _ _ rfl rfl (h2.append (OsAt.one.mpr h3)) fun a=>aG _⟩
theorem vZa:PrM K c rExtend exF:=fun p vs u F H os os' x o Zk Z Q h1 h2 h3 e q=>by
 unfold exF at e
 split at e
 ·obtain⟨q1,q2⟩:=vE e
  cases q2
  rw [OAt.ow] at h3
  obtain⟨b,ws,Z',rfl,g1,g2,g3⟩:=h3
  exact⟨p,b,vs,ws,rfl,rfl,h1,g1,by rw [h2.length,g2.length];exact dL (qZv (of_decide_eq_true q1)),q .non _ _ rfl rfl (h2.append g2) fun a=>by(try dsimp only);rw [g3];omega⟩
 ·cases e
theorem vQt {r:V->List V->Hp->VK->Prop} {f:List O->O->Option (O×List O)} (hp:PrM K c r f) {s:SP} {a:SE} {σ:L2.St} {H:Hp} {Q:VK} (h:tE K c E (eMu1 s a f) σ H Q):tBM K "list" r (tP K c s) (qJu (tE K c E a) tNil) σ H Q:=by
 obtain⟨env,B,W,cf,w⟩:=h
 obtain⟨h1,e0,w1⟩:=qB w
 refine⟨env,B,W,h1,cf,e0,fun u hu=>?_⟩
 cases h1 with
 | d x=>exact w1.elim
 | p i π=>
   obtain⟨os0,e1,w2⟩:=qB w1
   have hu' :vW H σ i π=some u:=hu
   obtain⟨v1,Z1,R,g1,g2,g3,g4⟩:=cf.place (qWb e1)
   rw [hu'] at g1
   cases g1
   rw [OAt.ow] at g2
   obtain⟨p,vs0,Z0,rfl,b,_,_⟩:=g2
   refine⟨.inl ⟨rfl,vs0,SqL.of b⟩,env,B,W,cf,wp_mono (fun r1 w3 x H1 W1 Z g=>?_) (fun _ _ he=>he) (qW.mp w2)⟩
   obtain⟨os,e2,w4⟩:=qB w3
   obtain⟨hs,w5⟩:=v4 w4
   obtain⟨z,e3,w6⟩:=qB w5
   have hw:=vV5 cf g.st g.cf (fun a z=>by dsimp only [hd2];omega) hs hu'
   obtain⟨p',vs,Zk,k1,k2,k3,k4⟩:=g.cf.mut (qWb e2)
   rw [hw] at k1
   cases k1
   refine hp p vs x _ H1 os z.2 r1.1 z.1 Zk Z Q k2 k3 g.at_ e3 fun v vs' Zk' ho hv hk hz=>?_
   subst hv
   obtain⟨W',c1,c2,c3⟩:=k4 .lst z.2 vs' Zk' (fun _=>0) (.lst vs') hk (fun a=>by have:=hz a;omega) upd_same trivial (by have k2' :H1 p=some (.lst vs):=k2;rw [k2'];trivial)
   refine w6 .non _ W' (fun _=>0) ⟨g.st.trans c2,c1,by rw [ho,OAt.fz];exact⟨.non,fun _=>rfl⟩⟩
end
section
variable {X:Cx} {c:Nat->aZ} {E:XK} {o e:Expr} {apos cpos:Pos} {s:SP} {a:SE}
theorem vZ4 (ho:OD X c E o (.p s)) (ha:ED X c E e a) (hbase:attributeBase o "append" X.env (eval o X.env)=eval o X.env:=by rfl)
  (hfew:((cM cpos (aU [e] X.env)).all (fun x=>!x.1) && (backToKw cpos (keywordEach [] X.env)).all (fun x=>x.1.isSome) && decide (([e]:List Expr).length + ([]:List Keyword).length + (if([]:List Keyword).isEmpty then 0 else 1) < 30))=true:=by rfl)
  (hline:(apos.endLine == cpos.line)=true:=by rfl) (hs:aU [e] X.env=(false,eval e X.env)::aU [] X.env:=by rfl) (hplain:(cM cpos (aU [] X.env)).any (·.1)=false:=by rfl):
  ED X c E (.Call (.Attribute o "append" apos) [e] [] cpos) (eMu1 s a apF):=
 ⟨PE.imp (zV3 PySem.F.plainAttrs_list PySem.F.slot_list_append PySem.F.type_list_append qWa ho.h (jR ha.h xI hs) hbase hfew hline hs hplain) fun _ _ _ h=>vQt vZb h⟩
theorem vZ3 (ho:OD X c E o (.p s)) (ha:ED X c E e a) (hbase:attributeBase o "extend" X.env (eval o X.env)=eval o X.env:=by rfl)
  (hfew:((cM cpos (aU [e] X.env)).all (fun x=>!x.1) && (backToKw cpos (keywordEach [] X.env)).all (fun x=>x.1.isSome) && decide (([e]:List Expr).length + ([]:List Keyword).length + (if([]:List Keyword).isEmpty then 0 else 1) < 30))=true:=by rfl)
  (hline:(apos.endLine == cpos.line)=true:=by rfl) (hs:aU [e] X.env=(false,eval e X.env)::aU [] X.env:=by rfl) (hplain:(cM cpos (aU [] X.env)).any (·.1)=false:=by rfl):
  ED X c E (.Call (.Attribute o "extend" apos) [e] [] cpos) (eMu1 s a exF):=
 ⟨PE.imp (zV3 PySem.F.plainAttrs_list PySem.F.slot_list_extend PySem.F.type_list_extend vZk ho.h (jR ha.h xI hs) hbase hfew hline hs hplain) fun _ _ _ h=>vQt vZa h⟩
end
section
variable {κ α:Type} [DecidableEq κ]
theorem qVr {k:κ}:∀ {ks:List κ},kidx k ks=none->k∉ks
 | [],_=>by simp
 | g::r,h=>by
   simp only [kidx] at h
   by_cases q:g=k
   ·rw [if_pos q] at h;cases h
   ·rw [if_neg q] at h
    have:=qVr (Option.map_eq_none_iff.mp h)
    rw [aB]
    exact fun z=>z.elim (fun z=>q z.symm) this
theorem vVx {k:κ}:∀ {ks:List κ} {vs:List α},ks.length=vs.length->((ks.zip vs).any fun kv=>decide (kv.1=k))=(kidx k ks).isSome
 | [],[],_=>rfl
 | g::r,w::vs,h=>by
   rw [cJ,List.any_cons,vVx (Nat.succ.inj h)]
   simp only [kidx]
   by_cases q:g=k
   ·rw [if_pos q,decide_eq_true q];rfl
   ·rw [if_neg q,decide_eq_false q];cases kidx k r <;> rfl
 | [],_::_,h=>by cases h
 | _::_,[],h=>by cases h
theorem qJg {k:κ} {v:α}:∀ {ks:List κ} {vs:List α},k∉ks->(ks.zip vs).map (fun kv=>if kv.1=k then(kv.1,v) else kv)=ks.zip vs
 | [],vs,_=>by simp
 | g::r,[],_=>by simp
 | g::r,w::vs,h=>by
   rw [aB] at h
   rw [cJ,aC,if_neg fun z=>h (.inl z.symm),qJg fun z=>h (.inr z)]
theorem vVa {k:κ} {v:α}:∀ {ks:List κ} {vs:List α} {j:Nat},ks.Nodup->kidx k ks=some j->(ks.zip vs).map (fun kv=>if kv.1=k then(kv.1,v) else kv)=ks.zip (vs.set j v)
 | [],vs,j,_,h=>by cases h
 | g::r,[],j,_,h=>by simp
 | g::r,w::vs,j,hn,h=>by
   rw [bO] at hn
   simp only [kidx] at h
   by_cases q:g=k
   ·rw [if_pos q] at h
    cases h
    rw [cJ,aC,if_pos q,qJg (by rw [←q];exact hn.1)]
    rfl
   ·rw [if_neg q] at h
    obtain⟨i,h1,rfl⟩:=bY.mp h
    rw [cJ,aC,if_neg q,vVa hn.2 h1]
    rfl
theorem qZ0 {k:κ} {v:α}:∀ {ks:List κ} {vs:List α},ks.length=vs.length->(ks ++ [k]).zip (vs ++ [v])=ks.zip vs ++ [(k,v)]
 | [],[],_=>rfl
 | g::r,w::vs,h=>by
   rw [List.cons_append,List.cons_append,cJ,qZ0 (Nat.succ.inj h)]
   rfl
 | [],_::_,h=>by cases h
 | _::_,[],h=>by cases h
theorem qQv {k:κ}:∀ {ks:List κ} {vs:List α},k∉ks->(ks.zip vs).filter (fun kv=>decide (kv.1≠k))=ks.zip vs
 | [],vs,_=>by simp
 | g::r,[],_=>by simp
 | g::r,w::vs,h=>by
   rw [aB] at h
   rw [cJ,List.filter_cons_of_pos (by simpa using fun z=>h (.inl z.symm)),qQv fun z=>h (.inr z)]
theorem qJi {k:κ}:∀ {ks:List κ} {vs:List α} {j:Nat},ks.Nodup->kidx k ks=some j->(ks.zip vs).filter (fun kv=>decide (kv.1≠k))=(ks.eraseIdx j).zip (vs.eraseIdx j)
 | [],vs,j,_,h=>by cases h
 | g::r,[],j,_,h=>by simp
 | g::r,w::vs,j,hn,h=>by
   rw [bO] at hn
   simp only [kidx] at h
   by_cases q:g=k
   ·rw [if_pos q] at h
    cases h
    rw [cJ,List.filter_cons_of_neg (by simp [q]),qQv (by rw [←q];exact hn.1)]
    rfl
   ·rw [if_neg q] at h
    obtain⟨i,h1,rfl⟩:=bY.mp h
    rw [cJ,List.filter_cons_of_pos (by simpa using q),qJi hn.2 h1]
    rfl
end
theorem vXp {k:Key} {v:V} {ks:List Key} {vs:List V} (hl:ks.length=vs.length) (hn:ks.Nodup):putK (ks.zip vs) k v=match kidx k ks with
  | some j=>ks.zip (vs.set j v)
  | none=>(ks ++ [k]).zip (vs ++ [v]):=by
 unfold putK
 rw [vVx hl]
 cases e:kidx k ks with
 | none=>rw [if_neg (by simp),qZ0 hl]
 | some j=>rw [if_pos (by simp),vVa hn e]
theorem qK1 {κ:Type} {k:κ} {ks:List κ} (h:ks.Nodup) (n:k∉ks):(ks ++ [k]).Nodup:=by
 rw [cF]
 refine⟨h,by simp,fun a ha b hb e=>?_⟩
 rw [aS] at hb
 exact n (by rw [←hb,←e];exact ha)
def putO (ks:List Key) (os:List O) (k:Key) (o:O):O:=match kidx k ks with
 | some j=> .ow (.dct ks) (os.set j o)
 | none=> .ow (.dct (ks ++ [k])) (os ++ [o])
def qQr (env:Ev) (i:Nat) (π:List Nat):Option (List Key×List O):=match getE env i π with
 | some (.ow (.dct ks) os)=>some (ks,os)
 | _=>none
theorem qWg {env:Ev} {i:Nat} {π:List Nat} {q:List Key×List O} (h:qQr env i π=some q):getE env i π=some (.ow (.dct q.1) q.2):=by
 unfold qQr at h
 split at h
 ·rename_i e;cases h;exact e
 ·cases h
def yP (s k:SP) (a:SE):SS:=fun env=>(a env).bind fun r=>(opt (s r.2)).bind fun h=>(opt (k r.2)).bind fun hk=>(opt (rsv r.2 hk)).bind fun y=>(opt (qZi y)).bind fun key=>match h with
 | .p i π=>(opt (qQr r.2 i π)).bind fun q=>cond (decide (q.2.length<=lim)) (.ok (.nx (setE r.2 i π (putO q.1 q.2 key r.1)))) .no
 | .d _=> .no
theorem OsAt.put {K:aQ} {c:Nat->aZ} {F H:Hp} {os:List O} {vs:List V} {Zk Z:Fp} {o:O} {u:V} {j:Nat} (h:OsAt K c F H os vs Zk) (hj:j < os.length) (ho:OAt K c F H o u Z):∃Y,OsAt K c F H (os.set j o) (vs.set j u) Y/\∀a,Y a<=Zk a + Z a:=by
 obtain⟨v,Z1,R,h1,h2,h3,h4⟩:=h.focus (aF hj)
 exact⟨_,h4 F H o u Z (Same.refl _) (fun _ _=>rfl) ho,fun a=>by rw [h3];(try dsimp only);omega⟩
section
variable {X:Cx} {c:Nat->aZ} {E:XK} {o k e:Expr} {pos pos' :Pos} {s sk:SP} {a:SE}
theorem vKd (hu:X.A.units + 1 < dC) (ho:OD X c E o (.p s)) (hk:OD X c E k (.p sk)) (hv:ED X c E e a) (hs:swapsWith e (some (.Subscript o k pos')) pos.line X.env=pure false:=by rfl):
  SD X c E (.Assign [.Subscript o k pos'] e pos) (yP s sk a):=by
 refine⟨PS.imp (vKr hu ho.h hk.h hv.h hs) fun D σ H=>?_⟩
 rintro⟨env,B,W,cf,w⟩
 refine⟨env,B,W,cf,wp_mono (fun r w1 u H1 W1 Z g=>?_) (fun _ _ he=>he) (qW.mp w)⟩
 obtain⟨h,e1,w2⟩:=qB w1
 obtain⟨hk1,e2,w3⟩:=qB w2
 obtain⟨y,e3,w4⟩:=qB w3
 obtain⟨key,e4,w5⟩:=qB w4
 refine⟨r.2,_,W1,h,g.cf,e1,fun x hx=>⟨r.2,_,W1,hk1,g.cf,e2,fun yv hy=>?_⟩⟩
 cases h with
 | d x=>exact w5.elim
 | p i π=>
   obtain⟨q,e5,w6⟩:=qB w5
   obtain⟨hl,w7⟩:=v4 w6
   have hx' :vW H1 σ i π=some x:=hx
   obtain⟨p,vs,Zk,k1,⟨k2,k3,k4⟩,k5,k6⟩:=g.cf.mut (qWg e5)
   rw [hx'] at k1
   cases k1
   rw [qVc (zR g.cf hy e3) e4]
   have hz:(q.1.zip vs).length < bX:=by rw [List.length_zip,k5.length];exact dN (Nat.min_le_right _ _) (qZv (of_decide_eq_true hl))
   refine⟨p,_,rfl,DPut.k k4 hz,?_⟩
   rw [vXp k2 k3]
   unfold putO at w7
   cases e6:kidx key q.1 with
   | some j=>
     rw [e6] at w7
     obtain⟨Y,y1,y2⟩:=k5.put (by rw [←k5.length,←k2];exact(qZe e6).1) g.at_
     obtain⟨W',c1,c2,_⟩:=k6 (.dct q.1) _ _ Y (fun _=>0) (.dK (q.1.zip (vs.set j u))) y1 (fun a=>by have:=y2 a;omega) ⟨by rw [dQ];exact k2,k3,upd_same⟩ trivial (by rw [k4];trivial)
     exact w7 σ _ W' (g.st.trans (c2.cast (fun _=>rfl) (fun _=>rfl) fun _=>rfl)) (c1.cast (fun _=>rfl) fun _=>rfl)
   | none=>
     rw [e6] at w7
     obtain⟨W',c1,c2,_⟩:=k6 (.dct (q.1 ++ [key])) _ _ _ (fun _=>0) (.dK ((q.1 ++ [key]).zip (vs ++ [u]))) (k5.append (OsAt.one.mpr g.at_)) (fun a=>by(try dsimp only);omega) ⟨by rw [aP,aP,k2];rfl,qK1 k3 (qVr e6),upd_same⟩ trivial (by rw [k4];trivial)
     exact w7 σ _ W' (g.st.trans (c2.cast (fun _=>rfl) (fun _=>rfl) fun _=>rfl)) (c1.cast (fun _=>rfl) fun _=>rfl)
def qV0 (s k:SP):SE:=fun env=>(opt (s env)).bind fun h=>(opt (k env)).bind fun hk=>(opt (rsv env hk)).bind fun y=>(opt (qZi y)).bind fun key=>match h with
 | .p i π=>(opt (qQr env i π)).bind fun q=>(opt (kidx key q.1)).bind fun j=>(opt (q.2[j]?)).bind fun o=> .ok (o,setE env i π (.ow (.dct (q.1.eraseIdx j)) (q.2.eraseIdx j)))
 | .d _=> .no
theorem zVb {apos cpos:Pos} (ho:OD X c E o (.p s)) (hk:OD X c E k (.p sk)) (m:M1 X o "pop" apos k cpos):ED X c E (.Call (.Attribute o "pop" apos) [k] [] cpos) (qV0 s sk):=by
 refine⟨PE.imp (vX0 ho.h hk.h m) fun σ H Q=>?_⟩
 rintro⟨env,B,W,cf,w⟩
 obtain⟨h,e1,w2⟩:=qB w
 obtain⟨hk1,e2,w3⟩:=qB w2
 obtain⟨y,e3,w4⟩:=qB w3
 obtain⟨key,e4,w5⟩:=qB w4
 refine⟨env,B,W,h,cf,e1,fun x hx=>?_⟩
 cases h with
 | d x=>exact w5.elim
 | p i π=>
   obtain⟨q,e5,w6⟩:=qB w5
   obtain⟨j,e6,w7⟩:=qB w6
   obtain⟨oo,e7,w8⟩:=qB w7
   have hx' :vW H σ i π=some x:=hx
   have cf0:Cf X.K c env σ H (hd2 B fun _=>0) W:=cf.cast (fun _=>rfl) fun _=>rfl
   obtain⟨p,vs,Zk,k1,⟨k2,k3,k4⟩,k5,k6⟩:=cf0.mut (qWg e5)
   rw [hx'] at k1
   cases k1
   refine⟨p,rfl, .inl ⟨_, .inl k4⟩,env,B,W,hk1,cf,e2,fun yv hy=>?_⟩
   obtain⟨v,Y1,R,g1,g2,g3,g4⟩:=k5.erase e7
   refine⟨_,key,v,k4,qVc (zR cf hy e3) e4,by rw [yM k2,e6];exact g1,?_⟩
   rw [show qJ2 (q.1.zip vs) key=(q.1.eraseIdx j).zip (vs.eraseIdx j) from qJi k3 e6]
   obtain⟨W',c1,c2,c3⟩:=k6 (.dct (q.1.eraseIdx j)) _ _ R Y1 (.dK ((q.1.eraseIdx j).zip (vs.eraseIdx j))) g4 (fun a=>by rw [g3];omega) ⟨by rw [List.length_eraseIdx,List.length_eraseIdx,k2],k3.sublist (List.eraseIdx_sublist _ _),upd_same⟩ trivial (by rw [k4];trivial)
   exact w8 v _ W' Y1 ⟨c2.cast (fun _=>rfl) (fun _=>rfl) fun _=>rfl,c1,c3 _ _ g2⟩
end
theorem qYk {f:Str} {v:V}:∀ {fs:List Str} {vs:List V},fs.length=vs.length->putF f v (fs.zip vs)=match fidx f fs with
  | some j=>fs.zip (vs.set j v)
  | none=>(fs ++ [f]).zip (vs ++ [v])
 | [],[],_=>rfl
 | g::r,w::vs,h=>by
   rw [cJ]
   simp only [putF,fidx]
   by_cases q:f=g
   ·rw [if_pos q,if_pos q.symm];rfl
   ·rw [if_neg q,if_neg fun z=>q z.symm,qYk (Nat.succ.inj h)]
    cases fidx f r <;> rfl
 | [],_::_,h=>by cases h
 | _::_,[],h=>by cases h
theorem qJb {f:Str}:∀ {fs:List Str} {j:Nat},fidx f fs=some j->fs[j]?=some f
 | [],j,h=>by cases h
 | g::r,j,h=>by
   simp only [fidx] at h
   by_cases q:f=g
   ·rw [if_pos q] at h;cases h;rw [q];rfl
   ·rw [if_neg q] at h
    obtain⟨i,h1,rfl⟩:=bY.mp h
    simpa using qJb h1
def vJl (C:Nat) (fs:List Str) (os:List O) (f:Str) (o:O):Option O:=match fidx f fs with
 | some j=>cond (!pinF f) (some (.ow (.obj C fs) (os.set j o))) none
 | none=>cond (decide (os.length < 1000)) (some (.ow (.obj C (fs ++ [f])) (os ++ [o]))) none
def vQg (env:Ev) (i:Nat) (π:List Nat):Option (Nat×List Str×List O):=match getE env i π with
 | some (.ow (.obj C fs) os)=>some (C,fs,os)
 | _=>none
theorem qJ9 {env:Ev} {i:Nat} {π:List Nat} {q:Nat×List Str×List O} (h:vQg env i π=some q):getE env i π=some (.ow (.obj q.1 q.2.1) q.2.2):=by
 unfold vQg at h
 split at h
 ·rename_i e;cases h;exact e
 ·cases h
section
variable {K:aQ} {c:Nat->aZ} {env:Ev} {σ:L2.St} {H:Hp} {B W Z:Fp} {i:Nat} {π:List Nat}
theorem Cf.fld {q:Nat×List Str×List O} {f:Str} {o o' :O} {u:V} {p:aZ} (cf:Cf K c env σ H (hd2 B Z) W) (e:vQg env i π=some q) (hw:vW H σ i π=some (.ref p)) (ho:OAt K c (hide (hd2 (hd2 B Z) W) H) H o u Z) (e2:vJl q.1 q.2.1 q.2.2 f o=some o') (hl:q.2.2.length<=999):
  ∃dx fs W',H p=some (.ins (c q.1) dx fs)/\fs.length < 1000/\Cf K c (setE env i π o') σ (upd H p (.ins (c q.1) dx (putF f u fs))) B W' /\Step env σ H B (hd2 W Z) (setE env i π o') σ (upd H p (.ins (c q.1) dx (putF f u fs))) W' :=by
 obtain⟨p',vs,Zk,k1,⟨k2,dx,k4⟩,k5,k6⟩:=cf.mut (qJ9 e)
 rw [hw] at k1
 cases k1
 refine⟨dx,q.2.1.zip vs,?_⟩
 have hlen:(q.2.1.zip vs).length < 1000:=by rw [List.length_zip,k5.length];have:=Nat.min_le_right q.2.1.length q.2.2.length;omega
 rw [qYk k2]
 unfold vJl at e2
 cases e6:fidx f q.2.1 with
 | some j=>
   rw [e6] at e2
   obtain⟨pn,e3⟩:=vE e2
   cases e3
   have hj:j < q.2.2.length:=by
    have:=(aT.mp (qJb e6)).1
    rw [←k5.length,←k2];exact this
   obtain⟨Y,y1,y2⟩:=k5.put hj ho
   obtain⟨W',c1,c2,_⟩:=k6 (.obj q.1 q.2.1) _ _ Y (fun _=>0) (.ins (c q.1) dx (q.2.1.zip (vs.set j u))) y1 (fun a=>by have:=y2 a;omega) ⟨by rw [dQ];exact k2,dx,upd_same⟩ trivial (by
    rw [k4]
    refine⟨_,rfl,fun j' f' v' hp hz=>?_⟩
    rw [List.getElem?_zip_eq_some] at hz⊢
    refine⟨hz.1,?_⟩
    rw [bE fun y=>?_]
    ·exact hz.2
    ·subst y
     rw [qJb e6] at hz
     cases hz.1
     rw [hp] at pn
     cases pn)
   exact⟨W',k4,hlen,c1.cast (fun _=>rfl) fun _=>rfl,c2.cast (fun _=>rfl) (fun _=>rfl) fun _=>rfl⟩
 | none=>
   rw [e6] at e2
   obtain⟨pn,e3⟩:=vE e2
   cases e3
   obtain⟨W',c1,c2,_⟩:=k6 (.obj q.1 (q.2.1 ++ [f])) _ _ _ (fun _=>0) (.ins (c q.1) dx ((q.2.1 ++ [f]).zip (vs ++ [u]))) (k5.append (OsAt.one.mpr ho)) (fun a=>by(try dsimp only);omega) ⟨by rw [aP,aP,k2];rfl,dx,upd_same⟩ trivial (by
    rw [k4]
    refine⟨_,rfl,fun j' f' v' hp hz=>?_⟩
    rw [qZ0 k2,bS (aT.mp hz).1]
    exact hz)
   exact⟨W',k4,hlen,c1.cast (fun _=>rfl) fun _=>rfl,c2.cast (fun _=>rfl) (fun _=>rfl) fun _=>rfl⟩
end
def qX6 (cs:List Nat) (f:Str) (s:SP) (a:SE):SS:=fun env=>(a env).bind fun r=>(opt (s r.2)).bind fun h=>match h with
 | .p i π=>(opt (vQg r.2 i π)).bind fun q=>cond (cs.contains q.1 && decide (q.2.2.length<=999)) ((opt (vJl q.1 q.2.1 q.2.2 f r.1)).bind fun o=> .ok (.nx (setE r.2 i π o))) .no
 | .d _=> .no
section
variable {X:Cx} {c:Nat->aZ} {E:XK} {o e:Expr} {f:Str} {pos pos' :Pos} {s:SP} {a:SE} {cs:List Nat}
theorem vKc (ok:qQs X.K c cs f) (ho:OD X c E o (.p s)) (hv:ED X c E e a) (hs:swapsWith e (some (.Attribute o f pos')) pos.line X.env=pure false:=by rfl):SD X c E (.Assign [.Attribute o f pos'] e pos) (qX6 cs f s a):=by
 refine⟨PS.imp (zJc ho.h hv.h hs) fun D σ H=>?_⟩
 rintro⟨env,B,W,cf,w⟩
 refine⟨env,B,W,cf,wp_mono (fun r w1 u H1 W1 Z g=>?_) (fun _ _ he=>he) (qW.mp w)⟩
 obtain⟨h,e1,w2⟩:=qB w1
 refine⟨r.2,_,W1,h,g.cf,e1,fun x hx=>?_⟩
 cases h with
 | d x=>exact w2.elim
 | p i π=>
   obtain⟨q,e5,w6⟩:=qB w2
   obtain⟨hc,w7⟩:=v4 w6
   obtain⟨o',e6,w8⟩:=qB w7
   rw [bD] at hc
   have hx' :vW H1 σ i π=some x:=hx
   obtain⟨p,_,_,k1,_⟩:=g.cf.mut (qJ9 e5)
   rw [hx'] at k1
   cases k1
   obtain⟨dx,fs,W',m1,m2,m3,m4⟩:=g.cf.fld e5 hx' g.at_ e6 (of_decide_eq_true hc.2)
   obtain⟨c1,c2⟩:=ok q.1 (qXa hc.1)
   exact⟨p,_,dx,fs,rfl,m1,c1,c2,m2,w8 σ _ W' (g.st.trans m4) m3⟩
end
instance decMul (i j:Int):Decidable (IntMulOk i j):=by unfold IntMulOk;infer_instance
instance decDivP (i j:Int):Decidable (vQq i j):=by unfold vQq;infer_instance
def i2 (g:Int->Int->Int) (x y:D):Option D:=(xB x).bind fun i=>(xB y).bind fun j=>some (.int (g i j))
def i2g (C:Int->Int->Prop) [∀i j,Decidable (C i j)] (g:Int->Int->Int) (x y:D):Option D:=(xB x).bind fun i=>(xB y).bind fun j=>if C i j then some (.int (g i j)) else none
def c2 (g:Int->Int->Bool) (x y:D):Option D:=(xB x).bind fun i=>(xB y).bind fun j=>some (.bl (g i j))
theorem qW9 {α:Type} {P:Prop} [Decidable P] {x y:α} (h:(if P then some x else none)=some y):P/\x=y:=by
 split at h
 ·rename_i p;exact⟨p,Option.some.inj h⟩
 ·cases h
section
variable {K:aQ} {c:Nat->aZ}
theorem zVz (g:Int->Int->Int):PrS2 K c (rI0 fun i j=> .int (g i j)) (i2 g):=fun u w H x y z Q hx hy e q=>by
 obtain⟨i,e1,e2⟩:=bnd e
 obtain⟨j,e3,e4⟩:=bnd e2
 cases e4
 exact⟨i,j,zJ hx e1,zJ hy e3,q _ fun _=> .int _⟩
theorem qKi (C:Int->Int->Prop) [∀i j,Decidable (C i j)] (g:Int->Int->Int):PrS2 K c (rI C fun i j=> .int (g i j)) (i2g C g):=fun u w H x y z Q hx hy e q=>by
 obtain⟨i,e1,e2⟩:=bnd e
 obtain⟨j,e3,e4⟩:=bnd e2
 obtain⟨p,rfl⟩:=qW9 e4
 exact⟨i,j,zJ hx e1,zJ hy e3,p,q _ fun _=> .int _⟩
theorem vJm (g:Int->Int->Bool):PrS2 K c (rI0 fun i j=> .bl (g i j)) (c2 g):=fun u w H x y z Q hx hy e q=>by
 obtain⟨i,e1,e2⟩:=bnd e
 obtain⟨j,e3,e4⟩:=bnd e2
 cases e4
 exact⟨i,j,zJ hx e1,zJ hy e3,q _ fun _=> .bl _⟩
end
mutual
def dtOf:D->Option Dt
 | .non=>some .non
 | .int i=>some (.int i)
 | .str x=>some (.str x)
 | .nd .tup ds=>match dtsOf ds with
   | some xs=>some (.tup xs)
   | none=>none
 | _=>none
def dtsOf:List D->Option (List Dt)
 | []=>some []
 | d::ds=>match dtOf d,dtsOf ds with
   | some x,some xs=>some (x::xs)
   | _,_=>none
end
section
variable {K:aQ} {c:Nat->aZ}
mutual
theorem qXe {F:Hp}:∀ {d:D} {u:V} {x:Dt},DAt K c F u d->dtOf d=some x->qP K F u x
 | .non,u,x,h,e=>by cases h;simp [dtOf] at e;subst e;exact .non
 | .int i,u,x,h,e=>by cases h;simp [dtOf] at e;subst e;exact .int _
 | .str i,u,x,h,e=>by cases h;simp [dtOf] at e;subst e;exact .str _
 | .bl b,u,x,h,e=>by simp [dtOf] at e
 | .fn b,u,x,h,e=>by simp [dtOf] at e
 | .nd k ds,u,x,h,e=>by
   cases k with
   | tup=>
     simp only [dtOf] at e
     cases e1:dtsOf ds with
     | none=>rw [e1] at e;cases e
     | some xs=>
       rw [e1] at e
       cases e
       obtain⟨p,vs,rfl,h1,h2⟩:=h.un
       exact .tup h1 (dtsOf_at h2 e1)
   | lst=>simp [dtOf] at e
   | dct ks=>simp [dtOf] at e
   | dcT ks=>simp [dtOf] at e
   | obj C fs=>simp [dtOf] at e
   | exc C fs=>simp [dtOf] at e
theorem dtsOf_at {F:Hp}:∀ {ds:List D} {us:List V} {xs:List Dt},DsAt K c F us ds->dtsOf ds=some xs->DatsAt K F us xs
 | [],us,xs,h,e=>by simp [dtsOf] at e;subst e;rw [h.un0];exact .nil
 | d::ds,us,xs,h,e=>by
   obtain⟨v,r,rfl,a,b⟩:=h.un
   simp only [dtsOf] at e
   cases e1:dtOf d with
   | none=>rw [e1] at e;cases e
   | some x=>
     cases e2:dtsOf ds with
     | none=>rw [e1,e2] at e;cases e
     | some ys=>
       rw [e1,e2] at e
       cases e
       exact .cons (qXe a e1) (dtsOf_at b e2)
end
end
def eqB (x y:D):Option Bool:=match x,y with
 | .bl a, .bl b=>some (a == b)
 | .nd .lst ds, .nd .lst es=>(dtsOf ds).bind fun a=>(dtsOf es).bind fun b=>if Dt.hgts a<=30 then some (Dt.beqs a b) else none
 | x,y=>(dtOf x).bind fun a=>(dtOf y).bind fun b=>if a.hgt<=30 then some (Dt.beq a b) else none
def eqD (x y:D):Option D:=(eqB x y).map .bl
def neD (x y:D):Option D:=(eqB x y).map fun b=> .bl (!b)
def vWc (K:aQ):R2:=fun x y H Q=>rEqD K x y H Q\/rEq x y H Q\/rEqL K x y H Q
def vWb (K:aQ):R2:=fun x y H Q=>rNeD K x y H Q\/rNe x y H Q\/rNeL K x y H Q
theorem qYp {X:Cx} (hu:X.A.units + 64 < dC):OpR X (bM .Eq) (vWc X.K):=(zJ0 hu).or (zXr.or (zJz hu))
theorem vX2 {X:Cx} (hu:X.A.units + 64 < dC):OpR X (bM .NotEq) (vWb X.K):=(zJu hu).or (zXp.or (zJt hu))
theorem vVs (a b:Bool):decide (V.bl a=V.bl b)=(a == b):=by cases a <;> cases b <;> rfl
section
variable {K:aQ} {c:Nat->aZ}
theorem vWx {u w:V} {H:Hp} {x y:D} {b:Bool} (hx:DAt K c H u x) (hy:DAt K c H w y) (e:eqB x y=some b):
  (∃d e,qP K H u d/\qP K H w e/\d.hgt<=30/\Dt.beq d e=b)\/(∃p q,u= .bl p/\w= .bl q/\(p == q)=b)\/(∃p q vs ws ds es,u= .ref p/\w= .ref q/\SqL K H p vs/\SqL K H q ws/\DatsAt K H vs ds/\DatsAt K H ws es/\Dt.hgts ds<=30/\Dt.beqs ds es=b):=by
 unfold eqB at e
 split at e
 ·cases e
  cases hx
  cases hy
  exact .inr (.inl ⟨_,_,rfl,rfl,rfl⟩)
 ·obtain⟨a,e1,e2⟩:=bnd e
  obtain⟨d,e3,e4⟩:=bnd e2
  obtain⟨p,rfl⟩:=qW9 e4
  obtain⟨p1,vs,rfl,h1,h2⟩:=hx.un
  obtain⟨p2,ws,rfl,h3,h4⟩:=hy.un
  exact .inr (.inr ⟨p1,p2,vs,ws,a,d,rfl,rfl,h1,h3,dtsOf_at h2 e1,dtsOf_at h4 e3,p,rfl⟩)
 ·obtain⟨a,e1,e2⟩:=bnd e
  obtain⟨d,e3,e4⟩:=bnd e2
  obtain⟨p,rfl⟩:=qW9 e4
  exact .inl ⟨a,d,qXe hx e1,qXe hy e3,p,rfl⟩
theorem zV0:PrS2 K c (vWc K) eqD:=fun u w H x y z Q hx hy e q=>by
 obtain⟨b,e1,rfl⟩:=bY.mp e
 rcases vWx hx hy e1 with⟨d,d2,h1,h2,h3,rfl⟩ | ⟨p,r,rfl,rfl,rfl⟩ | ⟨p,r,vs,ws,ds,es,h1,h2,h3,h4,h5,h6,h7,rfl⟩
 ·exact .inl ⟨d,d2,h1,h2,h3,q _ fun _=> .bl _⟩
 ·exact .inr (.inl ⟨rfl,by rw [vVs];exact q _ fun _=> .bl _⟩)
 ·exact .inr (.inr ⟨p,r,vs,ws,ds,es,h1,h2,h3,h4,h5,h6,h7,q _ fun _=> .bl _⟩)
theorem zXj:PrS2 K c (vWb K) neD:=fun u w H x y z Q hx hy e q=>by
 obtain⟨b,e1,rfl⟩:=bY.mp e
 rcases vWx hx hy e1 with⟨d,d2,h1,h2,h3,rfl⟩ | ⟨p,r,rfl,rfl,rfl⟩ | ⟨p,r,vs,ws,ds,es,h1,h2,h3,h4,h5,h6,h7,rfl⟩
 ·exact .inl ⟨d,d2,h1,h2,h3,q _ fun _=> .bl _⟩
 ·exact .inr (.inl ⟨rfl,by rw [vVs];exact q _ fun _=> .bl _⟩)
 ·exact .inr (.inr ⟨p,r,vs,ws,ds,es,h1,h2,h3,h4,h5,h6,h7,q _ fun _=> .bl _⟩)
def vQk:D->Bool
 | .non=>true
 | _=>false
def isN (x y:D):Option D:=match y with
 | .non=>some (.bl (vQk x))
 | _=>none
def notN (x y:D):Option D:=match y with
 | .non=>some (.bl (!vQk x))
 | _=>none
theorem qYu {F:Hp} {u:V} {x:D} (h:DAt K c F u x):decide (u= .non)=vQk x:=by
 cases h <;> simp [vQk]
theorem zJg:PrS2 K c (fun x y H Q=>y= .non/\Q (.bl (decide (x= .non))) H) isN:=fun u w H x y z Q hx hy e q=>by
 unfold isN at e
 split at e
 ·cases e
  cases hy
  exact⟨rfl,by rw [qYu hx];exact q _ fun _=> .bl _⟩
 ·cases e
theorem vKt:PrS2 K c (fun x y H Q=>y= .non/\Q (.bl (!decide (x= .non))) H) notN:=fun u w H x y z Q hx hy e q=>by
 unfold notN at e
 split at e
 ·cases e
  cases hy
  exact⟨rfl,by rw [qYu hx];exact q _ fun _=> .bl _⟩
 ·cases e
def toV:D->Option V
 | .non=>some .non
 | .int i=>some (.int i)
 | .str x=>some (.str x)
 | .bl b=>some (.bl b)
 | _=>none
def allV:List D->Option (List V)
 | []=>some []
 | d::r=>(toV d).bind fun v=>(allV r).bind fun vs=>some (v::vs)
theorem qKe {F:Hp} {u v:V} {d:D} (h:DAt K c F u d) (e:toV d=some v):u=v/\qQo v=true:=by
 cases h <;> cases e <;> exact⟨rfl,rfl⟩
theorem qXi {F:Hp}:∀ {us:List V} {ds:List D} {vs:List V},DsAt K c F us ds->allV ds=some vs->us=vs/\vs.all qQo=true
 | us,[],vs,h,e=>by cases e;exact⟨h.un0,rfl⟩
 | us,d::ds,vs,h,e=>by
   obtain⟨u,r,rfl,a,b⟩:=h.un
   obtain⟨v,e1,e2⟩:=bnd e
   obtain⟨ws,e3,e4⟩:=bnd e2
   cases e4
   obtain⟨h1,h2⟩:=qKe a e1
   obtain⟨h3,h4⟩:=qXi b e3
   exact⟨by rw [h1,h3],by rw [List.all_cons,h2,h4];rfl⟩
def inB (x y:D):Option Bool:=match y with
 | .nd (.dct ks) _=>(qZi x).bind fun k=>some (kidx k ks).isSome
 | .nd .lst ds=>(toV x).bind fun v=>(allV ds).bind fun vs=>some (inV v vs)
 | .nd .tup ds=>(toV x).bind fun v=>(allV ds).bind fun vs=>some (inV v vs)
 | _=>none
def inD (x y:D):Option D:=(inB x y).map .bl
def niD (x y:D):Option D:=(inB x y).map fun b=> .bl (!b)
def rInA (K:aQ) (neg:Bool):R2:=fun x y H Q=>rIn K neg x y H Q\/∃a o,y= .ref a/\DGet H a x o/\Q (.bl (if neg then !o.isSome else o.isSome)) H
theorem zJy {X:Cx} (hu:X.A.units + 1 < dC):OpR X (bM .In) (rInA X.K false):=vZi.or (zJx hu)
theorem vZh {X:Cx} (hu:X.A.units + 1 < dC):OpR X (bM .NotIn) (rInA X.K true):=qXr.or (vZg hu)
theorem vWq {neg:Bool} {u w:V} {H:Hp} {x y:D} {b:Bool} {Q:VK} (hx:DAt K c H u x) (hy:DAt K c H w y) (e:inB x y=some b) (q:Q (.bl (if neg then !b else b)) H):rInA K neg u w H Q:=by
 unfold inB at e
 split at e
 ·obtain⟨k,e1,e2⟩:=bnd e
  cases e2
  obtain⟨p,vs,rfl,⟨h1,h2,h3⟩,h4⟩:=hy.un
  rw [qVc hx e1]
  refine .inr ⟨p,_,rfl,DGet.k h3,?_⟩
  rw [yM h1]
  rename_i ks ds
  have:((kidx k ks).bind fun j=>vs[j]?).isSome=(kidx k ks).isSome:=by
   cases e5:kidx k ks with
   | none=>rfl
   | some j=>
     have:=(qZe e5).1
     rw [h1] at this
     show(vs[j]?).isSome=true
     rw [aF this]
     rfl
  rw [this]
  exact q
 ·obtain⟨v,e1,e2⟩:=bnd e
  obtain⟨vs',e3,e4⟩:=bnd e2
  cases e4
  obtain⟨p,vs,rfl,h1,h2⟩:=hy.un
  obtain⟨g1,g2⟩:=qKe hx e1
  obtain⟨g3,g4⟩:=qXi h2 e3
  subst g1 g3
  exact .inl ⟨p,vs,rfl, .inl h1,g2,g4,q⟩
 ·obtain⟨v,e1,e2⟩:=bnd e
  obtain⟨vs',e3,e4⟩:=bnd e2
  cases e4
  obtain⟨p,vs,rfl,h1,h2⟩:=hy.un
  obtain⟨g1,g2⟩:=qKe hx e1
  obtain⟨g3,g4⟩:=qXi h2 e3
  subst g1 g3
  exact .inl ⟨p,vs,rfl, .inr h1,g2,g4,q⟩
 ·cases e
theorem zXk:PrS2 K c (rInA K false) inD:=fun u w H x y z Q hx hy e q=>by
 obtain⟨b,e1,rfl⟩:=bY.mp e
 exact vWq (neg:=false) hx hy e1 (q _ fun _=> .bl _)
theorem vXv:PrS2 K c (rInA K true) niD:=fun u w H x y z Q hx hy e q=>by
 obtain⟨b,e1,rfl⟩:=bY.mp e
 exact vWq (neg:=true) hx hy e1 (q _ fun _=> .bl _)
def negD (x:D):Option D:=(xB x).bind fun i=>some (.int (-i))
end
abbrev oAdd:=o2 (i2 fun i j=>i + j)
abbrev oSub:=o2 (i2 fun i j=>i - j)
abbrev oMul:=o2 (i2g IntMulOk fun i j=>i * j)
abbrev oDiv:=o2 (i2g vQq fun i j=>i / j)
abbrev oMod:=o2 (i2g (fun _ j=>0 < j) fun i j=>i % j)
abbrev oGt:=o2 (c2 fun i j=>decide (j < i))
section
variable {X:Cx} {c:Nat->aZ} {E:XK} {a b d e:Expr} {oa ob oc:Oe} {pos:Pos} {k:Nat}
theorem vJo (ha:OD X c E a oa) (hb:OD X c E b ob):OD X c E (.BinOp a .Add b pos) (oAdd oa ob):=qX8 zJ1 (zVz _) ha hb
theorem vJn (ha:OD X c E a oa) (hb:OD X c E b ob):OD X c E (.BinOp a .Sub b pos) (oSub oa ob):=qX8 zJs (zVz _) ha hb
theorem zXv (ha:OD X c E a oa) (hb:OD X c E b ob):OD X c E (.BinOp a .Mult b pos) (oMul oa ob):=qX8 zQe (qKi _ _) ha hb
theorem qYa (ha:OD X c E a oa) (hb:OD X c E b ob):OD X c E (.BinOp a .FloorDiv b pos) (oDiv oa ob):=qX8 vX3 (qKi _ _) ha hb
theorem qVy (ha:OD X c E a oa) (hb:OD X c E b ob):OD X c E (.BinOp a .Mod b pos) (oMod oa ob):=qX8 zJv (qKi _ _) ha hb
theorem o_eq (hr:Room k X.A) (ha:OD X c E a oa) (hb:OD X c E b ob):OD X c E (.Compare a [.Eq] [b] pos) (o2 eqD oa ob):=zJ4 (qYp hr.units) zV0 ha hb (qVm _)
theorem t_gt (ha:OD X c E a oa) (hb:OD X c E b ob):TD X c E (.Compare a [.Gt] [b] pos) (asB (oGt oa ob)):=qQw zXq (vJm _) ha hb (qVm _)
theorem t_eq (hr:Room k X.A) (ha:OD X c E a oa) (hb:OD X c E b ob):TD X c E (.Compare a [.Eq] [b] pos) (asB (o2 eqD oa ob)):=qQw (qYp hr.units) zV0 ha hb (qVm _)
theorem t_ne (hr:Room k X.A) (ha:OD X c E a oa) (hb:OD X c E b ob):TD X c E (.Compare a [.NotEq] [b] pos) (asB (o2 neD oa ob)):=qQw (vX2 hr.units) zXj ha hb (qVm _)
theorem t_in (hr:Room k X.A) (ha:OD X c E a oa) (hb:OD X c E b ob) (hm:behindInMarks .In b=false:=by rfl):TD X c E (.Compare a [.In] [b] pos) (asB (o2 inD oa ob)):=qQw (zJy (qZk hr)) zXk ha hb hm
theorem qW1 (hr:Room k X.A) (ha:OD X c E a oa) (hb:OD X c E b ob) (hm:behindInMarks .NotIn b=false:=by rfl):TD X c E (.Compare a [.NotIn] [b] pos) (asB (o2 niD oa ob)):=qQw (vZh (qZk hr)) vXv ha hb hm
theorem zW3 (ha:OD X c E a oa) (hb:OD X c E b ob):TD X c E (.Compare a [.Is] [b] pos) (asB (o2 isN oa ob)):=qQw zJw zJg ha hb (qVm _)
theorem zZo (ha:OD X c E a oa) (hb:OD X c E b ob):TD X c E (.Compare a [.IsNot] [b] pos) (asB (o2 notN oa ob)):=qQw zQd vKt ha hb (qVm _)
theorem qVx (ha:OD X c E a oa):OD X c E (.UnaryOp .USub a pos) (o1 negD oa):=zXs zZm (fun u H x z Q hx e q=>by
 obtain⟨i,e1,e2⟩:=bnd e
 cases e2
 exact⟨i,zJ hx e1,q _ fun _=> .int _⟩) ha
theorem o_ix (hr:Room k X.A) (ha:OD X c E a oa) (hb:OD X c E b ob) (hs:qXj b:=by exact fun _ _=>rfl):OD X c E (.Subscript a b pos) (oIx oa ob):=zXt (qZk hr) ha hb hs
end
def iSeq (K:aQ) (tl:TE):TI:=fun σ H R=>tl σ H fun x H1=>∃a,x= .ref a/\(((∃xs,SqL K H1 a xs)/\R (Itl K a) H1)\/((∃xs,SqT K H1 a xs)/\R (Itt K a) H1))
theorem zJi {X:Cx} {tg l:Expr} {tl:TE} (hl:PE X l tl):PI X tg l (iSeq X.K tl):=by
 intro pins s σ H R I h
 refine thn (hl pins s σ H _ I h) fun v s1 ⟨x,H1,I1,r1,q1⟩=>?_
 obtain⟨a,e,q1⟩:=q1
 subst e
 cases r1
 rcases q1 with⟨⟨xs,hq⟩,q⟩ | ⟨⟨xs,hq⟩,q⟩
 ·obtain⟨its,rv,p,hz⟩:=I1.list hq
  refine wpAny_pyIter_list p.isList ?_
  refine⟨s1.heap.objs.size,[s1.heap.objs.size],_,_,H1,rfl,I1.kept (t' :=s1.toks) fun b o e=>aX _ e,vV1 a _,⟨_,aL _ rfl,rfl,rfl⟩,fun b hb=>?_,q⟩
  have e:b=s1.heap.objs.size:=by simpa using hb
  subst e
  exact I1.fpOk (aG _) (I1.hok.fresh (aG _))
 ·obtain⟨its,rv,p,hz⟩:=I1.tuple hq
  refine wpAny_pyIter_tuple (show s1.heap.IsTuple a its.toArray from p) ?_
  refine⟨s1.heap.objs.size,[s1.heap.objs.size],_,_,H1,rfl,I1.kept (t' :=s1.toks) fun b o e=>aX _ e,qKu a _,⟨_,aL _ rfl,rfl,rfl⟩,fun b hb=>?_,q⟩
  have e:b=s1.heap.objs.size:=by simpa using hb
  subst e
  exact I1.fpOk (aG _) (I1.hok.fresh (aG _))
section
variable {K:aQ} {c:Nat->aZ} {F:Hp} {a b:aZ} {xs ys:List V} {ds es:List D}
theorem vYd (h:SqL K F a xs) (k:DsAt K c F xs ds):ItD K c F (Itl K a) ds:=by
 intro i H T sm hb
 have h' :SqL K H a xs:=vS qG (vS sm h)
 refine⟨fun d hd=>?_,fun hi=>⟨xs,h',by rw [k.len];omega⟩⟩
 obtain⟨v,h1,h2⟩:=k.get hd
 refine⟨⟨xs,v,h',h1⟩,fun x H' y=>?_⟩
 obtain⟨rfl,y2⟩:=y
 have:=y2 xs h'
 rw [h1] at this
 cases this
 exact⟨Same.refl _,h2.same sm⟩
theorem zQu (h:SqT K F a xs) (k:DsAt K c F xs ds):ItD K c F (Itt K a) ds:=by
 intro i H T sm hb
 have h' :SqT K H a xs:=qG.tup (sm.tup h)
 refine⟨fun d hd=>?_,fun hi=>⟨xs,h',by rw [k.len];omega⟩⟩
 obtain⟨v,h1,h2⟩:=k.get hd
 refine⟨⟨xs,v,h',h1⟩,fun x H' y=>?_⟩
 obtain⟨rfl,y2⟩:=y
 have:=y2 xs h'
 rw [h1] at this
 cases this
 exact⟨Same.refl _,h2.same sm⟩
def rngD (lo:Int) (n:Nat):List D:=(List.range n).map fun(j:Nat)=>D.int (lo + (j:Int))
theorem zQv {lo:Int} {n:Nat}:ItD K c F (Itr lo n) (rngD lo n):=by
 intro i H T sm hb
 unfold rngD
 refine⟨fun d hd=>?_,fun hi=>by rw [aY,List.length_range] at hi;exact Nat.le_of_eq hi.symm⟩
 rw [bP] at hd
 cases q:(List.range n)[i]? with
 | none=>rw [q] at hd;cases hd
 | some j=>
   rw [q] at hd
   cases hd
   obtain⟨hl,e⟩:=aT.mp q
   rw [List.getElem_range] at e
   subst e
   rw [List.length_range] at hl
   refine⟨hl,fun x H' y=>?_⟩
   obtain⟨rfl,rfl⟩:=y
   exact⟨Same.refl _, .int _⟩
def zipD:List D->List D->List D
 | d::ds,e::es=>D.tup [d,e]::zipD ds es
 | _,_=> []
theorem qV2:∀(ds es:List D),(zipD ds es).length=min ds.length es.length
 | [],es=>by simp [zipD]
 | d::ds,[]=>by simp [zipD]
 | d::ds,e::es=>by simp only [zipD,aK,qV2 ds es];omega
theorem zipD_get:∀ {ds es:List D} {i:Nat} {z:D},(zipD ds es)[i]?=some z->∃d e,ds[i]?=some d/\es[i]?=some e/\z=D.tup [d,e]
 | [],es,i,z,h=>by simp [zipD] at h
 | d::ds,[],i,z,h=>by simp [zipD] at h
 | d::ds,e::es,0,z,h=>by simp only [zipD,eW,Option.some.injEq] at h;exact⟨d,e,rfl,rfl,h.symm⟩
 | d::ds,e::es,i + 1,z,h=>by
   obtain⟨d',e',h1,h2,h3⟩:=zipD_get (ds:=ds) (es:=es) (i:=i) (z:=z) (by simpa [zipD] using h)
   exact⟨d',e',by simpa using h1,by simpa using h2,h3⟩
theorem qYm {H:Hp} {T:Fp} {x y:V} {d e:D} {p:aZ} (hn:H p=none) (hb:∀a,T a≠0->∃o,H a=some o/\Hb o) (hx:DAt K c (hide T H) x d) (hy:DAt K c (hide T H) y e):Same H (upd H p (.tup [x,y]))/\DAt K c (hide T (upd H p (.tup [x,y]))) (.ref p) (D.tup [d,e]):=by
 have sm:Same H (upd H p (.tup [x,y])):= .upd hn
 have hp:T p=0:=by
  by_cases z:T p=0
  ·exact z
  ·obtain⟨o,q,_⟩:=hb p z;rw [hn] at q;cases q
 have ss:Same (hide T H) (hide T (upd H p (.tup [x,y]))):=zW fun a o z q=>⟨z,sm a o q⟩
 exact⟨sm, .of (k:= .tup) (SqT.of (by rw [vT hp,upd_same])) (.cons (hx.same ss) (.cons (hy.same ss) .nil))⟩
theorem zQt (h1:SqL K F a xs) (h2:SqL K F b ys) (k1:DsAt K c F xs ds) (k2:DsAt K c F ys es):ItD K c F (Itz K a b) (zipD ds es):=by
 intro i H T sm hb
 have g1:SqL K H a xs:=vS qG (vS sm h1)
 have g2:SqL K H b ys:=vS qG (vS sm h2)
 refine⟨fun z hz=>?_,fun hi=>⟨xs,ys,g1,g2,by rw [qV2,←k1.len,←k2.len] at hi;omega⟩⟩
 obtain⟨d,e,e1,e2,rfl⟩:=zipD_get hz
 obtain⟨v,v1,v2⟩:=k1.get e1
 obtain⟨u,u1,u2⟩:=k2.get e2
 refine⟨⟨xs,ys,v,u,g1,g2,v1,u1⟩,fun x H' y=>?_⟩
 obtain⟨p,rfl,hn,y2⟩:=y
 rw [y2 xs ys v u g1 g2 v1 u1]
 exact qYm hn hb (v2.same sm) (u2.same sm)
def yC:Nat->List D->List D
 | _,[]=> []
 | n,d::ds=>D.tup [.int (n:Int),d]::yC (n + 1) ds
theorem qVg:∀(n:Nat) (ds:List D),(yC n ds).length=ds.length
 | _,[]=>rfl
 | n,d::ds=>by simp only [yC,aK,qVg (n + 1) ds]
theorem enumD_get:∀ {n:Nat} {ds:List D} {i:Nat} {z:D},(yC n ds)[i]?=some z->∃d,ds[i]?=some d/\z=D.tup [.int ((n + i:Nat):Int),d]
 | n,[],i,z,h=>by simp [yC] at h
 | n,d::ds,0,z,h=>by simp only [yC,eW,Option.some.injEq] at h;exact⟨d,rfl,h.symm⟩
 | n,d::ds,i + 1,z,h=>by
   obtain⟨d',h1,h2⟩:=enumD_get (n:=n + 1) (ds:=ds) (i:=i) (z:=z) (by simpa [yC] using h)
   exact⟨d',by simpa using h1,by rw [h2,show n + 1 + i=n + (i + 1) by omega]⟩
theorem vYe (h:SqL K F a xs) (k:DsAt K c F xs ds):ItD K c F (Ite K a) (yC 0 ds):=by
 intro i H T sm hb
 have g1:SqL K H a xs:=vS qG (vS sm h)
 refine⟨fun z hz=>?_,fun hi=>⟨xs,g1,by rw [qVg,←k.len] at hi;omega⟩⟩
 obtain⟨d,e1,rfl⟩:=enumD_get hz
 obtain⟨v,v1,v2⟩:=k.get e1
 refine⟨⟨xs,v,g1,v1⟩,fun x H' y=>?_⟩
 obtain⟨p,rfl,hn,y2⟩:=y
 rw [y2 xs v g1 v1,Nat.zero_add]
 exact qYm hn hb (.int _) (v2.same sm)
end
def qVv:D->Option (List D)
 | .nd .lst ds=>some ds
 | .nd .tup ds=>some ds
 | _=>none
def qQn:D->Option (List D)
 | .nd .lst ds=>some ds
 | _=>none
section
variable {K:aQ} {c:Nat->aZ} {F:Hp} {u:V} {d:D} {ds:List D}
theorem qZ6 (h:DAt K c F u d) (e:qQn d=some ds):∃p vs,u= .ref p/\SqL K F p vs/\DsAt K c F vs ds:=by
 unfold qQn at e
 split at e
 ·cases e;exact h.un
 ·cases e
theorem vXj (h:DAt K c F u d) (e:qVv d=some ds):∃p vs,u= .ref p/\(SqL K F p vs\/SqT K F p vs)/\DsAt K c F vs ds:=by
 unfold qVv at e
 split at e
 ·cases e;obtain⟨p,vs,a,b,r⟩:=h.un;exact⟨p,vs,a, .inl b,r⟩
 ·cases e;obtain⟨p,vs,a,b,r⟩:=h.un;exact⟨p,vs,a, .inr b,r⟩
 ·cases e
end
def iV (s:SV):SI:=fun env=>(s env).bind fun r=>(opt (qVv r.1)).bind fun ds=> .ok (ds,r.2)
def iL (f:List D->Option (List D)) (ss:List SV):SI:=fun env=>(evVs ss env).bind fun r=>(opt (f r.1)).bind fun ds=> .ok (ds,r.2)
def in62 (j:Int):Bool:=decide (-(2 ^ 62)<=j) && decide (j < 2 ^ 62)
theorem vVf {j:Int} (h:in62 j=true): -(2 ^ 62)<=j/\j < 2 ^ 62:=by
 unfold in62 at h
 rw [bD] at h
 exact⟨of_decide_eq_true h.1,of_decide_eq_true h.2⟩
def rg1:List D->Option (List D)
 | [.int j]=>cond (in62 j) (some (rngD 0 j.toNat)) none
 | _=>none
def zpL:List D->Option (List D)
 | [x,y]=>(qQn x).bind fun ds=>(qQn y).bind fun es=>some (zipD ds es)
 | _=>none
def enL:List D->Option (List D)
 | [x]=>(qQn x).bind fun ds=>some (yC 0 ds)
 | _=>none
section
variable {X:Cx} {c:Nat->aZ} {E:XK} {tg e e1 e2:Expr} {s:SV} {ss:List SV} {p pos tpos:Pos} {elts:List Expr} {kk:Nat}
theorem v7 (h:EV X c E e s):ID' X c E tg e (iV s):=by
 refine⟨PI.imp (zJi h.h) fun σ H R=>?_⟩
 rintro⟨env,B,W,cf,w⟩
 refine⟨env,B,W,cf,wp_mono (fun r w1 u H1 W1 g=>?_) (fun _ _ he=>he) (qW.mp w)⟩
 obtain⟨ds,e1,w2⟩:=qB w1
 obtain⟨q,vs,rfl,b1,b2⟩:=vXj g.at_ e1
 rcases b1 with b1 | b1
 ·exact⟨q,rfl, .inl ⟨⟨vs,vS qG b1⟩,w2 _ H1 W1 g.st g.cf (vYd b1 b2)⟩⟩
 ·exact⟨q,rfl, .inr ⟨⟨vs,qG.tup b1⟩,w2 _ H1 W1 g.st g.cf (zQu b1 b2)⟩⟩
theorem ds1 {K:aQ} {F:Hp} {us:List V} {x:D} (h:DsAt K c F us [x]):∃u,us=[u]/\DAt K c F u x:=by
 obtain⟨u,r,rfl,a,b⟩:=h.un
 rw [b.un0];exact⟨u,rfl,a⟩
theorem ds2 {K:aQ} {F:Hp} {us:List V} {x y:D} (h:DsAt K c F us [x,y]):∃u w,us=[u,w]/\DAt K c F u x/\DAt K c F w y:=by
 obtain⟨u,r,rfl,a,b⟩:=h.un
 obtain⟨w,rfl,b2⟩:=ds1 b
 exact⟨u,w,rfl,a,b2⟩
theorem qWd (hg:Gl X "range") (hm:X.mg "range"=none) (ha:VsD X c E [e] ss) (hs:aU [e] X.env=[(false,eval e X.env)]:=by rfl):ID' X c E tg (.Call (.Name "range" p) [e] [] pos) (iL rg1 ss):=by
 refine⟨PI.imp (vZe hg hm ha.h hs) fun σ H R=>?_⟩
 rintro⟨env,B,W,cf,w⟩
 refine qVi cf (qW.mp w) fun r w1 us H1 W1 g=>?_
 obtain⟨ds,e1,w2⟩:=qB w1
 have ga:=g.at_
 unfold rg1 at e1
 split at e1
 ·rename_i j e2
  rw [e2] at ga
  obtain⟨u,rfl,a⟩:=ds1 ga
  obtain⟨q1,q2⟩:=vE e1
  cases q2
  cases a
  exact⟨j,rfl,(vVf q1).1,(vVf q1).2,w2 _ H1 W1 g.st g.cf zQv⟩
 ·cases e1
theorem zWn (hg:Gl X "zip") (hm:X.mg "zip"=none) (ha:VsD X c E [e1,e2] ss) (hs:aU [e1,e2] X.env=[(false,eval e1 X.env),(false,eval e2 X.env)]:=by rfl) (hs2:aU [e2] X.env=[(false,eval e2 X.env)]:=by rfl):
  ID' X c E (.Tuple elts kk tpos) (.Call (.Name "zip" p) [e1,e2] [] pos) (iL zpL ss):=by
 refine⟨PI.imp (zJh hg hm ha.h hs hs2) fun σ H R=>?_⟩
 rintro⟨env,B,W,cf,w⟩
 refine qVi cf (qW.mp w) fun r w1 us H1 W1 g=>?_
 obtain⟨ds,e1,w2⟩:=qB w1
 have ga:=g.at_
 unfold zpL at e1
 split at e1
 ·rename_i x y e2
  rw [e2] at ga
  obtain⟨u,v,rfl,a,b⟩:=ds2 ga
  obtain⟨xs,q1,e3⟩:=bnd e1
  obtain⟨ys,q2,e4⟩:=bnd e3
  cases e4
  obtain⟨q,vs,rfl,c1,c2⟩:=qZ6 a q1
  obtain⟨q',vs',rfl,c3,c4⟩:=qZ6 b q2
  exact⟨q,q',rfl,⟨_,vS qG c1⟩,⟨_,vS qG c3⟩,w2 _ H1 W1 g.st g.cf (zQt c1 c3 c2 c4)⟩
 ·cases e1
theorem zQx (hg:Gl X "enumerate") (hm:X.mg "enumerate"=none) (ha:VsD X c E [e] ss) (hs:aU [e] X.env=[(false,eval e X.env)]:=by rfl) (hs2:aU [] X.env=[]:=by rfl):ID' X c E (.Tuple elts kk tpos) (.Call (.Name "enumerate" p) [e] [] pos) (iL enL ss):=by
 refine⟨PI.imp (vK1 hg hm ha.h hs hs2) fun σ H R=>?_⟩
 rintro⟨env,B,W,cf,w⟩
 refine qVi cf (qW.mp w) fun r w1 us H1 W1 g=>?_
 obtain⟨ds,e1,w2⟩:=qB w1
 have ga:=g.at_
 unfold enL at e1
 split at e1
 ·rename_i x e2
  rw [e2] at ga
  obtain⟨u,rfl,a⟩:=ds1 ga
  obtain⟨xs,q1,e3⟩:=bnd e1
  cases e3
  obtain⟨q,vs,rfl,c1,c2⟩:=qZ6 a q1
  exact⟨q,rfl,⟨_,vS qG c1⟩,w2 _ H1 W1 g.st g.cf (vYe c1 c2)⟩
 ·cases e1
end
def Res.ne {α:Type}:Res α->Res α
 | .ok a=> .ok a
 | _=> .no
theorem zVn {α:Type} {Q:α->Prop} {E E' :Nat->List (Str×D)->Prop}:∀ {x:Res α},x.ne.wp Q E->x.wp Q E'
 | .ok _,h=>h
 | .er _ _,h=>h.elim
 | .no,h=>h.elim
def jM (g:SG) (t:ST) (el:SV):List D->Ev->Res (List D×Ev)
 | [],env=> .ok ([],env)
 | d::ds,env=>(opt (g d env)).bind fun e1=>(t e1).ne.bind fun r=>cond r.1 ((el r.2).ne.bind fun v=>(jM g t el ds v.2).bind fun q=> .ok (v.1::q.1,q.2)) (jM g t el ds r.2)
def capO (cs:List (Nat×Nat)) (i:Nat):Option Nat:=match cs with
 | []=>none
 | c::r=>if c.1=i then some c.2 else capO r i
theorem qQc:∀ {cs:List (Nat×Nat)} {i j:Nat},capO cs i=some j->(i,j)∈cs
 | [],i,j,h=>by cases h
 | c::r,i,j,h=>by
   simp only [capO] at h
   split at h
   ·rename_i e;cases h;subst e;exact aI
   ·exact aE _ (qQc h)
theorem vQw:∀ {cs:List (Nat×Nat)} {i i' j:Nat},(cs.map (·.2)).Nodup->(i,j)∈cs->(i',j)∈cs->i=i'
 | c::r,i,i',j,hn,h1,h2=>by
   rw [aC,bO] at hn
   rcases aB.mp h1 with a1 | a1
   ·rcases aB.mp h2 with a2 | a2
    ·rw [←a1] at a2;cases a2;rfl
    ·exact absurd (show c.2∈r.map (·.2) from(show c.2=j by rw [←a1])▸List.mem_map_of_mem (f:=fun x:Nat×Nat=>x.2) a2) hn.1
   ·rcases aB.mp h2 with a2 | a2
    ·exact absurd (show c.2∈r.map (·.2) from(show c.2=j by rw [←a2])▸List.mem_map_of_mem (f:=fun x:Nat×Nat=>x.2) a1) hn.1
    ·exact vQw hn.2 a1 a2
def capS {α:Type} (cs:List (Nat×Nat)) (u:α) (l:List α):Nat->Nat->List α
 | _,0=> []
 | i,n + 1=>(match capO cs i with
   | some j=>l.getD j u
   | none=>u)::capS cs u l (i + 1) n
theorem qJc {α:Type} {cs:List (Nat×Nat)} {u:α} {l:List α}:∀(n i:Nat),(capS cs u l i n).length=n
 | 0,i=>rfl
 | n + 1,i=>by rw [capS,aK,qJc n]
theorem qVe {α:Type} {cs:List (Nat×Nat)} {u:α} {l:List α}:∀(n i k:Nat),k < n->(capS cs u l i n)[k]?=some (match capO cs (i + k) with
  | some j=>l.getD j u
  | none=>u)
 | 0,i,k,h=>by omega
 | n + 1,i,0,h=>by rw [capS];rfl
 | n + 1,i,k + 1,h=>by
   rw [capS,List.getElem?_cons_succ,qVe n (i + 1) k (by omega),show i + 1 + k=i + (k + 1) by omega]
theorem vV6 {α:Type} {l:List (Option α)} {j:Nat} {v:α} (h:l.getD j none=some v):l[j]?=some (some v):=by
 rw [cW] at h
 cases e:l[j]? with
 | none=>rw [e] at h;cases h
 | some o=>rw [e] at h;cases h;rfl
def yX (cs:List (Nat×Nat)):Nat->Nat->Ev->Ev
 | _,0,env=>env
 | i,n + 1,env=>yX cs (i + 1) n (match capO cs i with
   | some j=>env.set j .un
   | none=>env)
def putI (cs:List (Nat×Nat)):Nat->Ev->Ev->Ev
 | _,[],env=>env
 | i,s::inn,env=>putI cs (i + 1) inn (match capO cs i with
   | some j=>env.set j s
   | none=>env)
def qYd (cs:List (Nat×Nat)) (T:List Nat) (n m:Nat):Bool:=decide ((cs.map (·.1)).Nodup/\(cs.map (·.2)).Nodup/\∀c∈cs,c.1 < n/\c.2 < m/\c.1∉T)
theorem qVq {cs:List (Nat×Nat)}:∀ {n i:Nat} {env:Ev},(yX cs i n env).length=env.length
 | 0,i,env=>rfl
 | n + 1,i,env=>by
   rw [yX,qVq]
   cases capO cs i with
   | none=>rfl
   | some j=>exact dQ
theorem qYj {cs:List (Nat×Nat)}:∀ {inn:Ev} {i:Nat} {env:Ev},(putI cs i inn env).length=env.length
 | [],i,env=>rfl
 | s::inn,i,env=>by
   rw [putI,qYj]
   cases capO cs i with
   | none=>rfl
   | some j=>exact dQ
theorem qYg {cs:List (Nat×Nat)} {k:Nat} {o:O}:∀ {n i:Nat} {env:Ev},(yX cs i n env)[k]?=some (.s true o)->env[k]?=some (.s true o)
 | 0,i,env,h=>h
 | n + 1,i,env,h=>by
   rw [yX] at h
   have:=qYg h
   cases e:capO cs i with
   | none=>rw [e] at this;exact this
   | some j=>rw [e] at this;exact(qQ0 (fun _ z=>by cases z) this).2
theorem vQ6 {cs:List (Nat×Nat)} {k:Nat} {o:O}:∀ {inn:Ev} {i:Nat} {env:Ev},(putI cs i inn env)[k]?=some (.s true o)->env[k]?=some (.s true o)\/∃i',capO cs i' =some k/\i<=i' /\inn[i' - i]?=some (.s true o)
 | [],i,env,h=> .inl h
 | s::inn,i,env,h=>by
   rw [putI] at h
   rcases vQ6 h with h | ⟨i',h1,h2,h3⟩
   ·cases e:capO cs i with
    | none=>rw [e] at h;exact .inl h
    | some j=>
      rw [e] at h
      by_cases z:j=k
      ·subst z
       dsimp only at h
       rw [List.getElem?_set] at h
       simp only [if_true] at h
       split at h
       ·exact .inr ⟨i,e,aG _,by rw [Nat.sub_self];exact h⟩
       ·cases h
      ·dsimp only at h;rw [bE z] at h;exact .inl h
   ·exact .inr ⟨i',h1,by omega,by rw [show i' - i=(i' - (i + 1)) + 1 by omega,List.getElem?_cons_succ];exact h3⟩
section
variable {K:aQ} {c:Nat->aZ} {F H:Hp} {cs:List (Nat×Nat)}
theorem cap_in {env0:Ev} {σ:L2.St} (h2:(cs.map (·.2)).Nodup) (h3:∀e∈cs,e.2 < env0.length):∀ {n i:Nat} {env:Ev} {W:Fp},SlAt K c F H env σ W->(∀i' j,i<=i' ->capO cs i' =some j->env[j]?=env0[j]?)->
  ∃Wi R,SlAt K c F H (capS cs .un env0 i n) (capS cs none σ i n) Wi/\SlAt K c F H (yX cs i n env) σ R/\∀a,W a=Wi a + R a
 | 0,i,env,W,h,q=>⟨fun _=>0,W,⟨⟨rfl,h.tab⟩,fun _=>rfl⟩,h,fun a=>by(try dsimp only);omega⟩
 | n + 1,i,env,W,h,q=>by
   cases e:capO cs i with
   | none=>
     obtain⟨Wi,R,a1,a2,a3⟩:=cap_in h2 h3 (n:=n) (i:=i + 1) h fun i' j hi he=>q i' j (by omega) he
     refine⟨Wi,R,?_,?_,a3⟩
     ·rw [capS,capS,e]
      exact⟨none,_,fun _=>0,Wi,rfl,fun _=>rfl,a1,fun a=>by(try dsimp only);omega⟩
     ·rw [yX,e];exact a2
   | some j=>
     have hm:=qQc e
     have hj:j < env0.length:=h3 _ hm
     have e1:env[j]?=some env0[j]:=by rw [q i j (aG _) e];exact aF hj
     obtain⟨x,Z1,R1,k1,k2,k3,k4⟩:=h.focus e1
     have k5:=k4 F H .un x (fun _=>0) R1 (Same.refl _) (fun _ _=>rfl) (fun _=>rfl) fun a=>by(try dsimp only);omega
     rw [wI k1] at k5
     obtain⟨Wi,R,a1,a2,a3⟩:=cap_in h2 h3 (n:=n) (i:=i + 1) k5 fun i' j' hi he=>by
      have nj:j≠j' :=fun z=>by
       subst z
       have:=vQw h2 hm (qQc he)
       omega
      rw [bE nj]
      exact q i' j' (by omega) he
     refine⟨fun a=>Z1 a + Wi a,R,?_,?_,fun a=>by rw [k3,a3];(try dsimp only);omega⟩
     ·rw [capS,capS,e]
      refine⟨x,_,Z1,Wi,?_,?_,a1,fun _=>rfl⟩
      ·dsimp only
       rw [cW,k1]
       rfl
      ·dsimp only
       rw [cW,aF hj]
       exact k2
     ·rw [yX,e];exact a2
theorem cap_out {σ:L2.St}:∀ {inn:Ev} {σ2:L2.St} {i:Nat} {env:Ev} {R Wi:Fp},SlAt K c F H inn σ2 Wi->SlAt K c F H env σ R->(∀(k j:Nat),capO cs (i + k)=some j->k < inn.length->j < env.length/\σ2[k]?=σ[j]?)->(∀a,Wi a + R a<=1)->∃W,SlAt K c F H (putI cs i inn env) σ W/\∀a,W a<=Wi a + R a
 | [],σ2,i,env,R,Wi,h,k,q,_=>⟨R,k,fun a=>by omega⟩
 | s::inn,σ2,i,env,R,Wi,h,k,q,nd=>by
   obtain⟨x,r,Z1,Z2,rfl,b,cc,d⟩:=h
   cases e:capO cs i with
   | none=>
     obtain⟨W,h1,h2⟩:=cap_out (i:=i + 1) cc k (fun m j he hm=>by
      obtain⟨q1,q2⟩:=q (m + 1) j (by rw [show i + (m + 1)=i + 1 + m by omega];exact he) (by rw [aK];omega)
      exact⟨q1,by simpa using q2⟩) (fun a=>by have:=nd a;rw [d] at this;omega)
     refine⟨W,?_,fun a=>by have:=h2 a;rw [d];omega⟩
     rw [putI,e];exact h1
   | some j=>
     obtain⟨q1,q2⟩:=q 0 j (by rw [Nat.add_zero];exact e) (by rw [aK];omega)
     rw [eW] at q2
     obtain⟨y,Y1,R1,k1,k2,k3,k4⟩:=k.focus (aF q1)
     rw [←q2] at k1
     cases k1
     have k5:=k4 F H s x Z1 (fun a=>Z1 a + R1 a) (Same.refl _) (fun _ _=>rfl) b fun _=>rfl
     rw [wI q2.symm] at k5
     obtain⟨W,h1,h2⟩:=cap_out (i:=i + 1) cc k5 (fun m j' he hm=>by
      obtain⟨g1,g2⟩:=q (m + 1) j' (by rw [show i + (m + 1)=i + 1 + m by omega];exact he) (by rw [aK];omega)
      exact⟨by rw [dQ];exact g1,by simpa using g2⟩) (fun a=>by have:=nd a;rw [d,k3] at this;(try dsimp only);omega)
     refine⟨W,?_,fun a=>by have:=h2 a;(try dsimp only at this);rw [d,k3];omega⟩
     rw [putI,e];exact h1
theorem Cf.write {env:Ev} {σ:L2.St} {B W:Fp} {p:aZ} {ho:HO} (cf:Cf K c env σ H B W) (hp:B p≠0) (hb:Hb ho):Cf K c env σ (upd H p ho) B W:=by
 have hh:(hd2 B W) p≠0:=by dsimp only [hd2];omega
 have np:∀a,W a≠0->a≠p:=fun a z y=>by have:=cf.nd a;rw [y] at z this;omega
 refine⟨by rw [qZ9 hh];exact cf.at_.keep (Same.refl _) fun a z=>qU (np a z),cf.nd,fun a z=>?_⟩
 by_cases y:a=p
 ·subst y;exact⟨ho,upd_same,hb⟩
 ·rw [qU y];exact cf.hb a z
end
def compS (n:Nat) (cs:List (Nat×Nat)) (T:List Nat) (it:SI) (g:SG) (t:ST) (el:SV):SE:=fun env=>(it env).bind fun r=>cond (qYd cs T n r.2.length && decide (r.1.length<=lim))
 ((jM g t el r.1 (capS cs .un r.2 0 n)).bind fun q=> .ok (.ow .lst (q.1.map .fz),putI cs 0 q.2 (yX cs 0 n r.2))) .no
structure TDs (X:Cx) (c:Nat->aZ) (E:XK) (ifs:List Expr) (t:ST):Prop where
 h:PTs X ifs (tT X.K c E t)
def bTrue:ST:=fun env=> .ok (true,env)
theorem PTs.imp {X:Cx} {e:List Expr} {t t' :TT} (h:PTs X e t) (k:∀σ H Q,t' σ H Q->t σ H Q):PTs X e t' :=fun pins s σ H Q I q=>h pins s σ H Q I (k σ H Q q)
theorem qQh {X:Cx} {c:Nat->aZ} {E:XK}:TDs X c E [] bTrue:=by
 refine⟨PTs.imp vKm fun σ H Q=>?_⟩
 rintro⟨env,B,W,cf,w⟩
 exact w H W .refl cf
theorem qW0 {X:Cx} {c:Nat->aZ} {E:XK} {e:Expr} {t:ST} (h:TD X c E e t):TDs X c E [e] t:=⟨vKl h.h⟩
abbrev EN' :XK:=fun _ _ _=>False
set_option maxHeartbeats 1000000 in
theorem vXd {K:aQ} {c:Nat->aZ} {E:XK} {n:Nat} {cs:List (Nat×Nat)} {T:List Nat} {it:SI} {g:SG} {t:ST} {el:SV} {σ:L2.St} {H:Hp} {Q:VK} (h:tE K c E (compS n cs T it g t el) σ H Q):
  tComp (tIt K c E it) (tG K c T g) (tT K c EN' t) (tV K c EN' el) (fun σ=>capS cs none σ 0 n) σ H Q:=by
 obtain⟨env,B,W,cf,w⟩:=h
 refine⟨env,B,W,cf,wp_mono (fun r1 h1 J H1 W1 st1 cf1 iter p hp=>?_) (fun _ _ he=>he) (qW.mp w)⟩
 obtain⟨ds,e1⟩:=r1
 obtain⟨hck,h1⟩:=v4 h1
 rw [bD] at hck
 obtain⟨n1,n2,n3⟩:=(of_decide_eq_true hck.1:(cs.map (·.1)).Nodup/\(cs.map (·.2)).Nodup/\∀c∈cs,c.1 < n/\c.2 < e1.length/\c.1∉T)
 have hlim:ds.length<=lim:=of_decide_eq_true hck.2
 obtain⟨Wi,R,i1,i2,i3⟩:=cap_in n2 (fun e he=>(n3 e he).2.1) (n:=n) (i:=0) cf1.at_ (fun _ _ _ _=>rfl)
 have nd1:∀a,B a + (Wi a + R a)<=1:=fun a=>by have:=cf1.nd a;rw [i3] at this;exact this
 obtain⟨pB,pW⟩:=cf1.fresh hp
 have pWi:Wi p=0/\R p=0:=by have:=i3 p;omega
 have smp:Same H1 (upd H1 p (.lst [])):= .upd hp
 have cellp:∀a,a≠p->upd H1 p (.lst []) a=H1 a:=fun a z=>qU z
 let B0:Fp:=fun a=>B a + R a
 have hB0:∀a,B0 a=B a + R a:=fun _=>rfl
 have sm0:Same (hide (hd2 B W1) H1) (hide (hd2 (hd2 B0 (one p)) Wi) (upd H1 p (.lst []))):=zW fun a o z q=>by
  have ne:a≠p:=fun y=>by rw [y,hp] at q;cases q
  have:=j7 ne;have:=i3 a;have:=hB0 a
  dsimp only [hd2] at *
  exact⟨by omega,by rw [cellp a ne];exact q⟩
 have cfI:Cf K c (capS cs .un e1 0 n) (capS cs none σ 0 n) (upd H1 p (.lst [])) (hd2 B0 (one p)) Wi:=by
  refine⟨i1.keep sm0 fun a z=>cellp a fun y=>by rw [y] at z;omega,fun a=>?_,fun a z=>?_⟩
  ·have:=nd1 a;have:=hB0 a
   by_cases y:a=p
   ·subst y;dsimp only [hd2];rw [jV];omega
   ·dsimp only [hd2];rw [j7 y];omega
  ·by_cases y:a=p
   ·subst y;exact⟨_,upd_same,trivial⟩
   ·rw [cellp a y]
    exact cf1.hbs (by have:=i3 a;have:=hB0 a;dsimp only [hd2] at z;rw [j7 y] at z;omega)
 generalize hPost:(fun r:List D×Ev=>∀u H' W' Z,Got K c env σ H B W (putI cs 0 r.2 (yX cs 0 n e1)) H' W' Z (.ow .lst (r.1.map .fz)) u->Q u H')=Post
 let Inv:Nat->Nat->L2.St->List V->Hp->Prop:=fun i m σ2 ys H2=>m=ds.length - i/\i<=ds.length/\∃inn W2 out,Step (capS cs .un e1 0 n) (capS cs none σ 0 n) (upd H1 p (.lst [])) B0 (hd2 Wi (one p)) inn σ2 H2 (hd2 W2 (one p))/\Cf K c inn σ2 H2 (hd2 B0 (one p)) W2/\
  H2 p=some (.lst ys)/\DsAt K c (hide (hd2 (hd2 B0 (one p)) W2) H2) ys out/\ys.length<=i/\(∀e∈cs,σ2[e.1]?=(capS cs none σ 0 n)[e.1]?)/\(jM g t el (ds.drop i) inn).wp (fun q=>Post (out ++ q.1,q.2)) (fun _ _=>True)
 refine⟨Inv,⟨ds.length,by simp,cH _,_,Wi,[], .refl,cfI,upd_same, .nil,aG _,fun _ _=>rfl,?_⟩,?_⟩
 ·refine wp_mono (fun q hq=>?_) (fun _ _ _=>trivial) (qW.mp h1)
  subst hPost
  exact hq
 rintro i m σ2 ys H2 ⟨rfl,hi,inn,W2,out,st2,cf2,at2,dsO,hly,hσ,w2⟩
 refine⟨at2,qZv (by omega),?_⟩
 have eqI:hide (hd2 (hd2 B0 (one p)) Wi) (upd H1 p (.lst []))=hide (hd2 B0 (hd2 Wi (one p))) (upd H1 p (.lst [])):=vO fun a=>by dsimp only [hd2];omega
 have eq2:hide (hd2 (hd2 B0 (one p)) W2) H2=hide (hd2 B0 (hd2 W2 (one p))) H2:=vO fun a=>by dsimp only [hd2];omega
 have smI:Same (hide (hd2 B W1) H1) (hide (hd2 (hd2 B0 (one p)) W2) H2):=sm0.trans (by rw [eqI,eq2];exact st2.same)
 have p0:B0 p=0:=by rw [hB0];omega
 have pBp:(hd2 B0 (one p)) p≠0:=by dsimp only [hd2];rw [jV];omega
 obtain⟨it1,it2⟩:=iter i H2 (hd2 (hd2 B0 (one p)) W2) smI (fun a z=>cf2.hbs z)
 by_cases hlt:i < ds.length
 ·obtain⟨go,yl⟩:=it1 ds[i] (aF hlt)
  refine .inr ⟨go,fun x H3 y=>?_⟩
  obtain⟨sm3,hx⟩:=yl x H3 y
  rw [List.drop_eq_getElem_cons hlt] at w2
  obtain⟨e3,e2,w3⟩:=qB w2
  refine⟨inn,_,W2,ds[i],e3,cf2.grow sm3,hx,e2,fun σ4 W4 st4 cf4 kσ=>⟨e3,_,W4,cf4,wp_mono (fun r q H5 W5 st5 cf5=>?_) (fun _ _ he=>he) (zVn (E' :=erP K c EN' H3 (hd2 B0 (one p)) W4) (qW.mp w3))⟩⟩
  obtain⟨b,e5⟩:=r
  have st25:=((Step.grow cf2 sm3).trans st4).trans st5
  have at5:H5 p=some (.lst ys):=by rw [st25.by_ p pBp];exact at2
  have hσ4:∀e∈cs,σ4[e.1]?=(capS cs none σ 0 n)[e.1]?:=fun e he=>(kσ e.1 (n3 e he).2.2).trans (hσ e he)
  cases b with
  | false=>
    have l25:=st25.lift (B:=B0) (Z:=one p) (W' :=hd2 W2 (one p)) (Y' :=hd2 W5 (one p)) (fun _=>rfl) (fun _=>rfl) (fun _=>rfl)
    exact⟨ds.length - (i + 1),by omega,rfl,hlt,e5,W5,out,st2.trans l25,cf5,at5,dsO.same st25.same,by omega,hσ4,q⟩
  | true=>
    refine⟨e5,_,W5,cf5,wp_mono (fun r q u H6 W6 g6=>?_) (fun _ _ he=>he) (zVn (E' :=erP K c EN' H5 (hd2 B0 (one p)) W5) (qW.mp q))⟩
    obtain⟨v,e6⟩:=r
    have st26:=st25.trans g6.st
    have at6:H6 p=some (.lst ys):=by rw [st26.by_ p pBp];exact at2
    have l26:=st26.lift (B:=B0) (Z:=one p) (W' :=hd2 W2 (one p)) (Y' :=hd2 W6 (one p)) (fun _=>rfl) (fun _=>rfl) (fun _=>rfl)
    have hh6:(hd2 (hd2 B0 (one p)) W6) p≠0:=by dsimp only [hd2] at *;omega
    have hh7:(hd2 B0 (hd2 W6 (one p))) p≠0:=by dsimp only [hd2];rw [jV];omega
    have wr:Step e6 σ4 H6 B0 (hd2 W6 (one p)) e6 σ4 (upd H6 p (.lst (ys ++ [u]))) (hd2 W6 (one p)):=by
     refine⟨by rw [qZ9 hh7];exact Same.refl _,fun a z=>qU fun y=>by rw [y] at z;exact z p0,fun a z=> .inl z,fun a z=>?_,fun a _ _=>?_,fun _ o h=>⟨⟨o,h⟩,rfl⟩,rfl⟩
     ·by_cases y:a=p
      ·subst y;rw [upd_same] at z;cases z
      ·rw [qU y] at z;exact z
     ·by_cases y:a=p
      ·subst y;rw [at6];trivial
      ·exact .of (qU y)
    refine⟨at6,ds.length - (i + 1),by omega,rfl,hlt,e6,W6,out ++ [v],(st2.trans l26).trans wr,g6.cf.write pBp trivial,upd_same,?_,by rw [aP,List.length_singleton];omega,hσ4,?_⟩
    ·rw [qZ9 hh6]
     exact(dsO.same st26.same).append (.cons g6.at_ .nil)
    ·exact wp_mono (fun q hq=>by rw [cA];exact hq) (fun _ _ _=>trivial) (qW.mp q)
 ·have hi2:i=ds.length:=by omega
  subst hi2
  refine .inl ⟨it2 rfl,?_⟩
  rw [List.drop_length] at w2
  have w3:Post (out ++ [],inn):=w2
  rw [bR,←hPost] at w3
  have nd2:∀a,B a + R a + one p a + W2 a<=1:=fun a=>by have:=cf2.nd a;have:=hB0 a;dsimp only [hd2] at *;omega
  have cellR:∀a,R a≠0->H2 a=H1 a:=fun a z=>by
   rw [st2.by_ a (by rw [hB0];omega)]
   exact cellp a fun y=>by rw [y] at z;omega
  have linn:inn.length=n:=by rw [st2.len,qJc]
  obtain⟨W3,o1,o2⟩:=cap_out (cs:=cs) (i:=0) cf2.at_ (i2.keep smI cellR) (fun k j he hk=>by
   rw [Nat.zero_add] at he
   have hm:=qQc he
   obtain⟨m1,m2,_⟩:=n3 _ hm
   refine⟨by rw [qVq];exact m2,?_⟩
   rw [hσ _ hm]
   show(capS cs none σ 0 n)[k]?=σ[j]?
   have hj:j < σ.length:=by rw [←cf1.len];exact m2
   rw [qVe n 0 k m1,Nat.zero_add,he]
   dsimp only
   rw [cW,aF hj]
   rfl) (fun a=>by have:=nd2 a;omega)
  have smE:Same (hide (hd2 (hd2 B0 (one p)) W2) H2) (hide (hd2 (hd2 B (one p)) W3) H2):=zX fun a z=>by have:=o2 a;have:=hB0 a;dsimp only [hd2] at *;omega
  have eqE:hide (hd2 (hd2 B (one p)) W3) H2=hide (hd2 B (hd2 W3 (one p))) H2:=vO fun a=>by dsimp only [hd2];omega
  refine w3 (.ref p) H2 W3 (one p) ⟨st1.trans ⟨by rw [←eqE];exact smI.trans smE,fun a z=>?_,fun a z=>?_,fun a z=>?_,fun a z1 z2=>?_,fun k o h=>⟨?_,rfl⟩,by rw [qYj,qVq]⟩,⟨o1.keep smE fun _ _=>rfl,fun a=>?_,fun a z=>?_⟩,OAt.ow.mpr ⟨p,ys,fun _=>0,rfl,at2,OsAt.fzs.mpr ⟨dsO.same smE,fun _=>rfl⟩,fun _=>rfl⟩⟩
  ·rw [st2.by_ a (by rw [hB0];omega)]
   exact cellp a fun y=>by rw [y] at z;omega
  ·by_cases y:a=p
   ·exact .inr (by rw [y];exact hp)
   ·have y1:=j7 y
    have:=o2 a
    by_cases q:R a=0
    ·rcases st2.new a (by dsimp only [hd2] at *;omega) with q1 | q1
     ·exact .inl (by rw [i3];dsimp only [hd2] at q1;omega)
     ·exact .inr (by rw [cellp a y] at q1;exact q1)
    ·exact .inl (by rw [i3];omega)
  ·have:=st2.dom a z
   by_cases y:a=p
   ·subst y;rw [upd_same] at this;cases this
   ·rw [cellp a y] at this;exact this
  ·have y:a≠p:=fun y=>by rw [y] at z1;exact z1 pW
   have y1:=j7 y
   by_cases q:R a=0
   ·have:=st2.pin a (by have:=i3 a;dsimp only [hd2];omega) (by have:=o2 a;dsimp only [hd2] at *;omega)
    rw [cellp a y] at this
    exact this
   ·exact .of (cellR a q)
  ·rcases vQ6 h with h | ⟨i',k1,_,k3⟩
   ·exact⟨o,qYg h⟩
   ·rw [Nat.sub_zero] at k3
    obtain⟨⟨o0,k4⟩,_⟩:=st2.io i' o k3
    have hi' :i' < n:=by rw [←linn];exact(aT.mp k3).1
    rw [qVe n 0 i' hi',Nat.zero_add,k1] at k4
    have k5:=Option.some.inj k4
    dsimp only at k5
    rw [cW] at k5
    cases e:e1[k]? with
    | none=>rw [e] at k5;cases k5
    | some s=>rw [e] at k5;exact⟨o0,by rw [←k5];rfl⟩
  ·have:=nd2 a;have:=o2 a;dsimp only [hd2];omega
  ·exact cf2.hb a (by have:=hB0 a;dsimp only [hd2] at *;omega)
def CapP (X:Cx) (ns:List (Str×NameKind)) (Nc:List Str):List (Nat×Nat)->Prop
 | []=>True
 | c::r=>(∃x,Nc[c.1]?=some x/\X.N[c.2]?=some x/\ns.lookup x=some .cell/\X.env.kindOf x=some .cell)/\CapP X ns Nc r
def vJx (X:Cx):List (Str×aZ)->Prop
 | []=>True
 | p::r=>X.env.cells.lookup p.1=some p.2/\vJx X r
theorem qYz {X:Cx} {ns:List (Str×NameKind)} {Nc:List Str}:∀ {cs:List (Nat×Nat)} {c:Nat×Nat},CapP X ns Nc cs->c∈cs->∃x,Nc[c.1]?=some x/\X.N[c.2]?=some x/\ns.lookup x=some .cell/\X.env.kindOf x=some .cell
 | d::r,c,h,m=>by
   rcases aB.mp m with rfl | m
   ·exact h.1
   ·exact qYz h.2 m
theorem qWi {X:Cx}:∀ {cl:List (Str×aZ)} {x:Str} {c:aZ},vJx X cl->cl.lookup x=some c->X.env.cells.lookup x=some c
 | [],x,c,_,e=>by cases e
 | p::r,x,c,h,e=>by
   rw [bC] at e
   split at e
   ·rename_i q
    have q' :x=p.1:=by simpa using q
    cases e
    rw [q']
    exact h.1
   ·exact qWi h.2 e
theorem qQt {α:Type}:∀ {cl:List (Str×α)} {x:Str},x∈cl.map (·.1)->∃c,cl.lookup x=some c
 | p::r,x,h=>by
   rw [bC]
   split
   ·exact⟨_,rfl⟩
   ·rename_i q
    rw [aC] at h
    rcases aB.mp h with z | z
    ·subst z
     simp at q
    ·exact qQt z
theorem qJ4 {X:Cx} {scope:Scope} {Nc:List Str} {cl:List (Str×aZ)} (cs:List (Nat×Nat)) (ns:List (Str×NameKind)) (xs:List Str) (hrel:(relabel scope X.env).names=ns) (hclos:closureFor scope X.env=pure cl) (hxs:cl.map (·.1)=xs) (hk:scope.kind= .function)
  (hnc:∀y∈scope.names,y.2≠ .cell) (hnm:∀y∈scope.names,y.2= .local->scope.names.lookup y.1=some .local) (hcell:vJx X cl) (honly:∀y∈ns,y.2= .cell\/y.2= .free->y.1∈xs) (hcap:CapP X ns Nc cs):
  Caps X scope cl Nc (fun σ=>capS cs none σ 0 Nc.length) where
 clos:=hclos
 kind:=hk
 nocell:=hnc
 names:=hnm
 cells:=fun y d e=>qWi hcell e
 has:=fun y h=>by
  rw [hrel] at h
  refine qQt ?_
  rw [hxs]
  rcases h with h | h
  ·exact honly _ (cV h) (.inl rfl)
  ·exact honly _ (cV h) (.inr rfl)
 len:=fun σ=>qJc _ _
 cap:=fun σ k y v e1 e2 _=>by
  have hk:k < Nc.length:=(aT.mp e1).1
  rw [qVe _ 0 k hk,Nat.zero_add] at e2
  cases q:capO cs k with
  | none=>rw [q] at e2;cases e2
  | some j=>
    rw [q] at e2
    obtain⟨x,h1,h2,h3,h4⟩:=qYz hcap (qQc q)
    dsimp only at h1 h2
    rw [e1] at h1
    cases h1
    exact⟨.inl (by rw [hrel];exact h3), .inl h4,j,h2,vV6 (Option.some.inj e2), .inr (.inl h4)⟩
theorem qKq {X:Cx} {scope:Scope} {Nc:List Str} (hk:scope.kind= .function) (hfree:∀x∈scope.names,x.2≠ .free) (hcell:∀x∈scope.names,x.2≠ .cell) (hnames:∀y∈scope.names,y.2= .local->scope.names.lookup y.1=some .local):
  Caps X scope [] Nc (fun σ=>capS [] none σ 0 Nc.length):=by
 have e:(fun σ:L2.St=>capS [] none σ 0 Nc.length)=(fun _=>List.replicate Nc.length none):=by
  funext σ
  have:∀n i,capS [] (none:Option V) σ i n=List.replicate n none:=fun n=>by
   induction n with
   | zero=>intro i;rfl
   | succ n ih=>intro i;rw [capS,ih,List.replicate_succ];rfl
  exact this _ _
 rw [e]
 exact zYl hk hfree hcell hnames
section
variable {X:Cx} {c:Nat->aZ} {E:XK} {tg iter elt:Expr} {ifs:List Expr} {scope:Scope} {cl:List (Str×aZ)} {Nc:List Str} {cs:List (Nat×Nat)} {T:List Nat} {pos:Pos} {it:SI} {g:SG} {t:ST} {el:SV}
theorem xJ (hc:X.calm=true) (cp:Caps X scope cl Nc (fun σ=>capS cs none σ 0 Nc.length)) (hi:ID' X c E tg iter it)
  (hg:∀C s H fp,GD (cCx X scope cl C Nc s H fp) c tg T g) (ht:∀C s H fp,TDs (cCx X scope cl C Nc s H fp) c EN' ifs t) (he:∀C s H fp,EV (cCx X scope cl C Nc s H fp) c EN' elt el)
  (hs:∀x,foldedSetIterable iter X.env x=pure x:=by intro _;rfl):ED X c E (.ListComp elt [⟨tg,iter,ifs,0⟩] scope pos) (compS Nc.length cs T it g t el):=
 ⟨PE.imp (vK7 hc cp hi.h (fun C s H fp=>(hg C s H fp).h) (fun C s H fp=>(ht C s H fp).h) (fun C s H fp=>(he C s H fp).h) hs) fun _ _ _ h=>vXd h⟩
end
def evI:Option SV->Ev->Res (Option Int×Ev)
 | none,env=> .ok (none,env)
 | some s,env=>(s env).bind fun r=>(opt (xB r.1)).bind fun i=> .ok (some i,r.2)
def tI (K:aQ) (c:Nat->aZ) (E:XK) (s:Option SV):TO:=fun σ H Q=>∃env B W,Cf K c env σ H B W/\(evI s env).wp (fun r=>∀H' W',Step env σ H B W r.2 σ H' W' ->Cf K c r.2 σ H' B W' ->Q r.1 H') (erP K c E H B W)
structure PD (X:Cx) (c:Nat->aZ) (E:XK) (e:Option Expr) (s:Option SV):Prop where
 h:PO X e (tI X.K c E s)
theorem PO.imp {X:Cx} {e:Option Expr} {t t' :TO} (h:PO X e t) (k:∀σ H Q,t' σ H Q->t σ H Q):PO X e t' :=fun pins s σ H Q I q=>h pins s σ H Q I (k σ H Q q)
theorem zQc {X:Cx} {c:Nat->aZ} {E:XK}:PD X c E none none:=by
 refine⟨PO.imp vKz fun σ H Q=>?_⟩
 rintro⟨env,B,W,cf,w⟩
 exact w H W .refl cf
theorem zQb {X:Cx} {c:Nat->aZ} {E:XK} {e:Expr} {s:SV} (h:EV X c E e s):PD X c E (some e) (some s):=by
 refine⟨PO.imp (vKy h.h) fun σ H Q=>?_⟩
 rintro⟨env,B,W,cf,w⟩
 refine⟨env,B,W,cf,wp_mono (fun r1 h1 u H1 W1 g=>?_) (fun _ _ he=>he) (qW.mp w)⟩
 obtain⟨i,e1,h2⟩:=qB h1
 exact⟨i,zJ g.at_ e1,h2 H1 W1 g.st g.cf⟩
def cutL {α:Type} (xs:List α) (lo hi:Option Int):List α:=(xs.drop (HT.sIx xs.length 0 lo)).take (HT.sIx xs.length xs.length hi - HT.sIx xs.length 0 lo)
theorem zWy {K:aQ} {c:Nat->aZ} {F:Hp} {vs:List V} {ds:List D} {lo hi:Option Int} (h:DsAt K c F vs ds):DsAt K c F (cutV vs lo hi) (cutL ds lo hi):=by
 unfold cutV cutL
 rw [h.len]
 exact(h.drop _).take _
def eSlL (o:Oe) (lo hi:Option SV):SE:=fun env=>(evO o env).bind fun r=>(evI lo r.2).bind fun r1=>(evI hi r1.2).bind fun r2=>cond r.1.st ((rsvB r2.2 r.1).bind fun x=>(opt (qQn x.1)).bind fun ds=> .ok (.ow .lst ((cutL ds r1.1 r2.1).map .fz),x.2)) .no
section
variable {X:Cx} {c:Nat->aZ} {E:XK} {e:Expr} {lo hi:Option Expr} {pos p2:Pos} {o:Oe} {sl sh:Option SV}
theorem Vw.lst {K:aQ} {F H:Hp} {u:V} {x:D} {ds:List D} (s:Same F H) (h:Vw K c F H u x) (e:qQn x=some ds):∃p vs,u= .ref p/\SqL K H p vs/\DsAt K c F vs ds:=by
 unfold qQn at e
 split at e
 ·cases e;exact h.un s
 ·cases e
theorem vYo (he:OD X c E e o) (hl:PD X c E lo sl) (hu:PD X c E hi sh):ED X c E (.Subscript e (.Slice lo hi none p2) pos) (eSlL o sl sh):=by
 refine⟨PE.imp (vXy vKa he.h hl.h hu.h) fun σ H Q=>?_⟩
 rintro⟨env,B,W,cf,w⟩
 refine yY cf (qW.mp w) fun r w1 u H1 W1 g=>?_
 refine⟨r.2,B,W1,g.cf,wp_mono (fun r2 h2 H2 W2 st2 cf2=>?_) (fun _ _ he=>he.back g.st) (qW.mp w1)⟩
 refine⟨r2.2,B,W2,cf2,wp_mono (fun r3 h3 H3 W3 st3 cf3=>?_) (fun _ _ he=>he.back (g.st.trans st2)) (qW.mp h2)⟩
 obtain⟨hs,w4⟩:=v4 h3
 have ha:=(g.at_.step st2.same hs).step st3.same hs
 obtain⟨x,env4,W4,st4,cf4,vw,w5⟩:=vQ4 cf3 ha (qW.mp w4)
 obtain⟨ds,e1,w6⟩:=qB w5
 obtain⟨p,vs,rfl,b1,b2⟩:=vw.lst qG e1
 refine⟨p,vs,rfl,b1,fun q hq=>?_⟩
 have sm:Same H3 (upd H3 q (.lst (cutV vs r2.1 r3.1))):= .upd hq
 exact w6 (.ref q) _ W4 _ ((Got.lay cf4 hq sm (k:= .lst) upd_same ((zWy b2).same (qZ7 cf4 hq sm))).back (((g.st.trans st2).trans st3).trans st4))
end
section
variable {K:aQ} {c:Nat->aZ}
def lenD:List D->Option D
 | [.nd .lst ds]=>some (.int ds.length)
 | [.nd .tup ds]=>some (.int ds.length)
 | [.nd (.dct ks) _]=>some (.int ks.length)
 | [.str z]=>cond (decide (z.length<=bX)) (some (.int z.length)) none
 | _=>none
def rLen (K:aQ):List V->Hp->VK->Prop:=fun xs H Q=>(∃p ys,xs=[.ref p]/\(SqL K H p ys\/SqT K H p ys)/\Q (.int ys.length) H)\/(∃z,xs=[.str z]/\z.length<=bX/\Q (.int z.length) H)\/(∃p ws,xs=[.ref p]/\H p=some (.dK ws)/\Q (.int (ws.length:Nat)) H)
theorem qWj {X:Cx}:zZ X (.builtin "len") (fun xs H Q=>∃p ws,xs=[.ref p]/\H p=some (.dK ws)/\Q (.int (ws.length:Nat)) H):=by
 intro pins s σ H xs us Q I r h
 obtain⟨p,ws,rfl,hp,q⟩:=h
 obtain⟨u,rfl,ru⟩:=jI r
 cases ru
 exact zYh I (.inl hp) fun t s' I' =>⟨.int ws.length,H,I',⟨_,rfl⟩,q⟩
theorem vJc {X:Cx}:zZ X (.builtin "len") (rLen X.K):=qX1.or (qX0.or qWj)
theorem zJf:PrSN K c (rLen K) lenD:=fun us H xs z Q hv e q=>by
 unfold lenD at e
 split at e
 ·cases e
  obtain⟨u,rfl,a⟩:=ds1 hv
  obtain⟨p,vs,rfl,h1,h2⟩:=a.un
  exact .inl ⟨p,vs,rfl, .inl h1,by rw [h2.len];exact q _ fun _=> .int _⟩
 ·cases e
  obtain⟨u,rfl,a⟩:=ds1 hv
  obtain⟨p,vs,rfl,h1,h2⟩:=a.un
  exact .inl ⟨p,vs,rfl, .inr h1,by rw [h2.len];exact q _ fun _=> .int _⟩
 ·cases e
  obtain⟨u,rfl,a⟩:=ds1 hv
  obtain⟨p,vs,rfl,⟨h1,h2,h3⟩,h4⟩:=a.un
  refine .inr (.inr ⟨p,_,rfl,h3,?_⟩)
  rw [List.length_zip,←h1,Nat.min_self]
  exact q _ fun _=> .int _
 ·rename_i z'
  obtain⟨q1,q2⟩:=vE e
  cases q2
  obtain⟨u,rfl,a⟩:=ds1 hv
  cases a
  exact .inr (.inl ⟨z',rfl,of_decide_eq_true q1,q _ fun _=> .int _⟩)
 ·cases e
def qZy:List D->Option (List Int)
 | []=>some []
 | d::r=>(xB d).bind fun i=>(qZy r).bind fun xs=>some (i::xs)
theorem zC:∀xs:List Int,qZy (xs.map D.int)=some xs
 | []=>rfl
 | x::xs=>by rw [aC,qZy,zC xs];rfl
theorem qVt {F:Hp}:∀ {vs:List V} {ds:List D} {ns:List Int},DsAt K c F vs ds->qZy ds=some ns->vs=ns.map V.int
 | vs,[],ns,h,e=>by cases e;rw [h.un0];rfl
 | vs,d::ds,ns,h,e=>by
   obtain⟨v,r,rfl,a,b⟩:=h.un
   obtain⟨i,e1,e2⟩:=bnd e
   obtain⟨xs,e3,e4⟩:=bnd e2
   cases e4
   rw [aC,←qVt b e3,zJ a e1]
def wB:List D->Option (List Int)
 | [.nd .lst ds]=>qZy ds
 | _=>none
theorem vYg {H:Hp} {us:List V} {xs:List D} {ns:List Int} (hv:DsAt K c H us xs) (e:wB xs=some ns):∃p,us=[.ref p]/\SqL K H p (ns.map V.int):=by
 unfold wB at e
 split at e
 ·obtain⟨u,rfl,a⟩:=ds1 hv
  obtain⟨p,vs,rfl,h1,h2⟩:=a.un
  have h1' :SqL K H p vs:=h1
  rw [qVt h2 e] at h1'
  exact⟨p,rfl,h1'⟩
 ·cases e
def sumD (xs:List D):Option D:=(wB xs).bind fun ns=>some (.int ns.sum)
theorem zJe:PrSN K c (fun xs H Q=>∃(p:aZ) (ns:List Int),xs=[.ref p]/\SqL K H p (ns.map V.int)/\Q (.int ns.sum) H) sumD:=fun us H xs z Q hv e q=>by
 obtain⟨ns,e1,e2⟩:=bnd e
 cases e2
 obtain⟨p,rfl,h⟩:=vYg hv e1
 exact⟨p,ns,rfl,h,q _ fun _=> .int _⟩
def min2D:List D->Option D
 | [.int i, .int j]=>some (.int (if j < i then j else i))
 | _=>none
theorem vKv:PrSN K c (fun xs H Q=>∃i j,xs=[.int i, .int j]/\Q (.int (if j < i then j else i)) H) min2D:=fun us H xs z Q hv e q=>by
 unfold min2D at e
 split at e
 ·cases e
  obtain⟨u,w,rfl,a,b⟩:=ds2 hv
  cases a
  cases b
  exact⟨_,_,rfl,q _ fun _=> .int _⟩
 ·cases e
def listD:List D->Option (List D)
 | [d]=>qVv d
 | _=>none
theorem vws1 {F H:Hp} {us:List V} {x:D} (h:Vws K c F H us [x]):∃u,us=[u]/\Vw K c F H u x:=by
 cases us with
 | nil=>exact h.elim
 | cons u us=>
   cases us with
   | nil=>exact⟨u,rfl,h.1⟩
   | cons _ _=>exact h.2.elim
theorem Vw.seq {F H:Hp} {u:V} {d:D} {ds:List D} (s:Same F H) (h:Vw K c F H u d) (e:qVv d=some ds):∃p vs,u= .ref p/\(SqL K H p vs\/SqT K H p vs)/\DsAt K c F vs ds:=by
 unfold qVv at e
 split at e
 ·cases e;obtain⟨p,vs,a,b,r⟩:=h.un s;exact⟨p,vs,a, .inl b,r⟩
 ·cases e;obtain⟨p,vs,a,b,r⟩:=h.un s;exact⟨p,vs,a, .inr b,r⟩
 ·cases e
theorem vZs {T:Fp} {H H' :Hp} {p:aZ} (hn:H p=none) (sm:Same H H'):Same (hide T H) (hide (hd2 T (one p)) H'):=zW fun a o z q=>⟨by
 have np:a≠p:=fun z=>by rw [z,hn] at q;cases q
 have:=j7 np;dsimp only [hd2];omega,sm a o q⟩
theorem vKw:PrF K c (fun xs H Q=>∃p ys,xs=[.ref p]/\(SqL K H p ys\/SqT K H p ys)/\∀l,H l=none->Q (.ref l) (upd H l (.lst ys))) listD:=fun us H T xs ds Q hb hv e q=>by
 unfold listD at e
 split at e
 ·obtain⟨u,rfl,v⟩:=vws1 hv
  obtain⟨p,vs,rfl,h1,h2⟩:=v.seq qG e
  exact⟨p,vs,rfl,h1,fun l hl=>q l vs _ hl (.upd hl) upd_same (h2.same (vZs hl (.upd hl)))⟩
 ·cases e
end
def zXg (K:aQ):R2:=fun x y H Q=>∃l b xs zs,x= .ref l/\y= .ref b/\SqL K H l xs/\SqL K H b zs/\xs.length + zs.length<=bX/\∀p,H p=none->Q (.ref p) (upd H p (.lst (xs ++ zs)))
theorem zQf {X:Cx}:OpR X (binaryOp .Add) (zXg X.K):=by
 intro pins s σ H x y v u Q I rx ry h
 obtain⟨l,b,xs,zs,rfl,rfl,hH,hB,hz,q⟩:=h
 cases rx
 cases ry
 obtain⟨its,r,pl,_⟩:=I.list hH
 obtain⟨its2,r2,pl2,_⟩:=I.list hB
 obtain⟨⟨cls,dd,data,sl⟩,n,ho,hc,_,hd⟩:=pl
 obtain⟨⟨cls2,dd2,data2,sl2⟩,n2,ho2,hc2,_,hd2⟩:=pl2
 simp only at hc hd hc2 hd2
 subst hc hd hc2 hd2
 have hl:=r.length
 have hl2:=r2.length
 refine concat_meets ⟨_,ho,rfl⟩ ⟨_,ho2,rfl⟩ noFill_list_add seq_list_add PySem.F.slot_list_add PySem.F.entry_list_add (PySem.F.args_list_add_2 _ _) (list_addW l b its.toArray its2.toArray n n2 dd dd2 sl sl2 (by simp only [bQ];omega)) ⟨ho,ho2,?_⟩
 have ea:its.toArray ++ its2.toArray=(its ++ its2).toArray:=by simp
 rw [ea]
 exact⟨.ref _,_,I.lnew (t' :=s.toks) (r.append r2) (by rw [aP];omega),rfl,q _ I.fresh⟩
def eCat (a b:Oe):SE:=fun env=>(evO a env).bind fun r1=>(evO b r1.2).bind fun r2=>cond (r1.1.st || b.isP) ((qQm [r1.1,r2.1] r2.2).bind fun q=>match q.1 with
 | [x,y]=>(opt (qQn x)).bind fun ds=>(opt (qQn y)).bind fun es=>cond (decide (ds.length + es.length<=lim)) (.ok (.ow .lst ((ds ++ es).map .fz),q.2)) .no
 | _=> .no) .no
theorem qVo {X:Cx} {c:Nat->aZ} {E:XK} {a b:Expr} {pos:Pos} {oa ob:Oe} (ha:OD X c E a oa) (hb:OD X c E b ob):ED X c E (.BinOp a .Add b pos) (eCat oa ob):=by
 refine⟨PE.imp (zV1 zQf ha.h hb.h) fun σ H Q=>?_⟩
 rintro⟨env,B,W,cf,w⟩
 refine yY cf (qW.mp w) fun r1 w1 u H1 W1 g1=>?_
 refine yY g1.cf (wp_mono (fun _ q=>q) (fun C fs he=>he.back g1.st) (qW.mp w1)) fun r2 w2 v H2 W2 g2=>?_
 obtain⟨hs,w3⟩:=v4 w2
 obtain⟨xs,env4,W4,st4,cf4,vw,w4⟩:=rsvBs_wp (hs:=[r1.1,r2.1]) (us:=[u,v]) g2.cf ⟨g1.next g2 hs,g2.at_,trivial⟩ (qW.mp w3)
 obtain⟨x,xs,rfl⟩:∃x r,xs=x::r:=by cases xs with
  | nil=>exact vw.elim
  | cons x r=>exact⟨x,r,rfl⟩
 obtain⟨y,rfl,v2⟩:∃y,xs=[y]/\Vw X.K c (hide (hd2 B W4) H2) H2 v y:=by
  cases xs with
  | nil=>exact vw.2.elim
  | cons y r=>cases r with
    | nil=>exact⟨y,rfl,vw.2.1⟩
    | cons _ _=>exact vw.2.2.elim
 obtain⟨ds,e1,w5⟩:=qB w4
 obtain⟨es,e2,w6⟩:=qB w5
 obtain⟨hl,w7⟩:=v4 w6
 obtain⟨p,vs,rfl,b1,b2⟩:=vw.1.lst qG e1
 obtain⟨q,ws,rfl,d1,d2⟩:=v2.lst qG e2
 refine⟨p,q,vs,ws,rfl,rfl,b1,d1,by have:=qZv (of_decide_eq_true hl);rw [b2.len,d2.len];omega,fun l hq=>?_⟩
 have sm:Same H2 (upd H2 l (.lst (vs ++ ws))):= .upd hq
 exact w7 (.ref l) _ W4 _ ((Got.lay cf4 hq sm (k:= .lst) upd_same ((b2.append d2).same (qZ7 cf4 hq sm))).back ((g1.st.trans g2.st).trans st4))
def tyN:D->String
 | .non=>"NoneType"
 | .int _=>"int"
 | .str _=>"str"
 | .bl _=>"bool"
 | .nd .lst _=>"list"
 | .nd .tup _=>"tuple"
 | .nd (.dct _) _=>"dict"
 | _=>""
def isiB (t n:String):Bool:=(t == n) || (t == "bool" && n == "int")
theorem zQo {K:aQ} {t n:String} {b:Bool} (h:PySem.W.kitMeta n=true) (e:(fastBuiltinMro t).map (·.contains (.type n))=some b) (hne:(Value.type t == Value.type n)=false):cE K (.type t) (.type n)=some b:=by
 unfold cE
 rw [hne]
 show PySem.W.kitCls K (.type t) (.type n)=some b
 show(if PySem.W.kitMeta n=true then PySem.W.subIn K (.type t) (.type n) else none)=some b
 rw [if_pos h]
 exact e
theorem vYc {K:aQ} {t:String}:cE K (.type t) (.type t)=some true:=by
 unfold cE
 rw [show(Value.type t == Value.type t)=true from beq_self_eq_true _]
 rfl
abbrev tys:List String:=["NoneType","int","str","tuple","bool","list","dict"]
theorem zQp {K:aQ}:∀t∈tys,∀n∈(["int","str","tuple","bool","list","dict"]:List String),cE K (.type t) (.type n)=some (isiB t n):=by
 have go:∀t∈tys,∀n∈(["int","str","tuple","bool","list","dict"]:List String),t=n\/(PySem.W.kitMeta n=true/\(fastBuiltinMro t).map (·.contains (.type n))=some (isiB t n)/\(Value.type t == Value.type n)=false):=by
  decide +kernel
 intro t ht n hn
 rcases go t ht n hn with rfl | ⟨h1,h2,h3⟩
 ·rw [vYc,show isiB t t=true by simp [isiB]]
 ·exact zQo h1 h2 h3
theorem vJe {X:Cx}:zZ X (.builtin "isinstance") (fun xs H Q=>∃a vs n b,xs=[.ref a, .ty n]/\SqL X.K H a vs/\cE X.K (.type "list") (.type n)=some b/\Q (.bl b) H):=by
 intro pins s σ H xs us Q I r h
 obtain⟨a,vs,n,b,rfl,ht,e,q⟩:=h
 obtain⟨u,w',rfl,r1,r2⟩:=vQf r
 cases(show u=Value.ref a from r1)
 cases(show w' =Value.type n from r2)
 obtain⟨its,_,⟨o,n',h1,h2,_⟩,_⟩:=I.list ht
 exact cD PySem.W.kitx_list I.kIn ⟨o,h1,h2⟩ e (fun z=>nomatch z) fun tk=>⟨.bl b,H,I.tok tk,rfl,q⟩
def vJk (K:aQ):List V->Hp->VK->Prop:=fun xs H Q=>rIsi K xs H Q\/(∃a vs n b,xs=[.ref a, .ty n]/\SqT K H a vs/\cE K (.type "tuple") (.type n)=some b/\Q (.bl b) H)\/(∃a vs n b,xs=[.ref a, .ty n]/\SqL K H a vs/\cE K (.type "list") (.type n)=some b/\Q (.bl b) H)
theorem qKb {X:Cx}:zZ X (.builtin "isinstance") (vJk X.K):=vYx.or (vJd.or vJe)
def isiD (n:String) (d:D):Option D:=cond (tyN d != "") (some (.bl (isiB (tyN d) n))) none
theorem zWl {K:aQ} {c:Nat->aZ} {u:V} {d z:D} {n:String} {H:Hp} {Q:VK} (hn:n∈(["int","str","tuple","bool","list","dict"]:List String)) (h:DAt K c H u d) (e:isiD n d=some z) (q:∀v,(∀F,DAt K c F v z)->Q v H):vJk K [u, .ty n] H Q:=by
 obtain⟨q1,q2⟩:=vE e
 cases q2
 have fin:Q (.bl (isiB (tyN d) n)) H:=q _ fun _=> .bl _
 have k:tyN d∈tys->cE K (.type (tyN d)) (.type n)=some (isiB (tyN d) n):=fun hm=>zQp (tyN d) hm n hn
 cases h with
 | non=>exact .inl ⟨_,_,_,_,rfl, .non,k (by simp [tyN]),fin⟩
 | int i=>exact .inl ⟨_,_,_,_,rfl, .int i,k (by simp [tyN]),fin⟩
 | str i=>exact .inl ⟨_,_,_,_,rfl, .str i,k (by simp [tyN]),fin⟩
 | bl i=>exact .inl ⟨_,_,_,_,rfl, .bl i,k (by simp [tyN]),fin⟩
 | fn j=>simp [tyN] at q1
 | @nd p kd vs ds h l r=>
   cases kd with
   | lst=>exact .inr (.inr ⟨p,vs,n,_,rfl,h,k (by simp [tyN]),fin⟩)
   | tup=>exact .inr (.inl ⟨p,vs,n,_,rfl,h,k (by simp [tyN]),fin⟩)
   | dct ks=>exact .inl ⟨_,_,_,_,rfl, .dK h.2.2,k (by simp [tyN]),fin⟩
   | dcT ks=>simp [tyN] at q1
   | obj C fs=>simp [tyN] at q1
   | exc C fs=>simp [tyN] at q1
theorem qZq {X:Cx} {c:Nat->aZ} {E:XK} {e:Expr} {n:String} {x y:Str} {p q pos:Pos} {o:Oe} (hn:n∈(["int","str","tuple","bool","list","dict"]:List String)) (hg:Gl X x) (hm:X.mg x=none) (hv:cO x=some (.builtin "isinstance"))
  (hg2:Gl X y) (hm2:X.mg y=none) (hv2:cO y=some (.type n)) (ha:OD X c E e o) (hx:x≠"__name__":=by decide) (hdb:(x == ("__debug__":Str))=false:=by decide) (hy:y≠"__name__":=by decide) (hdy:(y == ("__debug__":Str))=false:=by decide)
  (he:aU [e, .Name y q] X.env=(false,eval e X.env)::aU [.Name y q] X.env:=by rfl) (hs2:aU [.Name y q] X.env=(false,eval (.Name y q) X.env)::aU [] X.env:=by rfl) (hpl:(cM pos (aU [.Name y q] X.env)).any (·.1)=false:=by rfl):
  OD X c E (.Call (.Name x p) [e, .Name y q] [] pos) (o1 (isiD n) o):=by
 refine⟨PE.imp (yR qKb hg hm hv (jR ha.h (jR (zQa hg2 hm2 hv2 (v:= .ty n) rfl hy hdy) xI hs2) he) hx hdb he hpl) fun σ H Q h=>?_⟩
 exact zVt (K:=X.K) (r:=fun u H Q=>vJk X.K [u, .ty n] H Q) (fun u H x z Q hx e q=>zWl hn hx e q) h
section
variable {X:Cx} {c:Nat->aZ} {E:XK} {e e2:Expr} {pos p:Pos} {o oa:Oe}
theorem wG (hg:Gl X "len") (hm:X.mg "len"=none) (ha:OD X c E e o) (he:aU [e] X.env=[(false,eval e X.env)]:=by rfl) (h0:aU [] X.env=[]:=by rfl):OD X c E (.Call (.Name "len" p) [e] [] pos) (oL lenD [o]):=
 qZ5 vJc zJf hg hm Boot.«len» (qD ha vV (by rw [he,h0])) (by decide) (by decide) (by rw [he,h0]) (by rw [h0];rfl)
theorem zXu (hc:X.calm=true) (hg:Gl X "sum") (hm:X.mg "sum"=none) (ha:OD X c E e o) (he:aU [e] X.env=[(false,eval e X.env)]:=by rfl) (h0:aU [] X.env=[]:=by rfl):OD X c E (.Call (.Name "sum" p) [e] [] pos) (oL sumD [o]):=
 qZ5 (vYw hc) zJe hg hm Boot.«sum» (qD ha vV (by rw [he,h0])) (by decide) (by decide) (by rw [he,h0]) (by rw [h0];rfl)
theorem vWj (hc:X.calm=true) (hg:Gl X "min") (hm:X.mg "min"=none) (ha:OD X c E e o) (hb:OD X c E e2 oa) (he:aU [e,e2] X.env=(false,eval e X.env)::aU [e2] X.env:=by rfl) (he2:aU [e2] X.env=(false,eval e2 X.env)::aU [] X.env:=by rfl) (h0:aU [] X.env=[]:=by rfl):OD X c E (.Call (.Name "min" p) [e,e2] [] pos) (oL min2D [o,oa]):=
 qZ5 (vJa hc) vKv hg hm Boot.«min» (qD ha (qD hb vV he2) he) (by decide) (by decide) he (by rw [he2,h0];rfl)
theorem qKo (hg:Gl X "list") (hm:X.mg "list"=none) (ha:OD X c E e o) (he:aU [e] X.env=[(false,eval e X.env)]:=by rfl) (h0:aU [] X.env=[]:=by rfl):ED X c E (.Call (.Name "list" p) [e] [] pos) (eF listD [o]):=
 qWf qXz vKw hg hm Boot.«list» (qD ha vV (by rw [he,h0])) (by decide) (by decide) (by rw [he,h0]) (by rw [h0];rfl)
end
structure MethAt (K:aQ) (x qual:Str) (st:Stmt) (ps:List Str) (f:aZ) (fd:bW):Prop where
 F:Fun K x qual st f fd
 b:yD K fd ps []
def pOf:Oe->SP
 | .p s=>s
 | .v _=>fun _=>none
theorem fnNo {P:aH} {w:bJ} {K:aQ} {c:Nat->aZ} {mg:Str->Option Value} {base:Heap} {CX:CXT} {k:Nat} {f:aZ} {fd:bW} {ps:List Str} {n:Nat}:FnOk P w K mg base CX k f fd ps (spD K c n fun _=> .no):=
 ⟨fun vs H Q E z=>(by obtain⟨_,_,_,_,_,z⟩:=z;exact z.elim),fun _ _ _ _ _ _ _ _ _ _ _ _ _ z=>(by obtain⟨_,_,_,_,_,z⟩:=z;exact z.elim)⟩
theorem FnOk.lv {P:aH} {w:bJ} {K:aQ} {mg:Str->Option Value} {base:Heap} {CX:CXT} {j k:Nat} {f:aZ} {fd:bW} {ps:List Str} {sp:Sp} (e:j=k) (h:FnOk P w K mg base CX j f fd ps sp):FnOk P w K mg base CX k f fd ps sp:=by rw [←e];exact h
section
variable {X:Cx} {c:Nat->aZ} {E:XK} {o k e:Expr} {pos pos' apos cpos:Pos} {oo ok:Oe} {a:SE} {cs:List Nat} {f:Str}
theorem zV7 (h:OD X c E e oo) (hp:oo.isP=true:=by rfl):OD X c E e (Am.b (pOf oo)).o:=by
 cases oo with
 | p s=>exact h
 | v s=>cases hp
theorem jZ (ho:OD X c E o oo) (ha:ED X c E e a) (hp:oo.isP=true:=by rfl) (hbase:attributeBase o "append" X.env (eval o X.env)=eval o X.env:=by rfl)
  (hfew:((cM cpos (aU [e] X.env)).all (fun x=>!x.1) && (backToKw cpos (keywordEach [] X.env)).all (fun x=>x.1.isSome) && decide (([e]:List Expr).length + ([]:List Keyword).length + (if([]:List Keyword).isEmpty then 0 else 1) < 30))=true:=by rfl)
  (hline:(apos.endLine == cpos.line)=true:=by rfl) (hs:aU [e] X.env=(false,eval e X.env)::aU [] X.env:=by rfl) (hplain:(cM cpos (aU [] X.env)).any (·.1)=false:=by rfl):
  ED X c E (.Call (.Attribute o "append" apos) [e] [] cpos) (eMu1 (pOf oo) a apF):=by
 cases oo with
 | p s=>exact vZ4 ho ha hbase hfew hline hs hplain
 | v s=>cases hp
theorem vYt (ho:OD X c E o oo) (ha:ED X c E e a) (hp:oo.isP=true:=by rfl) (hbase:attributeBase o "extend" X.env (eval o X.env)=eval o X.env:=by rfl)
  (hfew:((cM cpos (aU [e] X.env)).all (fun x=>!x.1) && (backToKw cpos (keywordEach [] X.env)).all (fun x=>x.1.isSome) && decide (([e]:List Expr).length + ([]:List Keyword).length + (if([]:List Keyword).isEmpty then 0 else 1) < 30))=true:=by rfl)
  (hline:(apos.endLine == cpos.line)=true:=by rfl) (hs:aU [e] X.env=(false,eval e X.env)::aU [] X.env:=by rfl) (hplain:(cM cpos (aU [] X.env)).any (·.1)=false:=by rfl):
  ED X c E (.Call (.Attribute o "extend" apos) [e] [] cpos) (eMu1 (pOf oo) a exF):=by
 cases oo with
 | p s=>exact vZ3 ho ha hbase hfew hline hs hplain
 | v s=>cases hp
theorem vW2 (ho:OD X c E o oo) (hk:OD X c E k ok) (m:M1 X o "pop" apos k cpos) (hp:(oo.isP && ok.isP)=true:=by rfl):ED X c E (.Call (.Attribute o "pop" apos) [k] [] cpos) (qV0 (pOf oo) (pOf ok)):=by
 cases oo with
 | v s=>cases hp
 | p s=>cases ok with
   | v s=>cases hp
   | p t=>exact zVb ho hk m
theorem qWr (hu:X.A.units + 1 < dC) (ho:OD X c E o oo) (hk:OD X c E k ok) (hv:ED X c E e a) (hp:(oo.isP && ok.isP)=true:=by rfl) (hs:swapsWith e (some (.Subscript o k pos')) pos.line X.env=pure false:=by rfl):
  SD X c E (.Assign [.Subscript o k pos'] e pos) (yP (pOf oo) (pOf ok) a):=by
 cases oo with
 | v s=>cases hp
 | p s=>cases ok with
   | v s=>cases hp
   | p t=>exact vKd hu ho hk hv hs
theorem qKg (okF:qQs X.K c cs f) (ho:OD X c E o oo) (hv:ED X c E e a) (hp:oo.isP=true:=by rfl) (hs:swapsWith e (some (.Attribute o f pos')) pos.line X.env=pure false:=by rfl):SD X c E (.Assign [.Attribute o f pos'] e pos) (qX6 cs f (pOf oo) a):=by
 cases oo with
 | v s=>cases hp
 | p s=>exact vKc okF ho hv hs
end
section
variable {X:Cx} {c:Nat->aZ} {E:XK} {e:Expr} {es:List Expr} {s:SV} {ss:List SV} {a:SE} {K:aQ}
theorem zVv {F H:Hp} (t:TabF c F):∀ {us:List V} {xs:List D},DsAt K c F us xs->SlAt K c F H (xs.map fun d=>Slot.s false (.fz d)) (us.map some) fun _=>0
 | us,[],h=>by rw [h.un0];exact⟨⟨rfl,t⟩,fun _=>rfl⟩
 | us,x::xs,h=>by
   obtain⟨u,r,rfl,a,b⟩:=h.un
   exact⟨some u,r.map some,fun _=>0,fun _=>0,rfl,(show OAt K c F H (.fz x) u (fun _=>0) from OAt.fz.mpr ⟨a,fun _=>rfl⟩),zVv t b,fun _=>rfl⟩
end
theorem vZp {K:aQ} {x qual:Str} {st:Stmt} {ps:List Str} {f:aZ} {oc:Value} {od an:Option aZ} {osl:Array (Option Value)} {kV doc pm cdv ct:Value}
  (l:K.lookup f=some ⟨oc,od, .func (cS x qual (qN st) (qH st) (qJ st) .none kV doc pm an cdv ct),osl⟩)
  (c:PySem.W.codeIn K cdv qual=true) (k:eN K (.ref f)=true)
  (b:∀(kV doc pm:Value) (an:Option aZ) (cdv ct:Value) (us:List Value),us.length=ps.length->bindArgs (cS x qual (qN st) (qH st) (qJ st) .none kV doc pm an cdv ct) ⟨us,[]⟩=pure (ps.zip us)):
  MethAt K x qual st ps f (cS x qual (qN st) (qH st) (qJ st) .none kV doc pm an cdv ct):=⟨qWw l c k,(qWw l c k).binds b⟩
theorem qXc {K:aQ} {c:Nat->aZ} {f:Str}:qQs K c [] f:=fun _ h=>nomatch h
theorem qJa {K:aQ} {c:Nat->aZ} {C:Nat} {cs:List Nat} {f:Str} (h:Cls K (c C)) (n:jU K (c C) f) (r:qQs K c cs f):qQs K c (C::cs) f:=fun D hD=>by
 rcases aB.mp hD with rfl | hD
 ·exact⟨h,n⟩
 ·exact r D hD
theorem vVo {K:aQ} {c:Nat->aZ} {F:Hp}:∀ns:List Int,DsAt K c F (ns.map V.int) (ns.map D.int)
 | []=> .nil
 | n::ns=> .cons (.int n) (vVo ns)
end DX
namespace SG
open PySem
def Ri (xs:Array Nat):Prop:=∀i k,i < k->k < xs.size->xs.getD i 0 < xs.getD k 0
theorem zQ3 (xs:Array Nat) (j:Nat) (R:Ri xs):∀f lo hi,lo<=hi->hi<=xs.size->hi - lo<=f->(∀i,i < lo->xs.getD i 0 < j)->(∀i,hi<=i->i < xs.size->j<=xs.getD i 0)->
  SetTable.below.go xs j f lo hi<=xs.size/\(∀i,i < SetTable.below.go xs j f lo hi->xs.getD i 0 < j)/\(∀i,SetTable.below.go xs j f lo hi<=i->i < xs.size->j<=xs.getD i 0):=by
 intro f
 induction f with
 | zero=>
   intro lo hi h1 h2 h3 h4 h5
   have e:lo=hi:=by omega
   subst e
   exact⟨h2,h4,h5⟩
 | succ f ih=>
   intro lo hi h1 h2 h3 h4 h5
   unfold SetTable.below.go
   by_cases c:lo < hi
   ·rw [if_pos c]
    dsimp only
    have hm:(lo + hi) / 2 < xs.size:=by omega
    have eg:∀d,xs.getD ((lo + hi) / 2) d=xs.getD ((lo + hi) / 2) 0:=fun d=>by simp [Array.getD,hm]
    rw [eg]
    by_cases c2:xs.getD ((lo + hi) / 2) 0 < j
    ·rw [if_pos c2]
     refine ih _ _ (by omega) h2 (by omega) (fun i hi' =>?_) h5
     by_cases z:i=(lo + hi) / 2
     ·rw [z];exact c2
     ·exact Nat.lt_trans (R i _ (by omega) hm) c2
    ·rw [if_neg c2]
     refine ih _ _ (by omega) (by omega) (by omega) h4 (fun i hi' hs=>?_)
     by_cases z:i=(lo + hi) / 2
     ·rw [z];omega
     ·have:=R ((lo + hi) / 2) i (by omega) hs;omega
   ·rw [if_neg c]
    have e:lo=hi:=by omega
    subst e
    exact⟨h2,h4,h5⟩
theorem yV {xs:Array Nat} (R:Ri xs) (j:Nat):bU xs j<=xs.size/\(∀i,i < bU xs j->xs.getD i 0 < j)/\(∀i,bU xs j<=i->i < xs.size->j<=xs.getD i 0):=
 zQ3 xs j R _ _ _ (cH _) (aG _) (by omega) (fun _ h=>absurd h (by omega)) (fun i h1 h2=>by omega)
theorem vQd {xs:Array Nat} (R:Ri xs) {j:Nat} (h:(xs[bU xs j]? == some j)=false):∀i,i < xs.size->xs.getD i 0≠j:=by
 intro i hi e
 obtain⟨a,b,c⟩:=yV R j
 have hb:bU xs j<=i:=by
  by_cases z:i < bU xs j
  ·have:=b i z;omega
  ·omega
 have hz:bU xs j=i:=by
  by_cases z:bU xs j=i
  ·exact z
  ·have h1:=c (bU xs j) (aG _) (by omega)
   have h2:=R (bU xs j) i (by omega) hi
   omega
 rw [hz] at h
 have:xs[i]?=some j:=by
  rw [cU hi]
  simp only [Array.getD,hi,dif_pos] at e
  rw [←e];rfl
 rw [this] at h
 simp at h
theorem qJq {α:Type} (xs:Array α) (p:Nat) (x:α) (hp:p<=xs.size):(SetTable.insertAt xs p x).size=xs.size + 1:=by
 unfold SetTable.insertAt
 simp only [Array.size_append,Array.size_push,Array.size_extract]
 omega
theorem qQu {xs:Array Nat} {p x:Nat} (hp:p<=xs.size) (i:Nat):(SetTable.insertAt xs p x).getD i 0=if i < p then xs.getD i 0 else if i=p then x else xs.getD (i - 1) 0:=by
 unfold SetTable.insertAt
 simp only [Array.getD_eq_getD_getElem?,Array.getElem?_append,Array.getElem?_push,Array.size_push,Array.size_extract,Array.getElem?_extract]
 have e:min p xs.size - 0=p:=by omega
 rw [e]
 by_cases h1:i < p
 ·have n1:i≠p:=by omega
  have:i < p + 1:=by omega
  simp only [this,h1,n1,if_true,if_false,Nat.zero_add]
 ·by_cases h2:i=p
  ·subst h2
   simp
  ·have n1:¬i < p + 1:=by omega
   simp only [n1,h1,h2,if_false]
   have e2:p + (i - (p + 1))=i - 1:=by omega
   rw [e2]
   by_cases h3:i - (p + 1) < min xs.size xs.size - p
   ·rw [if_pos h3]
   ·rw [if_neg h3]
    have:xs[i - 1]?=none:=Array.getElem?_eq_none (by omega)
    rw [this]
theorem zZ6 {xs:Array Nat} (R:Ri xs) {j:Nat} (h:(xs[bU xs j]? == some j)=false):Ri (SetTable.insertAt xs (bU xs j) j):=by
 obtain⟨a,b,c⟩:=yV R j
 have no:=vQd R h
 intro i k h1 h2
 rw [qJq _ _ _ a] at h2
 rw [qQu a,qQu a]
 by_cases c1:i < bU xs j
 ·rw [if_pos c1]
  by_cases c2:k < bU xs j
  ·rw [if_pos c2];exact R i k h1 (by omega)
  ·rw [if_neg c2]
   by_cases c3:k=bU xs j
   ·rw [if_pos c3];exact b i c1
   ·rw [if_neg c3];exact R i (k - 1) (by omega) (by omega)
 ·rw [if_neg c1,if_neg (show¬k < bU xs j by omega),if_neg (show¬k=bU xs j by omega)]
  by_cases c3:i=bU xs j
  ·rw [if_pos c3]
   have q1:=c (k - 1) (by omega) (by omega)
   have q2:=no (k - 1) (by omega)
   omega
  ·rw [if_neg c3];exact R (i - 1) (k - 1) (by omega) (by omega)
theorem vXn (n:Nat):Ri (Array.range n):=by
 intro i k h1 h2
 rw [Array.size_range] at h2
 simp [Array.getD,h2,Nat.lt_trans h1 h2,h1]
def yI (t:SetTable) (j:Nat):Prop:=(t.place[bU t.place j]? == some j)=false
theorem qXs {t:SetTable} {j:Nat} (h:t.slot j= .empty):yI t j:=by
 unfold SetTable.slot at h
 unfold yI
 cases e:(t.place[bU t.place j]? == some j) with
 | false=>rfl
 | true=>dsimp only at h;rw [if_pos e] at h;cases h
theorem qXt {t:SetTable} {j:Nat} (h:t.slot j= .dummy):yI t j:=by
 unfold SetTable.slot at h
 unfold yI
 cases e:(t.place[bU t.place j]? == some j) with
 | false=>rfl
 | true=>dsimp only at h;rw [if_pos e] at h;cases h
theorem qWp (t:SetTable) (p:SetTable.Probe):(t.advance p).dummy=p.dummy:=by
 unfold SetTable.advance
 split <;> rfl
theorem vXs (t:SetTable) (f:Nat->Int) (h:Int):∀(n:Nat) (p:SetTable.Probe) (j:Nat) (d:Option Nat),(∀x,p.dummy=some x->yI t x)->SetTable.probe.go t f h n p=some (.empty j d)->yI t j/\∀x,d=some x->yI t x:=by
 intro n
 induction n with
 | zero=>intro p j d _ e;cases e
 | succ n ih=>
   intro p j d hp e
   unfold SetTable.probe.go at e
   split at e
   ·rename_i hs
    injection e with e
    injection e with e1 e2
    subst e1;subst e2
    exact⟨qXs hs,hp⟩
   ·rename_i hs
    refine ih _ j d (fun x hx=>?_) e
    rw [qWp] at hx
    injection hx with hx
    subst hx
    exact qXt hs
   ·split at e
    ·injection e with e;cases e
    ·exact ih _ j d (fun x hx=>hp x (by rw [qWp] at hx;exact hx)) e
theorem zQ8 {t:SetTable} {h:Int} {j:Nat} {b:Bool} (e:t.freeSlot h=some (j,b)):yI t j:=by
 unfold SetTable.freeSlot at e
 split at e
 ·rename_i j' d he
  obtain⟨h1,h2⟩:=vXs t _ h _ _ _ _ (fun x hx=>by cases hx) he
  injection e with e
  injection e with e1 e2
  subst e1
  cases d with
  | none=>exact h1
  | some x=>exact h2 x rfl
 ·cases e
theorem xS (t:SetTable) (n:Nat):Ri (t.standIn n).place:=vXn n
theorem qXq {t:SetTable} (n:Nat) (h:Ri t.place):Ri (t.orStandIn n).place:=by
 unfold SetTable.orStandIn
 split
 ·exact h
 ·exact xS t n
theorem qJp (t:SetTable) (n:Nat):(t.orStandIn n).led=t.led:=by
 unfold SetTable.orStandIn
 split <;> rfl
theorem vZt {t:SetTable} (es:Array (Int×Value)) (h:Int) (x:Value) (R:Ri t.place):Ri (layNew t es h x).2.1.place/\(layNew t es h x).2.1.led=t.led:=by
 unfold layNew
 split
 ·rename_i slot wd e
  dsimp only
  exact⟨qXq _ (zZ6 R (zQ8 e)),qJp _ _⟩
 ·exact⟨xS _ _,rfl⟩
theorem zQn {mask finger moves:Nat} {led plain:Bool} {hs:Array Int} {t:SetTable} {o:Array Nat} (e:SetTable.laid mask finger moves led plain hs=some (t,o)):Ri t.place/\t.led=led:=by
 unfold SetTable.laid at e
 obtain⟨owner,e1,e2⟩:=Option.bind_eq_some_iff.mp e
 injection e2 with e2
 injection e2 with e2 e3
 subst e2
 refine⟨?_,rfl⟩
 dsimp only
 have pw:List.Pairwise (fun a b:Nat=>a < b) (((List.range (mask + 1)).filterMap fun j=>(owner.getD j none).map (j,·)).map (·.1)):=by
  rw [List.pairwise_map,List.pairwise_filterMap]
  refine List.Pairwise.imp ?_ List.pairwise_lt_range
  intro a b hab y hy z hz
  obtain⟨u,_,rfl⟩:=bY.mp hy
  obtain⟨v,_,rfl⟩:=bY.mp hz
  exact hab
 generalize ((List.range (mask + 1)).filterMap fun j=>(owner.getD j none).map (j,·)).map (·.1)=l at pw⊢
 intro i k h1 h2
 have h2' :k < l.length:=by simpa using h2
 have:=List.pairwise_iff_getElem.mp pw i k (by omega) h2' h1
 simp only [Array.getD_eq_getD_getElem?,List.getElem?_toArray,aF h2',aF (show i < l.length by omega),Option.getD_some]
 exact this
theorem relayAll_ri {t:SetTable} (es:Array (Int×Value)) (m:Nat):Ri (relayAll t es m).2.1.place/\(relayAll t es m).2.1.led=t.led:=by
 unfold relayAll
 split
 ·rename_i t' o e
  dsimp only
  split
  ·exact zQn e
  ·exact⟨xS _ _,rfl⟩
 ·exact⟨xS _ _,rfl⟩
end SG
namespace SG
open PySem PySem.Spec PyProof.Rows
section
variable {prog:aH} {w:bJ} {A:bF} {E:Value->aJ->Prop} {s:aJ}
structure SetI (prog:aH) (w:bJ) (S:Int->Bool) (o:Obj) (es:Array (Int×Value)) (ep:Nat) (t:SetTable):Prop where
 ex:o.ExactSet
 da:o.data= .set es ep t
 el:ElemsOf (intKind prog w) es.toList
 me:∀k,S k=true↔∃e∈es.toList,(intKind prog w).is k e.2=true
 sm:es.size < scanBound
 ft:t.fits es.size=true
 ri:Ri t.place
 ld:t.led= !w.params.followText "set-order"
def SetG (prog:aH) (w:bJ) (a:aZ) (S:Int->Bool) (n:Nat) (h:Heap):Prop:=∃o es ep t,h.get? a=some o/\SetI prog w S o es ep t/\es.size=n
theorem vJ8 {a:aZ} {S S' :Int->Bool} {o:Obj} {es es' :Array (Int×Value)} {ep:Nat} {t t' :SetTable} (e:s.heap.get? a=some o) (i:SetI prog w S o es ep t)
  (el:ElemsOf (intKind prog w) es'.toList) (me:∀k,S' k=true↔∃e∈es'.toList,(intKind prog w).is k e.2=true) (sm:es'.size < scanBound) (ft:t'.fits es'.size=true) (ri:Ri t'.place) (ld:t'.led=t.led)
  {Q:Unit->aJ->Prop} (h:∀(h' :Heap) (o' :Obj),eB a s.heap h' ->h'.get? a=some o' ->SetI prog w S' o' es' (ep + 1) t' ->Q () {s with heap:=h' }):
  aR (model prog w) A (storeSet a es' t') Q E s:=by
 refine wpAny_storeSet_of e i.da ?_ (fits_of_scanBound sm)
 obtain⟨q,_⟩:=SetOf_store (knd:=intKind prog w) e i.ex i.da el me sm ft
 exact h _ _ (eQ s.heap a (Obj.putSet es' t')) q ⟨i.ex,rfl,el,me,sm,ft,ri,by rw [ld];exact i.ld⟩
theorem zVo {g:Bool->Sem Unit} (hg:∀(b:Bool) (z:aJ) (Q:Unit->aJ->Prop),Q () z->aR (model prog w) A (g b) Q E z)
  {a:aZ} {S S' :Int->Bool} {o:Obj} {es es' :Array (Int×Value)} {ep:Nat} {t t' :SetTable} (e:s.heap.get? a=some o) (i:SetI prog w S o es ep t)
  (el:ElemsOf (intKind prog w) es'.toList) (me:∀k,S' k=true↔∃e∈es'.toList,(intKind prog w).is k e.2=true) (sm:es'.size < scanBound) (ft:t'.fits es'.size=true) (ri:Ri t'.place) (ld:t'.led=t.led)
  {wd:Bool} {R:Option Bool->aJ->Prop} (h:∀h',eB a s.heap h' ->SetG prog w a S' es'.size h' ->R (some true) {s with heap:=h' }):
  aR (model prog w) A (do
    storeSet a es' t'
    if(!wd && t'.tooFull)=true then do
       g (relayAll t' es' (SetTable.grown es'.size)).2.2
       storeSet a (relayAll t' es' (SetTable.grown es'.size)).1 (relayAll t' es' (SetTable.grown es'.size)).2.1
       pure (some true)
     else pure (some true)) R E s:=by
 refine aV (vJ8 e i el me sm ft ri ld fun h1 o1 s1 e1 i1=>?_)
 split
 ·have p:=relayAll_perm t' es' (SetTable.grown es'.size)
  have f:=relayAll_fits t' es' (SetTable.grown es'.size)
  obtain⟨r1,r2⟩:=relayAll_ri (t:=t') es' (SetTable.grown es'.size)
  generalize relayAll t' es' (SetTable.grown es'.size)=L at p f r1 r2⊢
  have z:L.1.size=es'.size:=by rw [←cX,p.length_eq,cX]
  refine aV (hg _ _ _ (aV (vJ8 (s:={s with heap:=h1}) (S' :=S') e1 i1 (el.perm p) (fun k=>(me k).trans ⟨fun⟨x,q1,q2⟩=>⟨x,p.mem_iff.mpr q1,q2⟩,fun⟨x,q1,q2⟩=>⟨x,p.mem_iff.mp q1,q2⟩⟩) (by rw [z];exact sm) f r1 r2 fun h2 o2 s2 e2 i2=>?_)))
  exact aW (h _ (s1.trans s2) ⟨o2,_,_,_,e2,i2,z⟩)
 ·exact aW (h _ s1 ⟨o1,_,_,_,e1,i1,rfl⟩)
theorem addG {a:aZ} {S:Int->Bool} {n:Nat} {k:Int} {x:Value} {Q:Bool->aJ->Prop} (hk:(intKind prog w).is k x=true) (hx:x.scannable=true) (hS:SetG prog w a S n s.heap) (room:n + 1 < scanBound)
  (h:∀h',eB a s.heap h' ->SetG prog w a (fun j=>S j || decide (j=k)) (if S k then n else n + 1) h' ->Q (!S k) {s with heap:=h' }):
  aR (model prog w) A (setAddHashed a x ((intKind prog w).hash k)) Q E s:=by
 obtain⟨o,es,ep,t,e,i,z⟩:=hS
 have b1:es.size + 1 < scanBound:=by rw [z];exact room
 unfold setAddHashed setAddHashedIn
 refine dD (aV (fQ e i.da i.ft ?_))
 dsimp only
 rw [byScan_of hx i.sm i.el]
 simp only [↓reduceIte]
 unfold setAddByScan
 refine aV (aV (wpAny_rule (aV (wpAny_setScan_of hk e i.da i.ft i.el ?_))))
 cases hr:List.findIdx? (fun y=>(intKind prog w).is k y.2) es.toList with
 | some j=>
   dsimp only
   obtain⟨q1,q2,_⟩:=List.findIdx?_eq_some_iff_getElem.mp hr
   have t1:S k=true:=(i.me k).mpr ⟨es.toList[j],eY q1,q2⟩
   refine aW (aW ?_)
   have r:=h s.heap (Heap.SameBut.refl a s.heap) ⟨o,es,ep,t,e,⟨i.ex,i.da,i.el,fun m=>by
    rw [Bool.or_eq_true,decide_eq_true_eq,←i.me m]
    exact⟨fun y=>y.elim id fun u=>by rw [u];exact t1, .inl⟩,i.sm,i.ft,i.ri,i.ld⟩,by rw [t1];exact z⟩
   rw [t1] at r
   exact r
 | none=>
   dsimp only
   have t1:S k=false:=by
    cases c:S k with
    | false=>rfl
    | true=>
      obtain⟨y,y1,y2⟩:=(i.me k).mp c
      rw [List.findIdx?_eq_none_iff.mp hr y y1] at y2
      cases y2
   have p:=layNew_perm t es ((intKind prog w).hash k) x
   have f:=layNew_fits t es ((intKind prog w).hash k) x
   obtain⟨r1,r2⟩:=vZt es ((intKind prog w).hash k) x i.ri
   generalize layNew t es ((intKind prog w).hash k) x=L at p f r1 r2⊢
   obtain⟨es',t',wd,gave⟩:=L
   dsimp only at p f r1 r2⊢
   rw [Array.toList_push] at p
   have el:=(i.el.push hk hx).perm p
   have me:=mem_push_iff (S:=S) hk i.me p
   have sz:es'.size=n + 1:=by rw [←cX,p.length_eq,aP,cX,z];rfl
   have sm:es'.size < scanBound:=by rw [sz];exact room
   have fin:∀h',eB a s.heap h' ->SetG prog w a (fun j=>S j || decide (j=k)) es'.size h' ->Q true {s with heap:=h' }:=fun h' y1 y2=>by
    have r:=h h' y1
    rw [t1] at r
    rw [sz] at y2
    exact r y2
   have gw:∀(b:Bool) (s1:aJ) (Q' :Unit->aJ->Prop),Q' () s1->aR (model prog w) A (match b with | true=>rule "set.scan.the-table-gave-way" | false=>pure ()) Q' E s1:=fun b s1 Q' q=>by
    cases b <;> first | exact aW q | exact wpAny_rule q
   refine aV (gw _ _ _ ?_)
   split
   ·refine aV ?_
    rw [hashByValue_scannable 8 hx]
    refine aW (zVo (fun b s1 Q' q=>by cases b <;> first | exact aW q | exact wpAny_rule q) e i el me sm ?_ ?_ ?_ fun h' y1 y2=>aW (fin h' y1 y2))
    ·split
     ·exact f
     ·exact SetTable.fits_plain_off f
    ·split
     ·exact r1
     ·exact r1
    ·split
     ·exact r2
     ·exact r2
   ·refine aV (aW ?_)
    simp only [↓reduceIte]
    exact zVo (fun b s1 Q' q=>by cases b <;> first | exact aW q | exact wpAny_rule q) e i el me sm f r1 r2 fun h' y1 y2=>aW (fin h' y1 y2)
end
theorem SetG.at {prog:aH} {w:bJ} {a:aZ} {S:Int->Bool} {n:Nat} {h h' :Heap} (g:SetG prog w a S n h) (k:∀o,h.get? a=some o->h'.get? a=some o):SetG prog w a S n h' :=by
 obtain⟨o,es,ep,t,e,i,z⟩:=g
 exact⟨o,es,ep,t,k _ e,i,z⟩
theorem SetG.eq {prog:aH} {w:bJ} {a:aZ} {S S' :Int->Bool} {n n' :Nat} {h:Heap} (g:SetG prog w a S n h) (e:∀k,S k=S' k) (m:n=n'):SetG prog w a S' n' h:=by
 have:S=S' :=funext e
 subst this;subst m;exact g
section
variable {prog:aH} {w:bJ} {A:bF} {R:Result->aJ->Prop} {I:aZ} {fp wr:List aZ} {G:Array GenState->Array GenState->Prop} {n:Nat} {P:Nat->Value->Prop} {St:Nat->aJ->Prop}
theorem zX2 (W:WalksS prog w A.in1 I fp wr G n P St) (S:aZ) (off:S∉fp) (val:Nat->Int) (hv:∀i v,P i v->∃t,v= .int (val i) t) (few:n + 1 < scanBound):
  ∀(k i:Nat) (s:aJ),n - i=k->i<=n->St i s->SetG prog w S (fun j=>(firstMet val i).any (· == j)) (firstMet val i).length s.heap->
   (∀s',Moved (S::wr) G s s' ->SetG prog w S (fun j=>(firstMet val n).any (· == j)) (firstMet val n).length s'.heap->R (.ok (.ret .none)) s')->
   codeAny (model prog w) A (.builtin "set.update.loop" ⟨[.ref S, .ref I],[]⟩) R s:=by
 have ow:S∉wr:=fun z=>off (W.sub _ z)
 have up:∀b∈wr,b∈S::wr:=fun b z=>aE _ z
 intro k
 induction k with
 | zero=>
   intro i s hk hi st g hR
   obtain rfl:i=n:=by omega
   refine cR F.entry_set_update_loop ?_
   rw [cP F.plain_set_update_loop _]
   refine aV (m:=pyNext (.ref I)) (W.done s _ _ st fun s' m=>?_)
   exact aW (hR s' (m.mono up) (g.at fun o e=>m.heap S _ ow e))
 | succ k ih=>
   intro i s hk hi st g hR
   have lt:i < n:=by omega
   refine cR F.entry_set_update_loop ?_
   rw [cP F.plain_set_update_loop _]
   refine aV (m:=pyNext (.ref I)) (W.item i s _ _ lt st fun v s' p st' m=>?_)
   obtain⟨t,rfl⟩:=hv i v p
   have g' :=g.at (h' :=s'.heap) fun o e=>m.heap S _ ow e
   refine aV (m:=holding [Value.int (val i) t] (setAdd S (.int (val i) t))) (dD ?_)
   unfold setAdd
   refine dD (aV ((intKind prog w).pyHash (k:=val i) (intKind_is _ _ _ _) ?_))
   refine addG (s:={s' with toks:=s'.toks + 1}) (intKind_is _ _ _ _) rfl g' (by have:=firstMet_length_le val i;omega) fun h2 sb g2=>?_
   have g3:=g2.eq (S' :=fun j=>(firstMet val (i + 1)).any (· == j)) (n' :=(firstMet val (i + 1)).length) (fun j=>by rw [firstMet_succ,step_any]) (by rw [firstMet_succ,step_length])
   refine aW ⟨dZ F.plain_set_update_loop _,ih (i + 1) _ (by omega) lt (W.frame _ s' _ _ st' (eA _) fun b hb o e=>?_) g3 fun s2 m2 g4=>?_⟩
   ·rw [sb.2 b fun z=>off (by rw [←z];exact hb)];exact e
   ·refine hR s2 (Moved.trans W.gtrans ((m.mono up).then_heap (eA _) fun b o hb e=>?_) m2) g4
    rw [sb.2 b fun z=>hb (by rw [z];exact aI)];exact e
end
section
variable {prog:aH} {w:bJ} {A:bF} {E:Value->aJ->Prop} {s:aJ}
abbrev newS (w:bJ):Obj:={cls:= .type "set",dict:=none,data:= .set #[] 0 (.fresh 0 0 (!w.params.followText "set-order"))}
theorem newG (a:Value) {Q:Value->aJ->Prop} (h:Q (.ref s.heap.objs.size) {s with heap:=s.heap.push (newS w)}):
  codeAny (model prog w) A (.call (.builtin "set.__new__") ⟨[.type "set",a],[]⟩) (wants Q E) s:=by
 refine codeAny_of_tree ?_
 show aR _ A.in1 (do checkBuiltinCall "set.__new__" ⟨[.type "set",a],[]⟩;again (.builtin "set.__new__" ⟨[.type "set",a],[]⟩)) _ _ s
 refine aV (wpAny_of_eq (PySem.F.newCall_set_1 a) (aW ⟨dZ PySem.F.plain_set_new _,cR PySem.F.entry_set_new ?_⟩))
 rw [cP PySem.F.plain_set_new _]
 unfold Builtin.«set.__new__» Builtin.Frozenset.newClass
 have hsub:=sub_set_self
 obtain⟨hp,g,d,tk,os⟩:=s
 dsimp only
 wp_walk
 refine wpAny_askSetting (aW ?_)
 dsimp only
 simp only [newObj]
 exact aV (wpAny_alloc (aW (aW h)))
end
section
variable {prog:aH} {w:bJ} {A:bF} {E:Value->aJ->Prop} {s:aJ}
abbrev fmS (ns:List Int) (n:Nat):List Int:=firstMet (fun i=>ns.getD i 0) n
abbrev inS (ns:List Int) (n:Nat):Int->Bool:=fun j=>(fmS ns n).any (· == j)
theorem vX6 (w:bJ) (s:aJ):(s.heap.push (newS w)).get? s.heap.objs.size=some (newS w):=aL _ rfl
theorem zQi (prog:aH) (w:bJ):SetI prog w (fun _=>false) (newS w) #[] 0 (.fresh 0 0 (!w.params.followText "set-order")) where
 ex:=⟨rfl,rfl,rfl⟩
 da:=rfl
 el:=fun e he=>by simp at he
 me:=fun k=>by simp
 sm:=by decide
 ft:=by rfl
 ri:=fun i k _ h=>absurd h (Nat.not_lt_zero _)
 ld:=rfl
set_option maxHeartbeats 3200000 in
theorem vZ9 {l:aZ} {its:Array Value} {ns:List Int} {Q:Value->aJ->Prop} (hh:A.handled=none) (hl:s.heap.IsList l its) (hi:IntsAre its.toList ns) (few:its.size + 1 < scanBound)
  (h:∀(h' :Heap) (tk:Nat),SetG prog w s.heap.objs.size (inS ns its.size) (fmS ns its.size).length h' ->(∀b o,b < s.heap.objs.size->s.heap.get? b=some o->h'.get? b=some o)->Q (.ref s.heap.objs.size) {s with heap:=h',toks:=tk}):
  aR (model prog w) A (call (.type "set") [.ref l]) Q E s:=by
 obtain⟨c,tl,hmro⟩:=dJ.mro
 have hmade:=dJ.made
 have hsub:=dJ.sub
 refine wpAny_call (codeAny_of_tree ?_)
 show aR _ _ (callAny (.type "set") _) _ _ _
 refine aW ⟨Code.quiet_builtin _ (by decide +kernel),cR PySem.F.entry_type_call ?_⟩
 rw [Around.under_plain (weight_type_call_type "set" [.ref l] []) rfl]
 have h1:=dJ.notType
 have h2:=dJ.canCreate
 have hct:=PySem.F.typeCall_set_1 (.ref l)
 repeat (any_goals (first | assumption | wp_step))
 refine codeAny_mono (newG (.ref l) (E:=E) (Q:=fun u z=>u= .ref s.heap.objs.size/\z={s with heap:=s.heap.push (newS w)}) ⟨rfl,rfl⟩) fun r z hr=>?_
 cases r with
 | error e=>exact hr
 | ok fl=>
   cases fl with
   | ret u=>
     obtain⟨rfl,rfl⟩:=hr
     have hS:=vX6 w s
     have hT:Shared.TypeIs {s with heap:=s.heap.push (newS w)} (.ref s.heap.objs.size) "set":=⟨_,hS,rfl⟩
     have hli:=dJ.init.lookup
     have hbi:=dJ.init.bind (.ref s.heap.objs.size)
     repeat (any_goals (first | assumption | wp_step))
     refine codeAny_mono (codeAny_call_builtin (R:=wants (fun r z=>r= .none/\∃h' tk,z={s with heap:=h',toks:=tk}/\SetG prog w s.heap.objs.size (inS ns its.size) (fmS ns its.size).length h' /\∀b o,b < s.heap.objs.size->s.heap.get? b=some o->h'.get? b=some o) E)
      dJ.init.plain PySem.F.entry_set_init (check_set_init_1 hT ?_)) fun r2 z2 hr2=>?_
     ·obtain⟨ol,hol,hcl,nl,hdl⟩:=hl
      obtain⟨ocls,odict,odata,oslots⟩:=ol
      simp only at hcl hdl
      subst hcl;subst hdl
      have hol' :(s.heap.push (newS w)).get? l=some {cls:= .type "list",dict:=odict,data:= .seq its nl,slots:=oslots}:=aX _ hol
      have hsls:=PySem.F.sub_list_set
      have hslf:=PySem.F.sub_list_frozenset
      have hne:(Value.type "list" == Value.type "dict")=false:=by decide
      have hl1:(s.heap.push (newS w)).IsList l its:=⟨_,hol',rfl,nl,rfl⟩
      unfold Builtin.«set.__init__» noKeywords Builtin.Frozenset.updateFrom
      generalize hPI:pyIter=PI
      wp_walk
      subst hPI
      refine wpAny_pyIter_list hl1 (aV (wpAny_runValue ?_))
      have lS:l < s.heap.objs.size:=aD hol
      have lI:l≠(s.heap.push (newS w)).objs.size:=by rw [cZ];exact bZ (dE lS)
      have off:s.heap.objs.size∉ [(s.heap.push (newS w)).objs.size,l]:=by
       rw [cZ]
       intro z
       rcases aB.mp z with z | z
       ·exact absurd z (bZ (Nat.lt_succ_self _))
       ·exact absurd (aS.mp z) (dI lS)
      refine zX2 ((Walks.list (show A.in1.in1.in1.handled=none by simp [hh]) _ l lI its).toS) s.heap.objs.size off (fun i=>ns.getD i 0) (fun i v q=>IntsAre.int_at hi i v (by rw [Array.getElem?_toList];exact q)) few (its.size - 0) 0 _ (by omega) (cH _)
       ⟨⟨_,aL _ rfl,rfl,rfl⟩,hl1.push _⟩ ⟨_,_,_,_,aX _ hS,zQi prog w,rfl⟩ fun z m g=>?_
      obtain⟨h',g',d',tk',os'⟩:=z
      obtain rfl:g' =s.gens:=m.gens
      obtain rfl:d' =s.drawn:=m.drawn
      obtain rfl:os' =s.os:=m.os
      refine aW ?_
      show aR _ _ (ret Value.none) _ _ _
      refine aW ⟨rfl,h',tk',rfl,g,fun b o hb e=>m.heap b o (fun z=>?_) (aX _ (aX _ e))⟩
      rcases aB.mp z with z | z
      ·exact absurd z (bZ hb)
      ·have z:=aS.mp z
       rw [cZ] at z
       exact absurd z (bZ (dE hb))
     ·cases r2 with
      | error e=>exact hr2
      | ok f2=>
        cases f2 with
        | ret r=>
          obtain⟨rfl,h',tk,rfl,g,k⟩:=hr2
          repeat (any_goals (first | assumption | wp_step))
          exact h _ _ g k
        | _=>exact hr2.elim
   | _=>exact hr.elim
end
theorem qZ8 {α:Type}:∀ {l:List α} {i:Nat} (h:i < l.length),(l[i]::l.eraseIdx i).Perm l
 | x::l,0,_=> .refl _
 | x::l,i + 1,h=>(List.Perm.swap _ _ _).trans ((qZ8 (l:=l) (i:=i) (Nat.lt_of_succ_lt_succ h)).cons x)
theorem zF:Slot "set_iterator" "__next__" "set_iterator.__next__":=
 .of (owner:="set_iterator") (n:="__next__") (by rw [typeLookup_type,builtinLookup_eq_fast];kernel_rfl) (by decide +kernel) (by decide +kernel) (by decide +kernel) (by first | exact .inl (by decide +kernel) | exact .inr (by decide +kernel)) (by rw [isSubtype_type];kernel_rfl)
theorem qJr:entryFor table "set_iterator.__next__"=some Builtin.«set_iterator.__next__»:=entryFor_of_fast (by kernel_rfl)
theorem qX3 (a:Value):argsOk "set_iterator.__next__" ⟨[a],[]⟩:=by unfold argsOk;kernel_rfl
theorem qVf:Slot "set_iterator" "__iter__" "set_iterator.__iter__":=
 .of (owner:="set_iterator") (n:="__iter__") (by rw [typeLookup_type,builtinLookup_eq_fast];kernel_rfl) (by decide +kernel) (by decide +kernel) (by decide +kernel) (by first | exact .inl (by decide +kernel) | exact .inr (by decide +kernel)) (by rw [isSubtype_type];kernel_rfl)
theorem qJs:entryFor table "set_iterator.__iter__"=some Builtin.«dict_keyiterator.__iter__»:=entryFor_alias (id' :="dict_keyiterator.__iter__") (by kernel_rfl) rfl (by decide +kernel) (by kernel_rfl)
theorem qX4 (a:Value):argsOk "set_iterator.__iter__" ⟨[a],[]⟩:=by unfold argsOk;kernel_rfl
theorem qJk:entryFor table "set.__iter__"=some Builtin.«frozenset.__iter__»:=entryFor_alias (id' :="frozenset.__iter__") (by kernel_rfl) rfl (by decide +kernel) (by kernel_rfl)
section
variable {prog:aH} {w:bJ} {A:bF} {E:Value->aJ->Prop} {s:aJ}
theorem qQ4 {α:Type} {c:Prop} [Decidable c] {a b:Sem α} {Q:α->aJ->Prop} {M:Model} (n:¬c) (h:aR M A b Q E s):aR M A (if c then a else b) Q E s:=by rw [if_neg n];exact h
theorem vJt {α:Type} {c:Prop} [Decidable c] {a b:Sem α} {Q:α->aJ->Prop} {M:Model} (n:c) (h:aR M A a Q E s):aR M A (if c then a else b) Q E s:=by rw [if_pos n];exact h
theorem zVh {src:Source} {n:Nat} {Q:Nat->aJ->Prop} (hn:n≠0) (h:∀i d,i < n->Q i {s with drawn:=d}):aR (model prog w) A (choose src n) Q E s:=fun Γ p _=>by
 show Sem.wp _ _ (.choose src n .pure) _ _ _ _
 rw [Sem.wp_choose]
 exact⟨hn,h _ _ (Nat.mod_lt _ (Nat.pos_of_ne_zero hn))⟩
theorem zYf {α:Type}:∀(n:Nat) (xs:List α) (s:aJ) (Q:List α->aJ->Prop),xs.length<=n->(∀ys d,ys.Perm xs->Q ys {s with drawn:=d})->aR (model prog w) A (drawOrder n xs) Q E s:=by
 intro n
 induction n with
 | zero=>
   intro xs s Q hn h
   have:xs=[]:=cG (by omega)
   subst this
   exact aW (h [] s.drawn (.refl _))
 | succ n ih=>
   intro xs s Q hn h
   cases xs with
   | nil=>exact aW (h [] s.drawn (.refl _))
   | cons x xs=>
     unfold drawOrder
     refine aV (zVh (by simp) fun i d hi=>?_)
     have g:(x::xs)[i]?=some (x::xs)[i]:=aF hi
     rw [g]
     dsimp only
     refine aV (ih _ _ _ (by rw [List.length_eraseIdx];split <;> simp_all) fun ys d' p=>aW (h _ _ ?_))
     have:=qZ8 hi
     exact(List.Perm.cons _ p).trans this
end
theorem vK0 {α:Type} (next:Nat->Nat):∀(f k:Nat) (l:List α) (o:Array α),l.length<=f->(pickOrder.go next f k l o).toList.Perm (o.toList ++ l):=by
 intro f
 induction f with
 | zero=>
   intro k l o h
   have:l=[]:=cG (by omega)
   subst this
   unfold pickOrder.go
   rw [bR]
 | succ f ih=>
   intro k l o h
   unfold pickOrder.go
   cases l with
   | nil=>simp
   | cons x l=>
     have hi:next k % (x::l).length < (x::l).length:=Nat.mod_lt _ (by simp)
     rw [aF hi]
     dsimp only
     refine(ih _ _ _ (by rw [List.length_eraseIdx];split <;> simp_all)).trans ?_
     rw [Array.toList_push,cA]
     exact List.Perm.append_left _ (qZ8 hi)
theorem vZd {α:Type} (next:Nat->Nat) (xs:Array α):(pickOrder next xs).toList.Perm xs.toList:=by
 have:=vK0 next xs.size 0 xs.toList #[] (by simp)
 simpa [pickOrder] using this
def qQ3 (t:SetTable):Nat->Nat
 | 0=>0
 | i + 1=>t.place.getD i 0 + 1
theorem vXi {t:SetTable} (R:Ri t.place):∀ {i:Nat},i<=t.place.size->bU t.place (qQ3 t i)=i
 | 0,_=>by
   obtain⟨a,b,c⟩:=yV R (qQ3 t 0)
   by_cases z:0 < bU t.place (qQ3 t 0)
   ·exact absurd (b 0 z) (Nat.not_lt_zero _)
   ·omega
 | i + 1,h=>by
   have e:qQ3 t (i + 1)=t.place.getD i 0 + 1:=rfl
   rw [e]
   obtain⟨a,b,c⟩:=yV R (t.place.getD i 0 + 1)
   generalize bU t.place (t.place.getD i 0 + 1)=m at a b c⊢
   by_cases z:m < i + 1
   ·have h1:=c m (aG _) (by omega)
    by_cases y:m=i
    ·rw [y] at h1;omega
    ·have:=R m i (by omega) (by omega);omega
   ·by_cases z2:i + 1 < m
    ·have h1:=b (i + 1) z2
     have:=R i (i + 1) (by omega) (by omega)
     omega
    ·omega
abbrev yU (f:Value) (i:Nat) (v:Value) (n ep:Nat):Obj:={cls:= .type "set_iterator",dict:=none,data:= .fields #[f, .int i 0,v, .int n 0, .int ep 0],slots:=#[]}
section
variable {prog:aH} {w:bJ} {A:bF} {E:Value->aJ->Prop} {s:aJ} {a:aZ} {S:Int->Bool} {o:Obj} {es:Array (Int×Value)} {ep:Nat} {t:SetTable}
theorem qZg {Q:Bool->aJ->Prop} (h:Q (w.params.followText "set-order") s):aR (model prog w) A setsByText Q E s:=by
 unfold setsByText
 exact aV (wpAny_askSetting (aW h))
theorem zXx (e:s.heap.get? a=some o) (i:SetI prog w S o es ep t) (b:w.params.followText "set-order"=true) {sl g:Nat} {Q:Option (Value×Nat)->aJ->Prop}
  (h:Q (((pickOrder (w.params.setOrder a ep) es)[g]?).map fun e=>(e.2,sl)) s):aR (model prog w) A (setNext a sl g ep) Q E s:=by
 unfold setNext
 refine aV (fQ e i.da i.ft ?_)
 dsimp only
 refine aV (qZg ?_)
 refine vJt b ?_
 refine qQ4 (by simp) ?_
 unfold setWalk
 refine aV (aV (fQ e i.da i.ft ?_))
 dsimp only
 refine aV (qZg ?_)
 refine vJt b (aV (wpAny_askSetting (aW (aW h))))
theorem zXy (e:s.heap.get? a=some o) (i:SetI prog w S o es ep t) (b:w.params.followText "set-order"=false) (d:¬(!t.plain && decide (es.size > 1))=true) {j g:Nat} (hj:j<=es.size) {Q:Option (Value×Nat)->aJ->Prop}
  (h1:∀(hj:j < es.size),Q (some (es[j].2,qQ3 t (j + 1))) s) (h2:j=es.size->Q none s):aR (model prog w) A (setNext a (qQ3 t j) g ep) Q E s:=by
 have sz:t.place.size=es.size:=by
  have:=i.ft
  unfold SetTable.fits at this
  simp at this
  exact this.1
 unfold setNext
 refine aV (fQ e i.da i.ft ?_)
 dsimp only
 refine aV (qZg ?_)
 refine qQ4 (by rw [b];exact aA) ?_
 refine qQ4 d ?_
 refine aV ?_
 refine qQ4 (show¬(!t.led &&!es.isEmpty)=true by rw [i.ld,b];simp) ?_
 refine aW ?_
 rw [vXi i.ri (by omega)]
 refine aW ?_
 by_cases c:j < es.size
 ·have q1:es[j]?=some es[j]:=cU c
  have q2:t.place[j]?=some (t.place.getD j 0):=by rw [cU (by omega)];simp [Array.getD,show j < t.place.size by omega]
  rw [q1,q2]
  exact h1 c
 ·have q1:es[j]?=none:=Array.getElem?_eq_none (by omega)
  rw [q1]
  exact h2 (by omega)
end
section
variable {prog:aH} {w:bJ} {A:bF} {E:Value->aJ->Prop} {s:aJ} {a I:aZ} {S:Int->Bool} {o:Obj} {es:Array (Int×Value)} {ep j:Nat} {t:SetTable}
theorem vJj {f:Value} {k:Nat} {v:Value} {n:Nat} {Q:Option Value->aJ->Prop} (hI:s.heap.get? I=some (yU f k v n ep))
  (h:aR (model prog w) A.in1 (Builtin.«set_iterator.__next__» ⟨[.ref I],[]⟩) (fun fin s' =>∃r,fin= .done (.ret r)/\Q (some r) s') (fun e s' =>aR (model prog w) A (do if←isInstance e (.type "StopIteration") then pure none else throw e) Q E s') s):
  aR (model prog w) A (pyNext (.ref I)) Q E s:=by
 unfold pyNext
 refine aV (wpAny_attempt (wpAny_callSpecial?_slot (name:=cY "__next__") ⟨_,hI,rfl⟩ zF (dS zF ⟨_,hI,rfl⟩ qJr ?_ (qX3 _))))
 refine dB h ?_ ?_
 ·rintro fin s' ⟨r,rfl,q⟩
  exact⟨r,rfl,aW q⟩
 ·intro e s' q
  exact q
theorem vJi {P:PySem.Fin->aJ->Prop} {Q:Option Value->aJ->Prop} (hh:A.handled=none) (h:∀h',(∀b o,s.heap.get? b=some o->h'.get? b=some o)->Q none {s with heap:=h' }):
  aR (model prog w) A.in1 (do raiseNew (←newExc (.type "StopIteration") [])) P (fun e s' =>aR (model prog w) A (do if←isInstance e (.type "StopIteration") then pure none else throw e) Q E s') s:=by
 refine aV ?_
 simp only [newExc,newTuple]
 refine aV (cB ?_ (by size_fits))
 refine aV (m:=firstArgMember _ _) (wpAny_of_eq (a:=Value.none) (by first | rfl | (simp only [firstArgMember];rfl)) ?_)
 refine cB ?_ (by size_fits)
 simp only [raiseNew]
 refine aV (wpAny_handled ?_)
 rw [show A.in1.handled=none from hh]
 refine aV (aW (wpAny_throw ?_))
 refine aV (wpAny_isInstance (T:="StopIteration") (b:=true) ⟨_,aL _ rfl,rfl⟩ isSubtype_stop ?_)
 exact aW (h _ fun b o e=>aX _ (aX _ e))
theorem setG {vs:Array Value} {k:Nat} {x:Value} {Q:Unit->aJ->Prop} (e:s.heap.get? I=some {cls:= .type "set_iterator",dict:=none,data:= .fields vs,slots:=#[]}) (hk:k < vs.size)
  (h:∀h',h'.get? I=some {cls:= .type "set_iterator",dict:=none,data:= .fields (vs.setIfInBounds k x),slots:=#[]}->(∀b o,b≠I->s.heap.get? b=some o->h'.get? b=some o)->Q () {s with heap:=h' }):
  aR (model prog w) A (setField (.ref I) k x) Q E s:=by
 refine wpAny_setField_rec e hk fun h' q sb=>h h' q fun b o n y=>?_
 rw [sb.2 b n];exact y
theorem vQy (hI:s.heap.get? I=some (yU (.int (qQ3 t j) 0) j (.ref a) es.size ep)) (e:s.heap.get? a=some o) (i:SetI prog w S o es ep t) (b:w.params.followText "set-order"=false) (d:¬(!t.plain && decide (es.size > 1))=true)
  (hh:A.handled=none) (hj:j<=es.size) {Q:Option Value->aJ->Prop}
  (h1:∀(hj:j < es.size) h',h'.get? I=some (yU (.int (qQ3 t (j + 1)) 0) (j + 1) (.ref a) es.size ep)->(∀b o,b≠I->s.heap.get? b=some o->h'.get? b=some o)->Q (some es[j].2) {s with heap:=h' })
  (h2:j=es.size->∀h',(∀b o,b≠I->s.heap.get? b=some o->h'.get? b=some o)->Q none {s with heap:=h' }):aR (model prog w) A (pyNext (.ref I)) Q E s:=by
 refine vJj hI ?_
 unfold Builtin.«set_iterator.__next__»
 show aR _ _ (fieldsOf (.ref I) >>=_) _ _ s
 refine aV (wpAny_fieldsOf hI rfl ?_)
 dsimp only
 refine aV (wpAny_setEntries_of e i.da i.ft ?_)
 refine qQ4 (by simp) ?_
 refine aV ?_
 refine zXy e i b d hj (fun hj' =>?_) fun z=>?_
 ·dsimp only
  refine aV (setG hI (by simp) fun h' q1 q2=>?_)
  refine aV (setG (s:={s with heap:=h' }) q1 (by simp) fun h'' q3 q4=>?_)
  exact aW ⟨_,rfl,h1 hj' h'' q3 fun b o n y=>q4 b o n (q2 b o n y)⟩
 ·dsimp only
  refine aV (setG hI (by simp) fun h' q1 q2=>?_)
  exact vJi hh fun h'' q3=>h2 z h'' fun b o n y=>q3 b o (q2 b o n y)
end
section
variable {prog:aH} {w:bJ} {A:bF} {E:Value->aJ->Prop} {s:aJ} {a I T:aZ} {S:Int->Bool} {o:Obj} {es:Array (Int×Value)} {ep j:Nat} {t:SetTable}
theorem vQx (hI:s.heap.get? I=some (yU (.int 0 0) j (.ref a) es.size ep)) (e:s.heap.get? a=some o) (i:SetI prog w S o es ep t) (b:w.params.followText "set-order"=true)
  (hh:A.handled=none) {vs:Array (Int×Value)} (hv:vs=pickOrder (w.params.setOrder a ep) es) (hj:j<=vs.size) {Q:Option Value->aJ->Prop}
  (h1:∀(hj:j < vs.size) h',h'.get? I=some (yU (.int 0 0) (j + 1) (.ref a) es.size ep)->(∀b o,b≠I->s.heap.get? b=some o->h'.get? b=some o)->Q (some vs[j].2) {s with heap:=h' })
  (h2:j=vs.size->∀h',(∀b o,b≠I->s.heap.get? b=some o->h'.get? b=some o)->Q none {s with heap:=h' }):aR (model prog w) A (pyNext (.ref I)) Q E s:=by
 refine vJj hI ?_
 unfold Builtin.«set_iterator.__next__»
 show aR _ _ (fieldsOf (.ref I) >>=_) _ _ s
 refine aV (wpAny_fieldsOf hI rfl ?_)
 dsimp only
 refine aV (wpAny_setEntries_of e i.da i.ft ?_)
 refine qQ4 (by simp) ?_
 refine aV (zXx e i b ?_)
 rw [←hv]
 by_cases c:j < vs.size
 ·have q1:vs[(j:Int).toNat]?=some vs[j]:=cU c
  rw [q1]
  dsimp only [Option.map_some]
  refine aV (setG hI (by simp) fun h' q1 q2=>?_)
  refine aV (setG (s:={s with heap:=h' }) q1 (by simp) fun h'' q3 q4=>?_)
  exact aW ⟨_,rfl,h1 c h'' q3 fun b o n y=>q4 b o n (q2 b o n y)⟩
 ·have q1:vs[(j:Int).toNat]?=none:=Array.getElem?_eq_none (by simpa using c)
  rw [q1]
  dsimp only [Option.map_none]
  refine aV (setG hI (by simp) fun h' q1 q2=>?_)
  exact vJi hh fun h'' q3=>h2 (by omega) h'' fun b o n y=>q3 b o (q2 b o n y)
theorem zXz (e:s.heap.get? a=some o) (i:SetI prog w S o es ep t) {k:Nat} (hk:k < es.size) {Q:Value->aJ->Prop} (h:Q es[k].2 s):aR (model prog w) A (setNextDrawn a k ep) Q E s:=by
 unfold setNextDrawn
 refine aV (fQ e i.da i.ft ?_)
 dsimp only
 refine qQ4 (by simp) ?_
 rw [cU hk]
 exact aW h
theorem vQz {ys:List Nat} {oT:Obj} {nT:Nat} (hI:s.heap.get? I=some (yU (.ref T) j (.ref a) es.size ep)) (e:s.heap.get? a=some o) (i:SetI prog w S o es ep t)
  (hT:s.heap.get? T=some oT) (dT:oT.data= .seq (ys.map fun y=>Value.int (y:Nat) 0).toArray nT) (hy:∀y∈ys,y < es.size) (nT:T≠I)
  (hh:A.handled=none) (hj:j<=ys.length) {Q:Option Value->aJ->Prop}
  (h1:∀(hj:j < ys.length) (hy:ys[j] < es.size) h',h'.get? I=some (yU (.ref T) (j + 1) (.ref a) es.size ep)->(∀b o,b≠I->s.heap.get? b=some o->h'.get? b=some o)->Q (some es[ys[j]].2) {s with heap:=h' })
  (h2:j=ys.length->∀h',(∀b o,b≠I->s.heap.get? b=some o->h'.get? b=some o)->Q none {s with heap:=h' }):aR (model prog w) A (pyNext (.ref I)) Q E s:=by
 refine vJj hI ?_
 unfold Builtin.«set_iterator.__next__»
 show aR _ _ (fieldsOf (.ref I) >>=_) _ _ s
 refine aV (wpAny_fieldsOf hI rfl ?_)
 dsimp only
 refine aV (wpAny_setEntries_of e i.da i.ft ?_)
 refine qQ4 (by simp) ?_
 refine aV (wpAny_seqItems hT dT ?_)
 dsimp only
 by_cases c:j < ys.length
 ·have q1:(ys.map fun y=>Value.int (y:Nat) 0).toArray[(j:Int).toNat]?=some (Value.int (ys[j]:Nat) 0):=by
   rw [Int.toNat_natCast,List.getElem?_toArray,bP,aF c];rfl
  rw [q1]
  dsimp only
  have hk:=hy _ (eY c)
  refine aV (zXz e i (k:=ys[j]) hk ?_)
  refine aV (setG hI (by simp) fun h' q1 q2=>?_)
  exact aW ⟨_,rfl,h1 c hk h' q1 q2⟩
 ·have q1:(ys.map fun y=>Value.int (y:Nat) 0).toArray[(j:Int).toNat]?=none:=by
   rw [Int.toNat_natCast,List.getElem?_toArray,List.getElem?_eq_none (by simpa using c)]
  rw [q1]
  dsimp only
  refine aV (setG hI (by simp) fun h' q1 q2=>?_)
  refine aV (setG (s:={s with heap:=h' }) q1 (by simp) fun h'' q3 q4=>?_)
  exact vJi hh fun h3 q5=>h2 (by omega) h3 fun b o n y=>q5 b o (q4 b o n (q2 b o n y))
end
section
variable {prog:aH} {w:bJ} {A:bF} {E:Value->aJ->Prop} {s:aJ} {a I T:aZ} {S:Int->Bool} {o:Obj} {es:Array (Int×Value)} {ep j:Nat} {t:SetTable}
theorem qW3 {f:Value} {k:Nat} {v:Value} {n:Nat} {Q:Value->aJ->Prop} (hI:s.heap.get? I=some (yU f k v n ep)) (h:Q (.ref I) s):aR (model prog w) A (pyIter (.ref I)) Q E s:=by
 refine wpAny_pyIter_slot ⟨_,hI,rfl⟩ qVf (dS qVf ⟨_,hI,rfl⟩ qJs ?_ (qX4 _))
 exact aW ⟨_,rfl,"set_iterator",_,⟨_,hI,rfl⟩,zF.lookup,h⟩
theorem vVz (i:SetI prog w S o es ep t) (n:a≠I) (hh:A.handled=none) (b:w.params.followText "set-order"=false) (d:¬(!t.plain && decide (es.size > 1))=true):
  Walks prog w A I [I,a] [I] (es.toList.map (·.2)).length (fun k v=>(es.toList.map (·.2))[k]?=some v) (fun k h=>h.get? I=some (yU (.int (qQ3 t k) 0) k (.ref a) es.size ep)/\h.get? a=some o) where
 sub:=fun b hb=>by simp at hb;simp [hb]
 frame:=fun _ _ _ st hk=>⟨hk I (by simp) _ st.1,hk a (by simp) _ st.2⟩
 item:=fun k s Q E hk st hQ=>by
  have hk' :k < es.size:=by simpa using hk
  refine vQy st.1 st.2 i b d hh (dL hk') (fun _ h' q1 q2=>hQ _ h' s.toks (by simp [hk']) ⟨q1,q2 a _ n st.2⟩ fun b o hb e=>q2 b o (fun z=>hb (by simp [z])) e) fun z=>by omega
 done:=fun s Q E st hQ=>by
  rw [show(es.toList.map (·.2)).length=es.size by simp] at st
  exact vQy st.1 st.2 i b d hh (aG _) (fun z=>absurd z (bN _)) fun _ h' q=>hQ h' s.toks fun b o hb e=>q b o (fun z=>hb (by simp [z])) e
 self:=fun _ _ _ _ st hQ=>qW3 st.1 hQ
theorem vVy (i:SetI prog w S o es ep t) (n:a≠I) (hh:A.handled=none) (b:w.params.followText "set-order"=true):
  Walks prog w A I [I,a] [I] ((pickOrder (w.params.setOrder a ep) es).toList.map (·.2)).length (fun k v=>((pickOrder (w.params.setOrder a ep) es).toList.map (·.2))[k]?=some v) (fun k h=>h.get? I=some (yU (.int 0 0) k (.ref a) es.size ep)/\h.get? a=some o) where
 sub:=fun b hb=>by simp at hb;simp [hb]
 frame:=fun _ _ _ st hk=>⟨hk I (by simp) _ st.1,hk a (by simp) _ st.2⟩
 item:=fun k s Q E hk st hQ=>by
  have hk' :k < (pickOrder (w.params.setOrder a ep) es).size:=by simpa using hk
  refine vQx st.1 st.2 i b hh rfl (dL hk') (fun _ h' q1 q2=>hQ _ h' s.toks (by simp [hk']) ⟨q1,q2 a _ n st.2⟩ fun b o hb e=>q2 b o (fun z=>hb (by simp [z])) e) fun z=>by omega
 done:=fun s Q E st hQ=>by
  rw [show((pickOrder (w.params.setOrder a ep) es).toList.map (·.2)).length=(pickOrder (w.params.setOrder a ep) es).size by simp] at st
  exact vQx st.1 st.2 i b hh rfl (aG _) (fun z=>absurd z (bN _)) fun _ h' q=>hQ h' s.toks fun b o hb e=>q b o (fun z=>hb (by simp [z])) e
 self:=fun _ _ _ _ st hQ=>qW3 st.1 hQ
def byY (es:Array (Int×Value)) (ys:List Nat):List Value:=ys.map fun y=>(es.getD y (0, .none)).2
theorem vV0 {ys:List Nat} {oT:Obj} {nT:Nat} (i:SetI prog w S o es ep t) (n:a≠I) (m:T≠I) (hh:A.handled=none) (dT:oT.data= .seq (ys.map fun y=>Value.int (y:Nat) 0).toArray nT) (hy:∀y∈ys,y < es.size):
  Walks prog w A I [I,a,T] [I] (byY es ys).length (fun k v=>(byY es ys)[k]?=some v) (fun k h=>h.get? I=some (yU (.ref T) k (.ref a) es.size ep)/\h.get? a=some o/\h.get? T=some oT) where
 sub:=fun b hb=>by simp at hb;simp [hb]
 frame:=fun _ _ _ st hk=>⟨hk I (by simp) _ st.1,hk a (by simp) _ st.2.1,hk T (by simp) _ st.2.2⟩
 item:=fun k s Q E hk st hQ=>by
  have hk' :k < ys.length:=by simpa [byY] using hk
  refine vQz st.1 st.2.1 i st.2.2 dT hy m hh (dL hk') (fun _ hy' h' q1 q2=>hQ _ h' s.toks ?_ ⟨q1,q2 a _ n st.2.1,q2 T _ m st.2.2⟩ fun b o hb e=>q2 b o (fun z=>hb (by simp [z])) e) fun z=>by omega
  simp [byY,hk',Array.getD,hy']
 done:=fun s Q E st hQ=>by
  rw [show(byY es ys).length=ys.length by simp [byY]] at st
  exact vQz st.1 st.2.1 i st.2.2 dT hy m hh (aG _) (fun z=>absurd z (bN _)) fun _ h' q=>hQ h' s.toks fun b o hb e=>q b o (fun z=>hb (by simp [z])) e
 self:=fun _ _ _ _ st hQ=>qW3 st.1 hQ
theorem vYy {ys:List Nat} (p:ys.Perm (List.range es.size)):(byY es ys).Perm (es.toList.map (·.2)):=by
 unfold byY
 refine(p.map _).trans ?_
 have:(List.range es.size).map (fun y=>(es.getD y (0, .none)).2)=es.toList.map (·.2):=by
  refine List.ext_getElem (by simp) fun i h1 h2=>?_
  have h3:i < es.size:=by simpa using h2
  simp [Array.getD,h3]
 rw [this]
end
structure Wk (prog:aH) (w:bJ) (s:aJ) (a:aZ) (es:Array (Int×Value)) (I:aZ) (h' :Heap) (vs:List Value) (fp:List aZ) (St:Nat->Heap->Prop):Prop where
 wk:∀A:bF,A.handled=none->Walks prog w A I fp [I] vs.length (fun k v=>vs[k]?=some v) St
 st:St 0 h'
 keep:∀b o,s.heap.get? b=some o->h'.get? b=some o
 far:∀b∈fp,b=a\/s.heap.objs.size<=b
 new:s.heap.objs.size<=I
 pm:vs.Perm (es.toList.map (·.2))
section
variable {prog:aH} {w:bJ} {A:bF} {E:Value->aJ->Prop} {s:aJ} {a:aZ} {S:Int->Bool} {o:Obj} {es:Array (Int×Value)} {ep j:Nat} {t:SetTable}
theorem zWw (e:s.heap.get? a=some o) (i:SetI prog w S o es ep t) {Q:Bool->aJ->Prop} (h:Q (!w.params.followText "set-order" && (!t.plain && decide (es.size > 1))) s):aR (model prog w) A (setDrawn a) Q E s:=by
 unfold setDrawn
 refine aV (fQ e i.da i.ft ?_)
 dsimp only
 exact aV (qZg (aW h))
theorem zX6 (e:s.heap.get? a=some o) (i:SetI prog w S o es ep t) {Q:Value->aJ->Prop} (h:∀I h' vs fp St d,Wk prog w s a es I h' vs fp St->Q (.ref I) {s with heap:=h',drawn:=d}):aR (model prog w) A (pyIter (.ref a)) Q E s:=by
 have la:a < s.heap.objs.size:=aD e
 refine wpAny_pyIter_slot ⟨o,e,i.ex.1⟩ PySem.F.slot_set_iter (dS PySem.F.slot_set_iter ⟨o,e,i.ex.1⟩ qJk ?_ (PySem.F.args_set_iter_1 _))
 unfold Builtin.«frozenset.__iter__»
 show aR _ _ (Builtin.Frozenset.sizeOf a >>=_) _ _ s
 unfold Builtin.Frozenset.sizeOf
 refine aV (aV (wpAny_setEntries_of e i.da i.ft (aW ?_)))
 refine aV (zWw e i ?_)
 cases b:w.params.followText "set-order" with
 | true=>
   refine aV (aW (aV (wpAny_setEpoch_of e i.da i.ft ?_)))
   refine aV (cB (aW ⟨_,rfl,"set_iterator",_,⟨_,aL _ rfl,rfl⟩,zF.lookup,?_⟩))
   exact h _ _ _ _ _ s.drawn ⟨fun A hA=>vVy i (bZ la) hA b,⟨aL _ rfl,aX _ e⟩,fun b o q=>aX _ q,fun b hb=>(aB.mp hb).elim (fun z=> .inr (Nat.le_of_eq z.symm)) fun z=> .inl (aS.mp z),aG _,(vZd _ _).map _⟩
 | false=>
   by_cases d:(!t.plain && decide (es.size > 1))=true
   ·rw [d]
    refine aV (zYf _ _ _ _ (by simp) fun ys dr p=>?_)
    have few:es.size < 4096:=i.sm
    have ln:ys.length=es.size:=by rw [p.length_eq];simp
    refine aV (m:=newTuple _) (cB (s:={s with drawn:=dr}) ?_ (by show _<=bX;rw [bQ,aY,ln];unfold bX;omega))
    have e1:(s.heap.push {cls:= .type "tuple",dict:=none,data:= .seq (ys.map fun i=>rawInt (i:Nat)).toArray}).get? a=some o:=aX _ e
    refine aV (wpAny_setEpoch_of e1 i.da i.ft ?_)
    refine aV (cB (aW ⟨_,rfl,"set_iterator",_,⟨_,aL _ rfl,rfl⟩,zF.lookup,?_⟩))
    refine h _ _ _ _ _ dr ⟨fun A hA=>vV0 (T:=s.heap.objs.size) (ys:=ys) i ?_ ?_ hA rfl ?_,⟨aL _ rfl,aX _ e1,aX _ (aL _ rfl)⟩,fun b o q=>aX _ (aX _ q),fun b hb=>?_,?_,vYy p⟩
    ·rw [cZ];exact bZ (dE la)
    ·rw [cZ];exact bZ (Nat.lt_succ_self _)
    ·intro y hy
     exact List.mem_range.mp (p.mem_iff.mp hy)
    ·rw [cZ] at hb
     rcases aB.mp hb with hb | hb
     ·exact .inr (by rw [hb];exact eA _)
     ·rcases aB.mp hb with hb | hb
      ·exact .inl hb
      ·exact .inr (by rw [aS.mp hb];exact aG _)
    ·rw [cZ];exact eA _
   ·rw [show(!t.plain && decide (es.size > 1))=false from by simpa using d]
    refine aV (aW (aV (wpAny_setEpoch_of e i.da i.ft ?_)))
    refine aV (cB (aW ⟨_,rfl,"set_iterator",_,⟨_,aL _ rfl,rfl⟩,zF.lookup,?_⟩))
    exact h _ _ _ _ _ s.drawn ⟨fun A hA=>vVz i (bZ la) hA b d,⟨aL _ rfl,aX _ e⟩,fun b o q=>aX _ q,fun b hb=>(aB.mp hb).elim (fun z=> .inr (Nat.le_of_eq z.symm)) fun z=> .inl (aS.mp z),aG _, .refl _⟩
end
abbrev ls0:Obj:={cls:= .type "list",data:= .seq ([]:List Value).toArray}
section
variable {prog:aH} {w:bJ} {A:bF} {E:Value->aJ->Prop} {s:aJ} {a:aZ} {S:Int->Bool} {o:Obj} {es:Array (Int×Value)} {ep j:Nat} {t:SetTable}
theorem zX9 {Q:Bool->aJ->Prop} (hT:s.TypeIs (.ref a) "set") (h:Q false s):aR (model prog w) A (Builtin.List.listLengthHint (.ref a)) Q E s:=by
 unfold Builtin.List.listLengthHint
 refine aV (wpAny_specialOf hT PySem.F.slot_set_len.lookup ?_)
 generalize hid:("set.__len__":String)=id0
 wp_delta
 rw [show splitId id0=some ("set","__len__") from by subst hid;decide +kernel]
 subst hid
 refine aV (wpAny_isInstance (b:=true) hT sub_set_self ?_)
 show aR _ _ (typeOf (Value.ref a) >>=_) _ _ _
 refine aV (wpAny_typeOf hT ?_)
 exact aW h
set_option maxHeartbeats 1000000 in
theorem vYu (hh:A.handled=none) (e:s.heap.get? a=some o) (i:SetI prog w S o es ep t) {Q:List Value->aJ->Prop}
  (h:∀s' vs,(∀b o,s.heap.get? b=some o->s'.heap.get? b=some o)->s'.gens=s.gens->s'.os=s.os->s.heap.objs.size<=s'.heap.objs.size->vs.Perm (es.toList.map (·.2))->Q vs s'):aR (model prog w) A (collect (.ref a)) Q E s:=by
 have la:a < s.heap.objs.size:=aD e
 have few:es.size < 4096:=i.sm
 unfold collect
 refine aV (wpAny_runValue (cR PySem.F.entry_proto_collect ?_))
 rw [cP PySem.F.plain_proto_collect _]
 show aR _ A.in1 (newList [] >>=fun l=>again (.builtin "list.__iadd__" ⟨[l, .ref a],[]⟩)) _ _ s
 refine aV (cB ?_)
 refine aW ⟨dZ PySem.F.plain_list_iadd _,cR PySem.F.entry_list_iadd ?_⟩
 rw [cP PySem.F.plain_list_iadd _]
 show aR _ A.in1 (Builtin.List.listExtendWith (.ref s.heap.objs.size) (.ref a) (.ref s.heap.objs.size)) _ _ _
 have e1:(s.heap.push ls0).get? a=some o:=aX _ e
 have eS:(s.heap.push ls0).get? s.heap.objs.size=some ls0:=aL _ rfl
 unfold Builtin.List.listExtendWith
 refine aV (wpAny_typeOf (T:="set") ⟨_,e1,i.ex.1⟩ ?_)
 refine qQ4 ?_ ?_
 ·have h1:Builtin.List.listSameRef (.ref s.heap.objs.size) (.ref a)=false:=by simp [Builtin.List.listSameRef,dI la]
  rw [h1]
  decide
 refine aV (zX6 (s:={s with heap:=s.heap.push ls0}) e1 i fun I h' vs fp St d W=>?_)
 refine aV (dD (zX9 ⟨_,W.keep a _ e1,i.ex.1⟩ ?_))
 refine vJt (by decide) ?_
 refine aV (wpAny_rule ?_)
 refine aV ?_
 show aR _ A.in1 (updateSeq s.heap.objs.size (·.push .none) >>=fun _=>updateSeq s.heap.objs.size (·.pop)) _ _ _
 have f1:=W.keep _ _ eS
 refine aV (eX f1 rfl ?_)
 have f2:=dO (Obj.mapSeq (·.push Value.none)) f1 rfl
 refine eX f2 rfl ?_
 have f3:=dO (Obj.mapSeq (·.pop)) f2 rfl
 have oth:∀b o,b≠s.heap.objs.size->h'.get? b=some o->((h'.update s.heap.objs.size (Obj.mapSeq (·.push Value.none))).update s.heap.objs.size (Obj.mapSeq (·.pop))).get? b=some o:=
  fun b o hb q=>(cC _ _ (Ne.symm hb)).trans ((cC _ _ (Ne.symm hb)).trans q)
 have Sf:s.heap.objs.size∉fp:=fun z=>by
  rcases W.far _ z with z | z
  ·exact absurd z (dI la)
  ·have z:(s.heap.push ls0).objs.size<=s.heap.objs.size:=z
   rw [cZ] at z
   exact absurd z (Nat.not_succ_le_self _)
 have Wk:=W.wk A.in1 hh
 have ln:vs.length=es.size:=by rw [W.pm.length_eq];simp
 refine aW ⟨dZ PySem.F.plain_extend_loop _,codeAny_extend_loopS Wk.toS (by rw [ln];unfold bX;omega) _ Sf _ vs.length 0 _ _ _ rfl (cH _) (Wk.frame 0 h' _ W.st fun b hb o q=>oth b o (fun z=>Sf (z▸hb)) q) f3 (ItemsOf.nil _) fun s' acc c m g it=>?_⟩
 show aR _ A (load s.heap.objs.size >>=_) _ _ s'
 refine aV (wpAny_load g ?_)
 have eq:acc.toList=vs:=by
  refine List.ext_getElem? fun k=>?_
  rw [Array.getElem?_toList]
  cases c:acc[k]? with
  | some v=>exact(it.2 k v c).symm
  | none=>
    have:acc.size<=k:=Array.getElem?_eq_none_iff.mp c
    rw [it.1] at this
    exact(List.getElem?_eq_none this).symm
 refine aW (h s' _ (fun b o q=>?_) m.gens m.os (dL (aD g)) (by rw [eq];exact W.pm))
 have lb:=aD q
 refine m.heap b o (fun z=>?_) (oth b o (bZ lb) (W.keep b o (aX _ q)))
 rcases aB.mp z with z | z
 ·exact absurd z (bZ lb)
 ·have n:(s.heap.push ls0).objs.size<=I:=W.new
  rw [cZ] at n
  rw [aS.mp z] at lb
  exact absurd (aM lb (Nat.le_of_succ_le n)) (bN _)
end
theorem isI {prog:aH} {w:bJ} {k:Int} {v:Value} (h:(intKind prog w).is k v=true):∃t,v= .int k t:=by
 have h:Value.isInt k v=true:=h
 cases v with
 | int n t=>
   have:n=k:=by simpa [Value.isInt] using h
   exact⟨t,by rw [this]⟩
 | _=>simp [Value.isInt] at h
theorem ints_of {prog:aH} {w:bJ}:∀ {vs:List Value},(∀v∈vs,∃k,(intKind prog w).is k v=true)->∃ns,IntsAre vs ns
 | [],_=>⟨[], .nil⟩
 | v::vs,h=>by
   obtain⟨k,hk⟩:=h v (aI ..)
   obtain⟨t,rfl⟩:=isI hk
   obtain⟨ns,hn⟩:=ints_of (prog:=prog) (w:=w) (vs:=vs) fun u hu=>h u (aE _ hu)
   exact⟨k::ns, .cons k t hn⟩
theorem qYw:∀ {vs:List Value} {ns:List Int},IntsAre vs ns->vs.length=ns.length
 | _,_, .nil=>rfl
 | _,_, .cons _ _ h=>by rw [aK,aK,qYw h]
theorem qYv:∀ {vs:List Value} {ns:List Int} {k:Int},IntsAre vs ns->(k∈ns↔∃t,Value.int k t∈vs)
 | _,_,k, .nil=>by simp
 | _,_,k, .cons n t h=>by
   rw [aB,qYv h]
   constructor
   ·rintro(rfl | ⟨u,hu⟩)
    ·exact⟨t,aI ..⟩
    ·exact⟨u,aE _ hu⟩
   ·rintro⟨u,hu⟩
    rcases aB.mp hu with hu | hu
    ·injection hu with h1 _;exact .inl h1
    ·exact .inr ⟨u,hu⟩
theorem vQ9:∀ {l ns:List Int},l.Nodup->(∀x∈l,x∈ns)->ns.length<=l.length->ns.Perm l
 | [],ns,_,_,h=>by
   have:ns=[]:=cG (by simpa using h)
   rw [this]
 | x::l,ns,nd,sb,h=>by
   have hx:=sb x (aI ..)
   rw [bO] at nd
   have p:=List.perm_cons_erase hx
   refine p.trans (List.Perm.cons x (vQ9 nd.2 (fun y hy=>?_) ?_))
   ·exact(List.mem_erase_of_ne fun(z:y=x)=>nd.1 (by rw [←z];exact hy)).mpr (sb y (aE _ hy))
   ·have:=p.length_eq
    rw [aK] at this h
    omega
section
variable {prog:aH} {w:bJ} {A:bF} {E:Value->aJ->Prop} {s:aJ} {a:aZ}
set_option maxHeartbeats 2000000 in
theorem qY2 {l:List Int} (nd:l.Nodup) (hh:A.handled=none) (g:SetG prog w a (fun j=>l.any (· == j)) l.length s.heap) (few:l.length < 64) {Q:Value->aJ->Prop}
  (h:∀s' D out ns c,(∀b o,s.heap.get? b=some o->s'.heap.get? b=some o)->s'.gens=s.gens->s'.os=s.os->s.heap.objs.size<=D->s'.heap.get? D=some (seqObj "list" out c)->IntsAre out.toList ns->ns.Perm l->ns.Pairwise (·<=·)->Q (.ref D) s'):
  aR (model prog w) A (call (.builtin "sorted") [.ref a]) Q E s:=by
 obtain⟨o,es,ep,t,e,i,z⟩:=g
 refine Calls.call_function_entry kind_sorted plain_sorted entry_sorted (args_sorted1 _) ?_
 unfold Builtin.«sorted»
 refine aV (m:=checkCount "sorted" 1 1 _) (aW ?_)
 refine aV (vYu (A:=A.in1) hh e i fun s1 vs k1 k2 k3 k4 pm=>?_)
 have ln:vs.length=l.length:=by rw [pm.length_eq,←z];simp
 obtain⟨ns,hI⟩:=ints_of (prog:=prog) (w:=w) (vs:=vs) fun v hv=>by
  obtain⟨y,hy,rfl⟩:=bG.mp (pm.mem_iff.mp hv)
  obtain⟨⟨k,hk,_⟩,_⟩:=i.el y hy
  exact⟨k,hk⟩
 have np:ns.Perm l:=by
  refine vQ9 nd (fun x hx=>?_) (by rw [←qYw hI];omega)
  obtain⟨y,hy,hk⟩:=(i.me x).mp (List.any_eq_true.mpr ⟨x,hx,by simp⟩)
  obtain⟨tk,ht⟩:=isI hk
  exact(qYv hI).mpr ⟨tk,pm.mem_iff.mpr (bG.mpr ⟨y,hy,ht⟩)⟩
 refine aV (wpAny_newList ?_ (by rw [ln];unfold bX;omega))
 have at1:(s1.heap.push (seqObj "list" vs.toArray 0)).get? s1.heap.objs.size=some (seqObj "list" vs.toArray 0):=aL _ rfl
 refine aV (dD (dS slot_list_sort ⟨_,at1,rfl⟩ entry_list_sort (list_sort_tree (s:={s1 with heap:=s1.heap.push (seqObj "list" vs.toArray 0)}) at1 hI (by omega) fun out ns' a1 a2 a3=>⟨_,rfl,?_⟩) (args_list_sort _)))
 refine aW ⟨_,rfl,?_⟩
 obtain⟨c,hc⟩:=sortedHeap_at (out:=out) at1
 refine h {s1 with heap:=sortedHeap (s1.heap.push (seqObj "list" vs.toArray 0)) s1.heap.objs.size vs out} s1.heap.objs.size out ns' c (fun b o q=>?_) k2 k3 k4 hc a1 (a2.trans np) a3
 have q1:=k1 b o q
 have q2:=aD q1
 show(sortedHeap _ _ _ _).get? b=_
 rw [sortedHeap_old (bZ q2) (by rw [cZ];exact dE q2)]
 exact aX _ q1
end
end SG
namespace L2
open PySem PySem.Spec PySem.W PyProof.Rows SG
def StX (prog:aH) (w:bJ) (a:aZ) (l:List Int):HO:= .ext (fun h=>SetG prog w a (fun j=>l.any (· == j)) l.length h)
theorem zZu {prog:aH} {w:bJ} {H:Hp} {a:aZ} {l:List Int} {h:Heap} (p:SetG prog w a (fun j=>l.any (· == j)) l.length h):vJ prog w H h a (StX prog w a l):=by
 refine⟨p,?_,fun _ _ q k=>q.at k⟩
 obtain⟨o,_,_,_,e,_⟩:=p
 exact⟨o,e⟩
theorem Inv.move {X:Cx} {pins:List (aZ×Obj)} {σ:L2.St} {H:Hp} {s s2:aJ} (I:Inv X pins σ H s) (h1:s2.heap=s.heap) (h2:s2.os=s.os) (h3:s2.gens=s.gens):Inv X pins σ H s2:=by
 obtain⟨g1,g2,g3,g4,g5⟩:=s2
 cases h1;cases h2;cases h3
 exact⟨I.ok,I.os,I.bare,I.base,I.loc,I.cell,I.free,I.freeC,I.pin,I.hok,I.len⟩
section
variable {X:Cx}
theorem vZ8 (hc:X.calm=true):zZ X (.type "set") (fun xs H Q=>∃(a:aZ) (ns:List Int),xs=[.ref a]/\SqL X.K H a (ns.map V.int)/\ns.length<=2000/\∀p,H p=none->Q (.ref p) (upd H p (StX X.prog X.w p (vZ ns)))):=by
 intro pins s σ H xs us Q I r h
 obtain⟨a,ns,rfl,hl,few,q⟩:=h
 obtain⟨u,rfl,ru⟩:=jI r
 cases(show u=Value.ref a from ru)
 obtain⟨its,rv,pl,_⟩:=I.list hl
 have hi:IntsAre its ns:=yQ rv
 have len:=rv.length
 rw [aY] at len
 refine vZ9 (I.ok.hd hc) pl.isList (ns:=ns) (by simpa using hi) (by rw [bQ,←len];show ns.length + 1 < 4096;omega) fun h' tk g kept=>?_
 have e:its.toArray.size=ns.length:=by rw [bQ,←len]
 rw [e] at g
 exact⟨.ref _,_,I.laid (t' :=tk) (a:=s.heap.objs.size) (o:=StX X.prog X.w s.heap.objs.size (vZ ns)) (h' :=h') (fun b o e=>kept b o (aD e) e) (aG _) (zZu g),rfl,q _ (I.hok.fresh (aG _))⟩
theorem vJb:zZ X (.builtin "len") (fun xs H Q=>∃(a:aZ) (l:List Int),xs=[.ref a]/\H a=some (StX X.prog X.w a l)/\Q (.int (l.length:Nat)) H):=by
 intro pins s σ H xs us Q I r h
 obtain⟨a,l,rfl,ha,q⟩:=h
 obtain⟨u,rfl,ru⟩:=jI r
 cases(show u=Value.ref a from ru)
 obtain⟨⟨o,es,ep,t,e1,i,z⟩,_,_⟩:=(show vJ X.prog X.w H s.heap a (StX X.prog X.w a l) from I.hok a _ ha)
 refine call_len_set e1 i.ex i.da i.ft (by have:es.size < 4096:=i.sm;omega) ?_
 rw [z]
 exact⟨.int (l.length:Nat),H,I.tok _,⟨_,rfl⟩,q⟩
theorem qXx (hc:X.calm=true):zZ X (.builtin "sorted") (fun xs H Q=>∃(a:aZ) (l:List Int),xs=[.ref a]/\H a=some (StX X.prog X.w a l)/\l.Nodup/\l.length < 64/\
  ∀(D:aZ) (ns:List Int),H D=none->ns.Perm l->ns.Pairwise (·<=·)->Q (.ref D) (upd H D (.lst (ns.map V.int)))):=by
 intro pins s σ H xs us Q I r h
 obtain⟨a,l,rfl,ha,nd,few,q⟩:=h
 obtain⟨u,rfl,ru⟩:=jI r
 cases(show u=Value.ref a from ru)
 obtain⟨g,_,_⟩:=(show vJ X.prog X.w H s.heap a (StX X.prog X.w a l) from I.hok a _ ha)
 refine qY2 nd (I.ok.hd hc) g few fun s' D out ns c k1 k2 k3 k4 k5 k6 k7 k8=>?_
 have v:=qQj k6
 have ln:=k7.length_eq
 have I' :=I.laid (t' :=s'.toks) (a:=D) (o:= .lst (ns.map V.int)) (h' :=s'.heap) k1 k4 ⟨by rw [aY];unfold bX;omega,out.toList,c,v,k5⟩
 exact⟨.ref D,_,I'.move rfl k3 k2,rfl,q D ns (I.hok.fresh k4) k7 k8⟩
theorem qXy:zZ X (.builtin "sorted") (fun xs H Q=>∃(a:aZ) (l:List Int),xs=[.ref a]/\SqL X.K H a (l.map V.int)/\l.length < 64/\
  ∀(D:aZ) (ns:List Int),H D=none->ns.Perm l->ns.Pairwise (·<=·)->Q (.ref D) (upd H D (.lst (ns.map V.int)))):=by
 intro pins s σ H xs us Q I r h
 obtain⟨a,l,rfl,hl,few,q⟩:=h
 obtain⟨u,rfl,ru⟩:=jI r
 cases(show u=Value.ref a from ru)
 obtain⟨its,rv,pl,_⟩:=I.list hl
 have hi:IntsAre its l:=yQ rv
 have len:=rv.length
 rw [aY] at len
 refine sorted_ints pl.isList hi (by omega) fun out ns' a1 a2 a3=>?_
 have v:=qQj a1
 have ln:=a2.length_eq
 have sz:((s.heap.push (seqObj "list" #[] 0)).update s.heap.objs.size (Obj.mapSeq (· ++ its.toArray))).objs.size=s.heap.objs.size + 1:=by rw [Heap.size_update,size_push']
 have at1:(((s.heap.push (seqObj "list" #[] 0)).update s.heap.objs.size (Obj.mapSeq (· ++ its.toArray))).push (seqObj "list" its.toArray 0)).get? (s.heap.objs.size + 1)=some (seqObj "list" its.toArray 0):=by
  rw [←sz];exact aL _ rfl
 obtain⟨c,hc⟩:=sortedHeap_at (out:=out) at1
 have kept:∀b o,s.heap.get? b=some o->(sortedAll s.heap its out).get? b=some o:=fun b o e=>by
  have hb:=aD e
  unfold sortedAll
  rw [sortedHeap_old (bZ (dE hb)) (by rw [cZ,sz];exact dE (dE hb))]
  exact aX _ (((eQ _ s.heap.objs.size _).2 b (bZ hb)).trans (aX _ e))
 have I' :=I.laid (t' :=s.toks) (a:=s.heap.objs.size + 1) (o:= .lst (ns'.map V.int)) (h' :=sortedAll s.heap its out) kept (eA _) ⟨by rw [aY];unfold bX;omega,out.toList,c,v,hc⟩
 exact⟨.ref _,_,I',rfl,q _ ns' (I.hok.fresh (eA _)) a2 a3⟩
end
end L2
namespace DX
open PySem L2 PyProof.Rows
section
variable {X:Cx} {K:aQ} {c:Nat->aZ} {E:XK} {e:Expr} {o:Oe} {p pos p2 pos2:Pos}
def sortID (xs:List D):Option (List D):=(wB xs).bind fun ns=>cond (decide (ns.length < 64)) (some ((aO ns).map D.int)) none
theorem vWz {F:Hp} (ns:List Int):DsAt K c F (ns.map V.int) (ns.map D.int):=by
 induction ns with
 | nil=>exact .nil
 | cons n ns ih=>exact .cons (.int n) ih
theorem vwsI {T:Fp} {H:Hp} {us:List V} {xs:List D} {ns:List Int} (hv:Vws K c (hide T H) H us xs) (e:wB xs=some ns):∃p,us=[.ref p]/\SqL K H p (ns.map V.int):=by
 unfold wB at e
 split at e
 ·obtain⟨u,rfl,v⟩:=vws1 hv
  obtain⟨p,vs,rfl,h1,h2⟩:=v.un qG
  have h1:SqL K H p vs:=h1
  rw [qVt h2 e] at h1
  exact⟨p,rfl,h1⟩
 ·cases e
theorem vXu:PrF K c (fun xs H Q=>∃(a:aZ) (l:List Int),xs=[.ref a]/\SqL K H a (l.map V.int)/\l.length < 64/\
  ∀(D:aZ) (ns:List Int),H D=none->ns.Perm l->ns.Pairwise (·<=·)->Q (.ref D) (upd H D (.lst (ns.map V.int)))) sortID:=fun us H T xs ds Q hb hv e q=>by
 obtain⟨ns,e1,e2⟩:=bnd e
 obtain⟨q1,q2⟩:=vE e2
 cases q2
 obtain⟨p,rfl,h1⟩:=vwsI hv e1
 refine⟨p,ns,rfl,h1,of_decide_eq_true q1,fun l ms hl pm pw=>?_⟩
 rw [PySem.W.eq_sortI pm pw]
 exact q l _ _ hl (.upd hl) upd_same (vWz _)
theorem qWh (hg:Gl X "sorted") (hm:X.mg "sorted"=none) (ha:OD X c E e o) (he:aU [e] X.env=[(false,eval e X.env)]:=by rfl) (h0:aU [] X.env=[]:=by rfl):ED X c E (.Call (.Name "sorted" p) [e] [] pos) (eF sortID [o]):=
 vYq qXy vXu hg hm Boot.«sorted» (qD ha vV (by rw [he,h0])) (by decide) (by decide) (by rw [he,h0]) (by rw [h0];rfl)
def sortSD (xs:List D):Option (List D):=(wB xs).bind fun ns=>cond (decide (ns.length<=2000) && decide ((vZ ns).length < 64)) (some ((aO (vZ ns)).map D.int)) none
def rSet (X:Cx):List V->Hp->VK->Prop:=fun xs H Q=>∃(a:aZ) (ns:List Int),xs=[.ref a]/\SqL X.K H a (ns.map V.int)/\ns.length<=2000/\∀p,H p=none->Q (.ref p) (upd H p (StX X.prog X.w p (vZ ns)))
def rSoS (X:Cx):List V->Hp->VK->Prop:=fun xs H Q=>∃(a:aZ) (l:List Int),xs=[.ref a]/\H a=some (StX X.prog X.w a l)/\l.Nodup/\l.length < 64/\
    ∀(D:aZ) (ns:List Int),H D=none->ns.Perm l->ns.Pairwise (·<=·)->Q (.ref D) (upd H D (.lst (ns.map V.int)))
def rLeS (X:Cx):List V->Hp->VK->Prop:=fun xs H Q=>∃(a:aZ) (l:List Int),xs=[.ref a]/\H a=some (StX X.prog X.w a l)/\Q (.int (l.length:Nat)) H
def rTwo (r1 r2:List V->Hp->VK->Prop):List V->Hp->VK->Prop:=fun xs H Q=>r1 xs H fun x H1=>r2 [x] H1 Q
theorem vWf {id:String} {x:Str} {r:List V->Hp->VK->Prop} {t:TA} (h2:zZ X (.builtin id) r) (hv:cO x=some (.builtin id)) (hn:x≠"__name__") (hd:(x == ("__debug__":Str))=false) (hc:X.calm=true) (hg:Gl X "set") (hm:X.mg "set"=none) (hg2:Gl X x) (hm2:X.mg x=none) (ha:PA X [e] t)
  (hs:aU [e] X.env=[(false,eval e X.env)]) (h0:aU [] X.env=[]) (he:aU [Expr.Call (.Name "set" p) [e] [] pos] X.env=(false,eval (.Call (.Name "set" p) [e] [] pos) X.env)::aU [] X.env):
  PE X (.Call (.Name x p2) [.Call (.Name "set" p) [e] [] pos] [] pos2) (tCB (rTwo (rSet X) r) t):=by
 show PE X _ (tCB r (qJu (tCB (rSet X) t) tNil))
 exact yR h2 hg2 hm2 hv (jR (qJ8 (vZ8 hc) hg hm Boot.«set» ha (by decide) (by decide) (by rw [hs,h0]) (by rw [h0];rfl)) xI he) hn hd he (by rw [h0];rfl)
theorem vXt:PrF X.K c (rTwo (rSet X) (rSoS X)) sortSD:=fun us H T xs ds Q hb hv e q=>by
 obtain⟨ns,e1,e2⟩:=bnd e
 obtain⟨q1,q2⟩:=vE e2
 cases q2
 obtain⟨p,rfl,h1⟩:=vwsI hv e1
 obtain⟨q3,q4⟩:=Bool.and_eq_true_iff.mp q1
 refine⟨p,ns,rfl,h1,of_decide_eq_true q3,fun P hP=>⟨P,_,rfl,upd_same,qV5 ns,of_decide_eq_true q4,fun D ms hD pm pw=>?_⟩⟩
 rw [PySem.W.eq_sortI pm pw]
 have hD' :H D=none:=by
  by_cases z:D=P
  ·rw [z] at hD;rw [upd_same] at hD;cases hD
  ·rw [qU z] at hD;exact hD
 exact q D _ _ hD' ((Same.upd hP).trans (.upd hD)) upd_same (vWz _)
theorem vVt (hc:X.calm=true) (hg:Gl X "set") (hm:X.mg "set"=none) (hg2:Gl X "sorted") (hm2:X.mg "sorted"=none) (h1:OD X c E e o)
  (hs:aU [e] X.env=[(false,eval e X.env)]:=by rfl) (h0:aU [] X.env=[]:=by rfl) (he:aU [Expr.Call (.Name "set" p) [e] [] pos] X.env=(false,eval (.Call (.Name "set" p) [e] [] pos) X.env)::aU [] X.env:=by rfl):
  ED X c E (.Call (.Name "sorted" p2) [.Call (.Name "set" p) [e] [] pos] [] pos2) (eF sortSD [o]):=
 ⟨PE.imp (vWf (qXx hc) Boot.«sorted» (by decide) (by decide) hc hg hm hg2 hm2 (qD h1 vV (by rw [hs,h0])).h hs h0 he) fun _ _ _ h=>vJg vXt h⟩
def lenSD (xs:List D):Option D:=(wB xs).bind fun ns=>cond (decide (ns.length<=2000)) (some (.int ((vZ ns).length:Nat))) none
theorem vKx:PrA X.K c (rTwo (rSet X) (rLeS X)) lenSD:=fun us H T xs z Q hb hv e q=>by
 obtain⟨ns,e1,e2⟩:=bnd e
 obtain⟨q1,q2⟩:=vE e2
 cases q2
 obtain⟨p,rfl,h1⟩:=vwsI hv e1
 exact⟨p,ns,rfl,h1,of_decide_eq_true q1,fun P hP=>⟨P,_,rfl,upd_same,q _ _ (.upd hP) (.int _)⟩⟩
theorem zZl (hc:X.calm=true) (hg:Gl X "set") (hm:X.mg "set"=none) (hg2:Gl X "len") (hm2:X.mg "len"=none) (h1:OD X c E e o)
  (hs:aU [e] X.env=[(false,eval e X.env)]:=by rfl) (h0:aU [] X.env=[]:=by rfl) (he:aU [Expr.Call (.Name "set" p) [e] [] pos] X.env=(false,eval (.Call (.Name "set" p) [e] [] pos) X.env)::aU [] X.env:=by rfl):
  EV X c E (.Call (.Name "len" p2) [.Call (.Name "set" p) [e] [] pos] [] pos2) (svA lenSD [o]):=
 ⟨PE.imp (vWf vJb Boot.«len» (by decide) (by decide) hc hg hm hg2 hm2 (qD h1 vV (by rw [hs,h0])).h hs h0 he) fun _ _ _ h=>zVs vKx h⟩
end
section
variable {X:Cx} {K:aQ} {c:Nat->aZ} {E:XK} {e:Expr} {o:Oe} {p pos kpos np:Pos} {j:Nat}
def minDD (xs:List D):Option D:=(wB xs).bind fun ns=>some (match ns.min? with | none=>D.non | some m=> .int m)
def zVy (K:aQ):List V->Hp->VK->Prop:=fun vs H Q=>∃(p:aZ) (ns:List Int) (d:V),vs=[.ref p]/\ [V.non]=[d]/\SqL K H p (ns.map V.int)/\(ns=[]->Q d H)/\∀M,M∈ns->(∀a∈ns,M<=a)->Q (.int M) H
theorem vKu:PrA K c (zVy K) minDD:=fun us H T xs z Q hb hv e q=>by
 obtain⟨ns,e1,e2⟩:=bnd e
 cases e2
 obtain⟨p,rfl,h1⟩:=vwsI hv e1
 refine⟨p,ns,_,rfl,rfl,h1,fun z=>?_,fun M hM hle=>?_⟩
 ·subst z
  exact q _ _ (fun _ _ y=>y) .non
 ·have:ns.min?=some M:=List.min?_eq_some_iff.mpr ⟨hM,hle⟩
  rw [this] at q
  exact q _ _ (fun _ _ y=>y) (.int _)
theorem zZk (hc:X.calm=true) (hg:Gl X "min") (hm:X.mg "min"=none) (ha:OD X c E e o) (he:aU [e] X.env=[(false,eval e X.env)]:=by rfl) (h0:aU [] X.env=[]:=by rfl)
  (h1:cM pos (aU [e] X.env)=(false,eval e X.env)::cM pos (aU [] X.env):=by rfl) (h2:(cM pos (aU [e] X.env)).any (·.1)=false:=by rfl):
  EV X c E (.Call (.Name "min" p) [e] [⟨some "default",Expr.Constant .none j np,kpos⟩] pos) (svA minDD [o]):=
 ⟨PE.imp (vK4 hc hg hm Boot.«min» (qD ha vV (by rw [he,h0])).h (qW5 vWh vWe) (by decide) (by decide) h1 h2) fun σ H Q h=>(zVs vKu h:tCB (zVy X.K) (tOs X.K c E [o]) σ H Q)⟩
end
end DX
namespace L2
open PySem PySem.Spec PySem.W PyProof PyProof.Rows
theorem zQq {k:Key} {u:Value} (h:qZj k u=true):RelV (kV k) u:=by
 rcases vD h with⟨i,t,rfl,rfl⟩ | ⟨x,t,rfl,rfl⟩
 ·exact⟨t,rfl⟩
 ·exact⟨t,rfl⟩
theorem keys_vals {P:aH} {w:bJ} {es:List DictEntry} {vs:List (Key×Value)} (h:Pairs (vN P w) es vs):∀ {kvs:List (Key×V)},KV kvs vs->Vals (kvs.map fun p=>kV p.1) (es.map (·.key)):=by
 induction h with
 | nil=>intro kvs r;cases r;exact .nil
 | cons h1 h2 h3 ih=>
   intro kvs r
   cases r with
   | cons a b=>
     refine .cons ?_ (ih b)
     dsimp only
     rw [a.1]
     exact zQq h1
theorem zVm {es:Array DictEntry} {acc:Array Value} (hs:acc.size=es.size) (h:∀(j:Nat) (v:Value),acc[j]?=some v->∃e:DictEntry,es[j]?=some e/\v=e.key):acc.toList=es.toList.map (·.key):=by
 refine List.ext_getElem (by simp [hs]) fun i k1 k2=>?_
 have hi:i < acc.size:=by simpa using k1
 obtain⟨e,e1,e2⟩:=h i acc[i] (by simp [hi])
 have hk:i < es.size:=by omega
 rw [cU hk] at e1
 cases e1
 simpa using e2
section
variable {X:Cx}
theorem vQc (hc:X.calm=true):zZ X (.type "list") (fun xs H Q=>∃(a:aZ) (kvs:List (Key×V)),xs=[.ref a]/\H a=some (.dK kvs)/\∀D,H D=none->Q (.ref D) (upd H D (.lst (kvs.map fun p=>kV p.1)))):=by
 intro pins s σ H xs us Q I r h
 obtain⟨a,kvs,rfl,hp,q⟩:=h
 obtain⟨u,rfl,ru⟩:=jI r
 cases(show u=Value.ref a from ru)
 obtain⟨z,far,vs,rel,o,es,ep,e1,e2,e3,e4,e5,e6⟩:=vQp I.hok hp
 have l1:kvs.length=vs.length:=Paired.length rel
 have l2:=e5.length
 rw [cX] at l2
 refine kdl_call (zWt (es:=es) (ep:=ep) far) (I.ok.hd hc) ⟨o,e1,e2,e3⟩ (by omega) fun h1 tk acc c kept at_ items=>?_
 have v:=keys_vals e5 rel
 rw [←zVm items.1 fun j v e=>items.2 j v e] at v
 exact⟨.ref _,_,I.laid (t' :=tk) (a:=s.heap.objs.size) (o:= .lst (kvs.map fun p=>kV p.1)) (h' :=h1) kept (aG _) ⟨by rw [aY];exact z,acc.toList,c,v,at_⟩,rfl,q _ (I.hok.fresh (aG _))⟩
end
end L2
namespace DX
open PySem L2 PyProof.Rows
section
variable {X:Cx} {K:aQ} {c:Nat->aZ} {E:XK} {e:Expr} {o:Oe} {p pos:Pos}
def kD:Key->D
 | .inl i=> .int i
 | .inr x=> .str x
def listKD:List D->Option (List D)
 | [.nd (.dct ks) _]=>some (ks.map kD)
 | _=>none
theorem qKm {F:Hp}:∀ks:List Key,DsAt K c F (ks.map kV) (ks.map kD)
 | []=> .nil
 | .inl i::ks=> .cons (.int i) (qKm ks)
 | .inr x::ks=> .cons (.str x) (qKm ks)
theorem vXw:PrF K c (fun xs H Q=>∃(a:aZ) (kvs:List (Key×V)),xs=[.ref a]/\H a=some (.dK kvs)/\∀D,H D=none->Q (.ref D) (upd H D (.lst (kvs.map fun p=>kV p.1)))) listKD:=fun us H T xs ds Q hb hv e q=>by
 unfold listKD at e
 split at e
 ·cases e
  obtain⟨u,rfl,v⟩:=vws1 hv
  obtain⟨p,vs,rfl,⟨h1,h2,h3⟩,h4⟩:=v.un qG
  refine⟨p,_,rfl,h3,fun D hD=>?_⟩
  rename_i ks _
  have eq:(ks.zip vs).map (fun p=>kV p.1)=ks.map kV:=by
   rw [show(fun p:Key×V=>kV p.1)=kV ∘ Prod.fst from rfl,←bH,List.map_fst_zip (by omega)]
  rw [eq]
  exact q D _ _ hD (.upd hD) upd_same (qKm ks)
 ·cases e
theorem zVf (hg:Gl X "list") (hm:X.mg "list"=none) (ha:OD X c E e o) (hc:X.calm=true:=by rfl) (he:aU [e] X.env=[(false,eval e X.env)]:=by rfl) (h0:aU [] X.env=[]:=by rfl):ED X c E (.Call (.Name "list" p) [e] [] pos) (eF listKD [o]):=
 qWf (vQc hc) vXw hg hm Boot.«list» (qD ha vV (by rw [he,h0])) (by decide) (by decide) (by rw [he,h0]) (by rw [h0];rfl)
end
section
variable {α β:Type} {X:Res β} {x:Res α} {a:α} {f:α->Res β}
theorem zWz {γ:Type} {b:Bool} {x y X:γ} (h:b=true) (k:x=X):cond b x y=X:=by subst h;exact k
theorem qKp {γ:Type} {b:Bool} {x y X:γ} (h:b=false) (k:y=X):cond b x y=X:=by subst h;exact k
end
section
variable {env e:Ev} {o:O} {d:D} {X:Res Out} {s t s1 s2:SS} {i n m:Nat} {a:SE} {v:SV} {b:ST} {q:Bool}
def finO (n:Nat):Out->Res (O×Ev)
 | .nx e=> .ok (.fz .non,outs n e)
 | .rt r e=> .ok (r,outs n e)
 | _=> .no
theorem zS {args:Ev} {o:Out} {X:Res (O×Ev)} (h:s (args ++ List.replicate m .un)= .ok o) (k:finO n o=X):fnS n m s args=X:=by
 unfold fnS
 rw [h]
 cases o <;> exact k
theorem wQ (k:t env=X):sSeq sNil t env=X:=k
theorem wY (h:b env= .ok (q,e)) (k:cond q (sSeq s1 t e) (sSeq s2 t e)=X):sSeq (sIf b s1 s2) t env=X:=by
 unfold sSeq sIf
 rw [h]
 cases q <;> exact k
theorem vQ1 (h:a env= .ok (o,e)) (k: .ok (.rt o e)=X):sSeq (sRet a) t env=X:=by
 unfold sSeq sRet
 rw [h];exact k
theorem qM (h:a env= .ok (o,e)) (k:t (e.set i (.s false o))=X):sSeq (sSet i a) t env=X:=by
 unfold sSeq sSet
 rw [h];exact k
theorem yN (h:a env= .ok (o,e)) (k:t e=X):sSeq (vL a) t env=X:=by
 unfold sSeq vL
 rw [h];exact k
theorem vH (h:s env= .ok (.nx e)) (k:t e=X):sSeq s t env=X:=by
 unfold sSeq
 rw [h];exact k
theorem zZv (h:s env= .ok (.rt o e)) (k: .ok (.rt o e)=X):sSeq s t env=X:=by
 unfold sSeq
 rw [h];exact k
theorem xV (h:b env= .ok (q,e)) (k:cond q (s1 e) (s2 e)=X):sIf b s1 s2 env=X:=by
 unfold sIf
 rw [h];exact k
theorem qWs (h:a env= .ok (o,e)) (k: .ok (.rt o e)=X):sRet a env=X:=by
 unfold sRet
 rw [h];exact k
theorem vY7 (h:a env= .ok (o,e)) (k: .ok (.nx (e.set i (.s false o)))=X):sSet i a env=X:=by
 unfold sSet
 rw [h];exact k
theorem xR (h:a env= .ok (o,e)) (k: .ok (.nx e)=X):vL a env=X:=by
 unfold vL
 rw [h];exact k
theorem jK {it:SI} {g:SG} {ds:List D} (h:it env= .ok (ds,e)) (k:forS g s ds e=X):sFor it g s env=X:=by
 unfold sFor
 rw [h];exact k
theorem qKr {g:SG} {e' :Ev} (h:v env= .ok (d,e)) (h2:g d e=some e') (k: .ok (.nx e')=X):sAsg v g env=X:=by
 unfold sAsg
 rw [h]
 show(opt (g d e)).bind _=X
 rw [h2];exact k
end
section
variable {env e e1 e2:Ev} {o:O} {d x y z:D} {a a1 a2:SE} {v v1 v2:SV} {b:ST} {q q1:Bool} {XE:Res (O×Ev)} {XV:Res (D×Ev)} {XB:Res (Bool×Ev)} {oa ob:Oe}
theorem yB (h:v env= .ok (d,e)) (k: .ok (.fz d,e)=XE):owS v env=XE:=by
 unfold owS
 rw [h];exact k
theorem jL (h:a env= .ok (o,e)) (k: .ok (fzO o,e)=XV):fzS a env=XV:=by
 unfold fzS
 rw [h];exact k
theorem vWp (h:b env= .ok (q,e)) (k:cond q (a1 e) (a2 e)=XE):eIte b a1 a2 env=XE:=by
 unfold eIte
 rw [h];exact k
theorem jO (h:oV oa env= .ok (d,e)) (h2:blOf d=some q) (k: .ok (q,e)=XB):asB oa env=XB:=by
 unfold asB
 rw [h]
 show(opt (blOf d)).bind _=_
 rw [h2];exact k
theorem zW2 {s t:ST} (h:s env= .ok (q,e)) (k:cond q (t e) (.ok (false,e))=XB):bAnd s t env=XB:=by
 unfold bAnd
 rw [h];exact k
theorem qX7 {s t:ST} (h:s env= .ok (q,e)) (k:cond q (.ok (true,e)) (t e)=XB):bOr s t env=XB:=by
 unfold bOr
 rw [h];exact k
theorem not_of {s:ST} (h:s env= .ok (q,e)) (k: .ok (!q,e)=XB):bNot s env=XB:=by
 unfold bNot
 rw [h];exact k
theorem jC {XH:Res (Hn×Ev)} (h:v env= .ok (d,e)) (k: .ok (.d d,e)=XH):evO (.v v) env=XH:=by
 show(v env).bind _=_
 rw [h];exact k
theorem zY {os:List Oe} {h1:Hn} {hs:List Hn} {XH:Res (List Hn×Ev)} (h:evO oa env= .ok (h1,e)) (c:(h1.st || os.all Oe.isP)=true) (h2:evOs os e= .ok (hs,e1)) (k: .ok (h1::hs,e1)=XH):evOs (oa::os) env=XH:=by
 show(evO oa env).bind _=_
 rw [h]
 show cond (h1.st || os.all Oe.isP) ((evOs os e).bind _) _=_
 rw [c,h2];exact k
theorem v8 {ss:List SV} {ds:List D} {XH:Res (List D×Ev)} (h:v env= .ok (d,e)) (h2:evVs ss e= .ok (ds,e1)) (k: .ok (d::ds,e1)=XH):evVs (v::ss) env=XH:=by
 show(v env).bind _=_
 rw [h]
 show(evVs ss e).bind _=_
 rw [h2];exact k
theorem qKd {ss:List SV} {ds:List D} (h:evVs ss env= .ok (ds,e)) (c:decide (ds.length<=1000)=true) (k: .ok (.tup ds,e)=XV):vX ss env=XV:=by
 unfold vX
 rw [h]
 show cond (decide (ds.length<=1000)) _ _=_
 rw [c];exact k
theorem vJ7 {f:D->D->Option D} {h1 h2:Hn} (h:evO oa env= .ok (h1,e)) (h' :evO ob e= .ok (h2,e1)) (c:(h1.st || ob.isP)=true) (r1:rsv e1 h1=some x) (r2:rsv e1 h2=some y) (r3:f x y=some z) (k: .ok (z,e1)=XV):sv2 f oa ob env=XV:=by
 unfold sv2
 rw [h]
 show(evO ob e).bind _=_
 rw [h']
 show cond (h1.st || ob.isP) ((opt (rsv e1 h1)).bind _) _=_
 rw [c,r1]
 show(opt (rsv e1 h2)).bind _=_
 rw [r2]
 show(opt (f x y)).bind _=_
 rw [r3];exact k
theorem zZt {f:D->Option D} {h1:Hn} (h:evO oa env= .ok (h1,e)) (r1:rsv e h1=some x) (r3:f x=some z) (k: .ok (z,e)=XV):sv1 f oa env=XV:=by
 unfold sv1
 rw [h]
 show(opt (rsv e h1)).bind _=_
 rw [r1]
 show(opt (f x)).bind _=_
 rw [r3];exact k
theorem zZs {f:List D->Option D} {os:List Oe} {hs:List Hn} {xs:List D} (h:evOs os env= .ok (hs,e)) (r1:rsvs e hs=some xs) (r3:f xs=some z) (k: .ok (z,e)=XV):svN f os env=XV:=by
 unfold svN
 rw [h]
 show(opt (rsvs e hs)).bind _=_
 rw [r1]
 show(opt (f xs)).bind _=_
 rw [r3];exact k
theorem vJ6 {f:List D->Option D} {os:List Oe} {hs:List Hn} {xs:List D} (h:evOs os env= .ok (hs,e)) (r1:qQm hs e= .ok (xs,e1)) (r3:f xs=some z) (k: .ok (z,e1)=XV):svA f os env=XV:=by
 unfold svA
 rw [h]
 show(qQm hs e).bind _=_
 rw [r1]
 show(opt (f xs)).bind _=_
 rw [r3];exact k
theorem vQo {f:List D->Option (List D)} {os:List Oe} {hs:List Hn} {xs ds:List D} (h:evOs os env= .ok (hs,e)) (r1:qQm hs e= .ok (xs,e1)) (r3:f xs=some ds) (k: .ok (.ow .lst (ds.map .fz),e1)=XE):eF f os env=XE:=by
 unfold eF
 rw [h]
 show(qQm hs e).bind _=_
 rw [r1]
 show(opt (f xs)).bind _=_
 rw [r3];exact k
theorem wX {XI:Res (List D×Ev)} {ds:List D} (h:v env= .ok (d,e)) (r:qVv d=some ds) (k: .ok (ds,e)=XI):iV v env=XI:=by
 unfold iV
 rw [h]
 show(opt (qVv d)).bind _=_
 rw [r];exact k
theorem vQl {XI:Res (List D×Ev)} {ss:List SV} {f:List D->Option (List D)} {xs ds:List D} (h:evVs ss env= .ok (xs,e)) (r:f xs=some ds) (k: .ok (ds,e)=XI):iL f ss env=XI:=by
 unfold iL
 rw [h]
 show(opt (f xs)).bind _=_
 rw [r];exact k
end
section
variable {env e e1:Ev} {F:Fn} {as:List Am} {hs:List Hn} {XE:Res (O×Ev)} {t0 t:List O×Ev} {args:Ev} {q:O×Ev} {os:List O}
theorem vU (h0:yW (jW as hs) env=some t0) (h1:yW (xQ as hs) t0.2=some t) (h2:xM (jW as hs) t0.1 as hs t.1=some args) (h3:F args= .ok q) (h4:qVw as q.2=some os) (h5:qWv t0.1 q.1 os=true)
  (k: .ok (q.1,putS env (jW as hs) t0.1 (putS env (xQ as hs) os t.2))=XE):qV1 F as hs env=XE:=by
 unfold qV1
 rw [h0]
 show(opt (yW (xQ as hs) t0.2)).bind _=_
 rw [h1]
 show(opt (xM (jW as hs) t0.1 as hs t.1)).bind _=_
 rw [h2]
 show(F args).bind _=_
 rw [h3]
 show(opt (qVw as q.2)).bind _=_
 rw [h4]
 show cond (qWv t0.1 q.1 os) _ _=_
 rw [h5];exact k
theorem vG (h:evOs (as.map Am.o) env= .ok (hs,e)) (k:qV1 F as hs e=XE):vQ F as env=XE:=by
 unfold vQ
 rw [h];exact k
theorem zQk {C:Nat} {q:O×Ev} {r:O×Ev} (h:evOs (as.map Am.o) env= .ok (hs,e)) (h2:qV1 F (.io e.length::as) (.p e.length []::hs) (e ++ [.s false (.ow (.obj C []) [])])= .ok (.fz .non,e1)) (h3:popL e1 e.length=some r) (k: .ok r=XE):qJx C F as env=XE:=by
 unfold qJx
 rw [h]
 show(qV1 F (.io e.length::as) (.p e.length []::hs) (e ++ [.s false (.ow (.obj C []) [])])).bind _=_
 rw [h2]
 show opt (popL e1 e.length)=_
 rw [h3];exact k
end
section
variable {env e e1:Ev} {s k:SP} {a:SE} {v:SV} {i j:Nat} {π:List Nat} {o x:O} {os:List O} {XE:Res (O×Ev)} {X:Res Out}
theorem xL {f:List O->O->Option (O×List O)} {os0:List O} {z:O×List O} (h:s env=some (.p i π)) (h0:qVz env i π=some os0) (h1:a env= .ok (x,e)) (h2:qVz e i π=some os) (c:stab env e i π=true) (h3:f os x=some z) (k: .ok (z.1,setE e i π (.ow .lst z.2))=XE):eMu1 s a f env=XE:=by
 unfold eMu1
 rw [h]
 show(opt (qVz env i π)).bind _=_
 rw [h0]
 show(a env).bind _=_
 rw [h1]
 show(opt (qVz e i π)).bind _=_
 rw [h2]
 show cond (stab env e i π) ((opt (f os x)).bind _) _=_
 rw [c,h3];exact k
theorem qZd {hk:Hn} {y:D} {key:Key} {q:List Key×List O} (h1:a env= .ok (x,e)) (h:s e=some (.p i π)) (h2:k e=some hk) (h3:rsv e hk=some y) (h4:qZi y=some key) (h5:qQr e i π=some q) (c:decide (q.2.length<=lim)=true) (w: .ok (.nx (setE e i π (putO q.1 q.2 key x)))=X):yP s k a env=X:=by
 unfold yP
 rw [h1]
 show(opt (s e)).bind _=_
 rw [h]
 show(opt (k e)).bind _=_
 rw [h2]
 show(opt (rsv e hk)).bind _=_
 rw [h3]
 show(opt (qZi y)).bind _=_
 rw [h4]
 show(opt (qQr e i π)).bind _=_
 rw [h5]
 show cond (decide (q.2.length<=lim)) _ _=_
 rw [c];exact w
end
theorem forS_ok {σ:Type} {g:SG} {body:SS} (R:σ->Ev->Prop) (f:σ->D->σ):∀ {ds:List D} {s:σ} {env:Ev},(∀s d e,d∈ds->R s e->∃e1 e2,g d e=some e1/\body e1= .ok (.nx e2)/\R (f s d) e2)->R s env->∃e',forS g body ds env= .ok (.nx e')/\R (ds.foldl f s) e'
 | [],s,env,_,r=>⟨env,rfl,r⟩
 | d::ds,s,env,h,r=>by
   obtain⟨e1,e2,h1,h2,r2⟩:=h s d env (by simp) r
   obtain⟨e',h3,r3⟩:=forS_ok R f (fun s d e hd r=>h s d e (aE _ hd) r) r2
   refine⟨e',?_,r3⟩
   show(opt (g d env)).bind _=_
   rw [h1]
   show(body e1).bind _=_
   rw [h2];exact h3
theorem jD {g:SG} {body:SS} {d:D} {ds:List D} {env e1 e2:Ev} {X:Res Out} (h1:g d env=some e1) (h2:body e1= .ok (.nx e2)) (k:forS g body ds e2=X):forS g body (d::ds) env=X:=by
 show(opt (g d env)).bind _=_
 rw [h1]
 show(body e1).bind _=_
 rw [h2];exact k
theorem zQ9 {g:SG} {body:SS} {d:D} {ds:List D} {env e1 e2:Ev} {o:O} {X:Res Out} (h1:g d env=some e1) (h2:body e1= .ok (.rt o e2)) (k: .ok (.rt o e2)=X):forS g body (d::ds) env=X:=by
 show(opt (g d env)).bind _=_
 rw [h1]
 show(body e1).bind _=_
 rw [h2];exact k
section
variable {env e e1 e2:Ev} {o:O} {d x y z:D} {h1 h2 h3:Hn} {oa ob:Oe} {XV:Res (D×Ev)} {XH:Res (Hn×Ev)} {f:D->D->Option D} {f1:D->Option D}
theorem vM (h:evO oa env= .ok (h1,e)) (k:hnV e h1=XV):oV oa env=XV:=by
 cases oa with
 | p s=>
   change (opt (s env)).bind _=_ at h
   show(opt (s env)).bind _=_
   cases q:s env with
   | none=>rw [q] at h;cases h
   | some a=>rw [q] at h;cases h;exact k
 | v s=>
   change (s env).bind _=_ at h
   show s env=_
   cases q:s env with
   | no=>rw [q] at h;cases h
   | er C fs=>rw [q] at h;cases h
   | ok a=>rw [q] at h;cases h;exact k
theorem xD {s:SP} (h:s env=some h1) (k: .ok (h1,env)=XH):evO (.p s) env=XH:=by
 show(opt (s env)).bind _=_
 rw [h];exact k
theorem qQ6 {s:SP} (h:evO (.p s) env= .ok (h1,e)):s env=some h1/\e=env:=by
 change (opt (s env)).bind _=_ at h
 cases q:s env with
 | none=>rw [q] at h;cases h
 | some a=>rw [q] at h;cases h;exact⟨rfl,rfl⟩
theorem zT (h:evO oa env= .ok (h1,e)) (h' :evO ob e= .ok (h2,e1)) (c:(h1.st || ob.isP)=true) (r1:rsv e1 h1=some x) (r2:rsv e1 h2=some y) (r3:f x y=some z) (k: .ok (.d z,e1)=XH):evO (o2 f oa ob) env=XH:=by
 cases oa with
 | v s=>exact jC (vJ7 h h' c r1 r2 r3 rfl) k
 | p s=>
   cases ob with
   | v t=>exact jC (vJ7 h h' c r1 r2 r3 rfl) k
   | p t=>
     obtain⟨q1,rfl⟩:=qQ6 h
     obtain⟨q2,rfl⟩:=qQ6 h'
     refine xD (h1:= .d z) ?_ k
     show(s _).bind _=_
     rw [q1]
     show(t _).bind _=_
     rw [q2]
     show(rsv _ h1).bind _=_
     rw [r1]
     show(rsv _ h2).bind _=_
     rw [r2]
     show(f x y).bind _=_
     rw [r3];rfl
theorem zWr (h:evO oa env= .ok (h1,e)) (r1:rsv e h1=some x) (r3:f1 x=some z) (k: .ok (.d z,e)=XH):evO (o1 f1 oa) env=XH:=by
 cases oa with
 | v s=>exact jC (zZt h r1 r3 rfl) k
 | p s=>
   obtain⟨q1,rfl⟩:=qQ6 h
   refine xD (h1:= .d z) ?_ k
   show(s _).bind _=_
   rw [q1]
   show(rsv _ h1).bind _=_
   rw [r1]
   show(f1 x).bind _=_
   rw [r3];rfl
theorem v5 (h:evO oa env= .ok (h1,e)) (h' :evO ob e= .ok (h2,e1)) (c:(h1.st || (oa.isP && ob.isP))=true) (r:rsv e1 h2=some y) (r3:hnIx e1 y h1=some (.d z)) (k: .ok (.d z,e1)=XH):evO (oIx oa ob) env=XH:=by
 have vv:∀(hc:h1.st=true),((evO oa env).bind fun r=>(evO ob r.2).bind fun r' =>cond r.1.st ((opt (rsv r'.2 r'.1)).bind fun y=>(opt (hnIx r'.2 y r.1)).bind fun h=>hnV r'.2 h) .no)= .ok (z,e1):=fun hc=>by
  rw [h]
  show(evO ob e).bind _=_
  rw [h']
  show cond h1.st ((opt (rsv e1 h2)).bind _) _=_
  rw [hc,r]
  show(opt (hnIx e1 y h1)).bind _=_
  rw [r3];rfl
 cases oa with
 | v s=>exact jC (vv (by simpa [Oe.isP] using c)) k
 | p s=>
   cases ob with
   | v t=>exact jC (vv (by simpa [Oe.isP] using c)) k
   | p t=>
     obtain⟨q1,rfl⟩:=qQ6 h
     obtain⟨q2,rfl⟩:=qQ6 h'
     refine xD (h1:= .d z) ?_ k
     show(s _).bind _=_
     rw [q1]
     show(t _).bind _=_
     rw [q2]
     show(rsv _ h2).bind _=_
     rw [r];exact r3
theorem qQq {os:List Oe} {g:List D->Option D} {hs:List Hn} {xs:List D} (h:evOs os env= .ok (hs,e)) (r1:rsvs e hs=some xs) (r3:g xs=some z) (k: .ok (.d z,e)=XH):evO (oL g os) env=XH:=by
 have vv:=zZs h r1 r3 rfl
 unfold oL
 split
 ·rename_i s
  have h:=h
  change ((opt (s env)).bind _).bind _=_ at h
  cases q:s env with
  | none=>rw [q] at h;cases h
  | some a=>
    rw [q] at h
    change cond (a.st || ([]:List Oe).all Oe.isP) (Res.ok ([a],env)) Res.no=_ at h
    cases w:(a.st || ([]:List Oe).all Oe.isP) with
    | false=>rw [w] at h;cases h
    | true=>
      rw [w] at h
      cases h
      refine xD (h1:= .d z) ?_ k
      rw [q]
      show(rsv env a).bind _=_
      change ((rsv env a).bind _)=some xs at r1
      obtain⟨x,e1,r1⟩:=Option.bind_eq_some_iff.mp r1
      cases r1
      rw [e1]
      show(g [x]).bind _=_
      rw [r3];rfl
 ·exact jC vv k
theorem vQn {s:SV} {as:List Am} {hs:List Hn} {XH:Res (List Hn×Ev)} (h:s env= .ok (d,e)) (h2:evOs (as.map Am.o) e= .ok (hs,e1)) (k: .ok (.d d::hs,e1)=XH):evOs ((Am.v s::as).map Am.o) env=XH:=zY (jC h rfl) rfl h2 k
theorem zYc {s:SP} {as:List Am} {hs:List Hn} {XH:Res (List Hn×Ev)} (h:s env=some h1) (c:(h1.st || (as.map Am.o).all Oe.isP)=true) (h2:evOs (as.map Am.o) env= .ok (hs,e1)) (k: .ok (h1::hs,e1)=XH):evOs ((Am.b s::as).map Am.o) env=XH:=zY (xD h rfl) c h2 k
theorem zWs {i:Nat} {as:List Am} {hs:List Hn} {XH:Res (List Hn×Ev)} (h:pIo i env=some (.p i [])) (h2:evOs (as.map Am.o) env= .ok (hs,e1)) (k: .ok (.p i []::hs,e1)=XH):evOs ((Am.io i::as).map Am.o) env=XH:=zY (xD h rfl) rfl h2 k
end
theorem vVu {n:Nat} {cs:List (Nat×Nat)} {T:List Nat} {it:SI} {g:SG} {t:ST} {el:SV} {env e q:Ev} {ds vs:List D} {XE:Res (O×Ev)} (h:it env= .ok (ds,e)) (c:(qYd cs T n e.length && decide (ds.length<=lim))=true) (h2:jM g t el ds (capS cs .un e 0 n)= .ok (vs,q)) (k: .ok (.ow .lst (vs.map .fz),putI cs 0 q (yX cs 0 n e))=XE):compS n cs T it g t el env=XE:=by
 unfold compS
 rw [h]
 show cond (qYd cs T n e.length && decide (ds.length<=lim)) ((jM g t el ds (capS cs .un e 0 n)).bind _) _=_
 rw [c,h2];exact k
theorem vVk:∀ds:List D,fzOs (ds.map .fz)=ds
 | []=>rfl
 | d::ds=>by show fzO (.fz d)::fzOs (ds.map .fz)=_;rw [vVk ds];rfl
theorem jX {k:Kd} (ds:List D):fzO (.ow k (ds.map .fz))= .nd k ds:=by show D.nd k (fzOs _)=_;rw [vVk]
theorem xF {n:Nat} {cs:List (Nat×Nat)} {T:List Nat} {it:SI} {g:SG} {t:ST} {el:SV} {env e q:Ev} {ds vs:List D} {XV:Res (D×Ev)} (h:it env= .ok (ds,e)) (c:(qYd cs T n e.length && decide (ds.length<=lim))=true) (h2:jM g t el ds (capS cs .un e 0 n)= .ok (vs,q)) (k: .ok (.nd .lst vs,putI cs 0 q (yX cs 0 n e))=XV):fzS (compS n cs T it g t el) env=XV:=jL (vVu h c h2 rfl) (by rw [jX];exact k)
theorem vVj {f:List D->Option (List D)} {os:List Oe} {hs:List Hn} {xs ds:List D} {env e e1:Ev} {XV:Res (D×Ev)} (h:evOs os env= .ok (hs,e)) (r1:qQm hs e= .ok (xs,e1)) (r3:f xs=some ds) (k: .ok (.nd .lst ds,e1)=XV):fzS (eF f os) env=XV:=jL (vQo h r1 r3 rfl) (by rw [jX];exact k)
section
variable {env:Ev} {o:O} {d:D} {X:Res Out} {s t s1 s2:SS} {i:Nat} {a:SE} {b:ST} {q:Bool}
theorem qWx {x:SV} {as:List Am} {e1:Ev} {hs:List Hn} {XH:Res (List Hn×Ev)} (h:x env= .ok (d,env)) (h2:evOs (as.map Am.o) env= .ok (hs,e1)) (k: .ok (.d d::hs,e1)=XH):evOs ((Am.v x::as).map Am.o) env=XH:=vQn h h2 k
end
theorem qKl {env e e1:Ev} {d:D} {a:SE} {as:List Am} {hs:List Hn} {XH:Res (List Hn×Ev)} (h:fzS a env= .ok (d,e)) (h2:evOs (as.map Am.o) e= .ok (hs,e1)) (k: .ok (.d d::hs,e1)=XH):evOs ((Am.v (fzS a)::as).map Am.o) env=XH:=vQn h h2 k
end DX
namespace EG
open PySem L2 DX GE PyProof.Rows
theorem qWt {s k:SP} {a:SE} {env:Ev} {o:Out} {X:Res Out} (h:yP s k a env= .ok o) (w: .ok o=X):yP s k a env=X:=h.trans w
def ngO (l:List Int):O:= .ow (.dct (l.map Sum.inl)) (l.map fun _=> .fz (.bl true))
def kG (G:Gr):List Key:=G.map fun p=>Sum.inl p.1
def grO (G:Gr):O:= .ow (.dct (kG G)) (G.map fun p=>ngO p.2)
theorem kidx_in {o:Int}:∀ {l:List Int},o∈l->∃j,kidx (Sum.inl o:Key) (l.map Sum.inl)=some j
 | x::l,h=>by
   rw [aC]
   unfold kidx
   by_cases e:x=o
   ·exact⟨0,by rw [if_pos (by rw [e])]⟩
   ·obtain⟨j,hj⟩:=kidx_in (l:=l) ((aB.mp h).elim (fun z=>absurd z.symm e) id)
    exact⟨j + 1,by rw [if_neg (fun z=>e (Sum.inl.inj z)),hj];rfl⟩
theorem y0 {o:Int}:∀ {l:List Int},o∉l->kidx (Sum.inl o:Key) (l.map Sum.inl)=none
 | [],_=>rfl
 | x::l,h=>by
   rw [aC]
   unfold kidx
   rw [if_neg (fun z=>h (by rw [Sum.inl.inj z];exact aI ..)),y0 fun z=>h (aE _ z)];rfl
theorem qYi {α β:Type} (c:β):∀(l:List α) (j:Nat),(l.map fun _=>c).set j c=l.map fun _=>c
 | [],_=>rfl
 | _::l,0=>rfl
 | _::l,j + 1=>by rw [aC,List.set_cons_succ,qYi c l j]
theorem putN (l:List Int) (o:Int):putO (l.map Sum.inl) (l.map fun _=> .fz (.bl true)) (.inl o) (.fz (.bl true))=ngO (put l o):=by
 unfold putO put
 by_cases h:o∈l
 ·obtain⟨j,hj⟩:=kidx_in h
  rw [hj,if_pos h]
  dsimp only
  rw [qYi];rfl
 ·rw [y0 h,if_neg h]
  dsimp only
  unfold ngO
  rw [bK,bK];rfl
theorem vQj {s:Int}:∀ {G:Gr},s∈ks G->∃j,kidx (Sum.inl s:Key) (kG G)=some j/\G[j]?=some (s,nb G s)/\((ks G).Nodup->∀f:List Int->List Int,up G (fun k v=>if k=s then f v else v)=G.set j (s,f (nb G s)))
 | (k,v)::G,h=>by
   by_cases e:k=s
   ·subst e
    have n:nb ((k,v)::G) k=v:=by unfold nb;rw [bC];simp
    refine⟨0,by show(if(Sum.inl k:Key)=Sum.inl k then some 0 else _)=_;rw [if_pos rfl],by rw [n];rfl,fun nd f=>?_⟩
    rw [n]
    show(k,if k=k then f v else v)::up G (fun k' v' =>if k' =k then f v' else v')=_
    rw [if_pos rfl,List.set_cons_zero]
    congr 1
    have nk:k∉ks G:=(bO.mp nd).1
    unfold up
    have:∀L:Gr,k∉ks L->L.map (fun p=>(p.1,if p.1=k then f p.2 else p.2))=L:=fun L hL=>by
     induction L with
     | nil=>rfl
     | cons p L ih=>
       have h1:p.1≠k:=fun z=>hL (by rw [←z];exact aI ..)
       rw [aC,ih fun z=>hL (aE _ z),if_neg h1]
    exact this G nk
   ·have h' :s∈ks G:=(aB.mp h).elim (fun z=>absurd z.symm e) id
    obtain⟨j,h1,h2,h3⟩:=vQj h'
    have n:nb ((k,v)::G) s=nb G s:=by unfold nb;rw [bC,show(s == k)=false by simpa using Ne.symm e]
    refine⟨j + 1,?_,by rw [n];exact h2,fun nd f=>?_⟩
    ·show(if(Sum.inl k:Key)=Sum.inl s then some 0 else(kidx (Sum.inl s) (kG G)).map (· + 1))=_
     rw [if_neg (fun z=>e (Sum.inl.inj z)),h1];rfl
    ·rw [n]
     show(k,if k=s then f v else v)::up G (fun k' v' =>if k' =s then f v' else v')=_
     rw [if_neg e,h3 (bO.mp nd).2 f,List.set_cons_succ]
theorem putG {G:Gr} {s o:Int} {io:Bool} {x1:Slot} (hs:s∈ks G) (nd:(ks G).Nodup) (few:(nb G s).length<=lim):
  yP (pOf (oIx (oN 0) (oN 2))) (pOf (oN 3)) (owS (oV (oC (.bl true)))) [.s io (grO G),x1, .s false (.fz (.int s)), .s false (.fz (.int o))]= .ok (.nx [.s io (grO (add G s o)),x1, .s false (.fz (.int s)), .s false (.fz (.int o))]):=by
 obtain⟨j,h1,h2,h3⟩:=vQj hs
 have g2:(G.map fun p=>ngO p.2)[j]?=some (ngO (nb G s)):=by rw [bP,h2];rfl
 have gp:getP (grO G) [j]=some (ngO (nb G s)):=by
  unfold grO getP
  rw [g2];rfl
 refine qWt (qZd (x:= .fz (.bl true)) (e:=[.s io (grO G),x1, .s false (.fz (.int s)), .s false (.fz (.int o))]) (i:=0) (π:=[j]) (hk:= .d (.int o)) (y:= .int o) (key:= .inl o) (q:=((nb G s).map Sum.inl,(nb G s).map fun _=> .fz (.bl true))) rfl ?_ rfl rfl rfl ?_ ?_ rfl) ?_
 ·show(idxK (G.map fun p=>ngO p.2).length (.int s) (.dct (kG G))).bind _=_
  show(kidx (Sum.inl s:Key) (kG G)).bind _=_
  rw [h1]
  show((G.map fun p=>ngO p.2)[j]?).bind _=_
  rw [g2];rfl
 ·unfold qQr
  show(match getP (grO G) [j] with | some (.ow (.dct ks) os)=>some (ks,os) | _=>none)=_
  rw [gp];rfl
 ·exact decide_eq_true (by simpa using few)
 ·have e:setP (grO G) [j] (putO ((nb G s).map Sum.inl) ((nb G s).map fun _=> .fz (.bl true)) (.inl o) (.fz (.bl true)))=grO (add G s o):=by
   rw [putN]
   unfold grO setP
   rw [g2]
   dsimp only
   unfold setP
   have a:add G s o=G.set j (s,put (nb G s) o):=h3 nd fun v=>put v o
   have k:kG (add G s o)=kG G:=by
    have:=xO G s o
    unfold ks at this
    unfold kG
    rw [show(fun p:Int×List Int=>(Sum.inl p.1:Key))=Sum.inl ∘ (·.1) from rfl,←bH,this,bH]
   rw [k,a,List.map_set]
  show Res.ok (Out.nx [.s io (setP (grO G) [j] _),x1,_,_])=_
  rw [e]
end EG
namespace L2
open PySem PySem.Spec PyProof.Rows
section
variable {P:aH} {w:bJ} {K:aQ} {mg:Str->Option Value} {base:Heap}
theorem vYa {k:Nat} {f c' :aZ} {co:Obj} {name qual:Str} {params:Arguments} {body:Expr} {scope:Scope} {cl:List (Str×aZ)} {pm ctv:Value} {N ps:List Str} {A:bF} {outer:List Env} {s:aJ} {H:Hp} {us:List Value} {vs cvs:List V} {Q:VK}
  (S:LmScope N ps scope cl) (hr:Room (k + 1) A) (e0:Env0 P w K mg base A outer s H) (gf:s.heap.get? f=some (PySem.W.kla_obj name qual params body scope cl pm c' ctv)) (gc:s.heap.get? c' =some co) (hco:∃fs t,co.data= .fields fs/\fs[1]?=some (.str qual t))
  (caps:CapsAt H cl cvs) (hl:vs.length=ps.length) (r:Vals vs us) (hb:bindArgs (PySem.W.kla_fn name qual params body scope cl pm (.ref c') ctv) ⟨us,[]⟩=pure (ps.zip us))
  (hbody:∃t,PE (qJ3 P w K mg base N ps qual scope f (.ref c') cl A outer s (hid H (cl.map (·.2)))) body t/\t ((vs ++ cvs).map some) (hid H (cl.map (·.2))) (fun v H' =>(∀c∈cl.map (·.2),H' c=none)->Q v (back H H' (cl.map (·.2))))):
  codeAny (model P w) A (.call (.ref f) ⟨us,[]⟩) (CR CX0 outer P w H s Q E0) s:=by
 have KX:K.In s.heap:=e0.mod.kin.keeps fun b o e=>(e0.bs b o e).1
 have lim:s.heap.NoLimit:=e0.mod.nolimit.keeps fun b o e=>(e0.bs b o e).1
 obtain⟨fs,tq,hd,h1⟩:=hco
 have lr:=r.length
 refine PySem.W.kla_callFunE hr.depth gf rfl S.co S.gen rfl ⟨c',co,fs,tq,rfl,gc,hd,h1⟩ ?_
 refine wpAny_of_eq hb ?_
 refine wpAny_newFunctionEnv S.nocell (fun y hy=>S.par _ (List.of_mem_zip hy).1) (fun h' ns sb=>?_) S.kind
 have keep:∀b u,s.heap.get? b=some u->h'.get? b=some u:=fun b u e=>sb.extBut b u (bZ (aD e)) (aX _ e)
 refine⟨lim.keeps keep,PySem.W.kla_codeExpr ?_⟩
 obtain⟨t,ht,hq⟩:=hbody
 have ob:=caps.obs
 have e1:=zQy ob e0
 have ndN:=S.nd
 rw [S.eq] at ndN
 have ndc:(cl.map (·.1)).Nodup:=(cF.mp ndN).2.1
 have ndp:ps.Nodup:=(cF.mp ndN).1
 have dis:∀x∈ps,x∉cl.map (·.1):=fun x h1 h2=>(cF.mp ndN).2.2 x h1 x h2 rfl
 have noA:∀b:aZ,b∉(qJ3 P w K mg base N ps qual scope f (.ref c') cl A outer s (hid H (cl.map (·.2)))).ex:=fun b z=>absurd (show b∈([]:List aZ) from z) (by simp)
 have cellAt:∀ {x:Str} {c:aZ},cl.lookup x=some c->∃j v o u,cl[j]?=some (x,c)/\cvs[j]?=some v/\h'.get? c=some o/\o.data= .cell (some u)/\RelV v u:=fun {x c} h=>by
  obtain⟨j,hj⟩:=List.getElem?_of_mem (wL h)
  have hj2:=(aT.mp hj).1
  have cl2:=caps.len
  have hv:cvs[j]?=some (cvs[j]'(by omega)):=aF (by omega)
  obtain⟨o,u,q1,q2,q3⟩:=caps.get hj hv
  exact⟨j,_,o,u,hj,hv,keep _ _ (xP e0.hok q1),q2,q3⟩
 have I:Inv (qJ3 P w K mg base N ps qual scope f (.ref c') cl A outer s (hid H (cl.map (·.2)))) [] ((vs ++ cvs).map some) (hid H (cl.map (·.2))) {s with heap:=h',toks:=s.toks + (ps.zip us).length}:=by
  refine⟨⟨e1.mod,S.kind,rfl,rfl,aG _,fun y z c h1 h2=>?_,fun y hy=>?_,fun y c hy h=>?_,fun _=>hr.hd,Around.frames_deeper e1.frames, .inr ⟨rfl,rfl⟩,fun b z=>absurd z (noA b),e1.bs,e1.bsz,fun b _ _=>noA b,fun b z=>absurd z (noA b),e1.funs,e1.frf⟩,
   rfl,e1.bare,Un.kept keep,⟨_,ns,fun i y v h1 h2 h3=>?_⟩,fun y c h=>?_,e1.hok.fresh (aG _),fun y c h=>?_,fun p hp=>absurd (show p∈([]:List (aZ×Obj)) from hp) (by simp),e1.hok.kept keep,?_⟩
  ·have m1:=wL (show cl.lookup y=some c from h1)
   have m2:=wL (show cl.lookup z=some c from h2)
   exact name_of_addr S.inj m1 m2
  ·have hy:scope.names.lookup y=some .cell\/scope.names.lookup y=some .free:=hy
   rcases hy with hy | hy
   ·exact absurd rfl (S.nocell _ (cV hy))
   ·obtain⟨p,hp,e⟩:=bG.mp (S.free y hy)
    obtain⟨j,hj⟩:=List.getElem?_of_mem hp
    exact⟨p.2,show cl.lookup y=some p.2 from wN ndc (show cl[j]?=some (y,p.2) by rw [hj,←e])⟩
  ·exfalso
   have hy' :y∈ps:=of_decide_eq_true hy
   exact dis y hy' (bG.mpr ⟨(y,c),wL h,rfl⟩)
  ·have h1:N[i]?=some y:=h1
   rw [S.eq] at h1
   obtain⟨v',e2,e3⟩:=map_get (f:=some) h2
   cases e3
   by_cases hi:i < ps.length
   ·rw [bS hi] at h1
    rw [bS (by omega)] at e2
    obtain⟨u,hu,rv⟩:=r.get e2
    exact⟨u,rv, .inl ⟨S.par y (dP h1),qKs (by omega) ndp h1 hu⟩⟩
   ·rw [cQ (by omega)] at h1
    rw [cQ (by omega),hl] at e2
    obtain⟨p,hp,e⟩:=map_get h1
    obtain⟨o,u,q1,q2,q3⟩:=caps.get hp e2
    subst e
    exact⟨u,q3, .inr ⟨.inr (S.isfree p.1 (bG.mpr ⟨p,dP hp,rfl⟩)),p.2,wN ndc hp,o,keep _ _ (xP e0.hok q1),q2⟩⟩
  ·obtain⟨j,v,o,u,_,_,q1,q2,_⟩:=cellAt (show cl.lookup y=some c from h)
   exact⟨some u,o,q1,q2⟩
  ·exact qQy (bG.mpr ⟨(y,c),wL h,rfl⟩)
  ·show((vs ++ cvs).map some).length=N.length
   rw [S.eq,aY,aP,aP,aY,hl,caps.len]
 refine dB (ht [] _ _ _ _ I hq) (fun u s' hs=>?_) fun e s' z=>False.elim z
 obtain⟨v,H',J,rv,q⟩:=hs
 obtain⟨u1,u2⟩:=zVk ob (fun c m z=>by
  obtain⟨o,y⟩:=ob c m
  rw [e0.frf c z] at y
  cases y) J.base e0.hok J.hok
 refine⟨v,back H H' (cl.map fun x=>x.2),J.os,J.bare,?_,?_,rv,q fun c m=>?_⟩
 ·exact u1
 ·exact u2
 ·obtain⟨pp,hp,rfl⟩:=bG.mp m
  obtain⟨j,hj⟩:=List.getElem?_of_mem hp
  exact J.freeC pp.1 pp.2 (wN ndc hj)
end
section
variable {X:Cx} {pins:List (aZ×Obj)} {σ:L2.St} {H H' :Hp} {s:aJ}
theorem Inv.retell (I:Inv X pins σ H s) (hn:∀b,H b=none->H' b=none) (ht:∀b xs,H b=some (.tup xs)->H' b=some (.tup xs)) (hz:∀b o u,H b=some (.frz o u)->H' b=some (.frz o u)) (hb:∀b ps,H b=some (.tbl ps)->H' b=some (.tbl ps)) (hok:HOk X.prog X.w H' s.heap):Inv X pins σ H' s:=
 I.un (t' :=s.toks) (h' :=s.heap) ⟨fun b o e _ _ _=>e,fun b o e _ _ _=>⟨o.slots,e⟩,fun b o _ n _=>hn b n,fun b o e _=>⟨o,e⟩,ht,hz,fun b ps e=>⟨#[],by rw [hb b ps e];simp⟩⟩ hok
theorem zWa {A:bF} {k:Nat} {f c1 c:aZ} {co:Obj} {nm qual y:Str} {params:Arguments} {body:Expr} {scope:Scope} {pm ctv:Value} {N ps:List Str} {us:List Value} {vs:List V} {cv:V} {j:Nat} {Q:VK} {E:Value->aJ->Prop}
  (S:LmScope N ps scope [(y,c)]) (hr:Room (k + 1) A) (hf:A.frames=X.A.frames) (o1:X.env.cells.lookup y=some c) (o2:X.fn y=true) (o3:X.env.scope.names.lookup y=some .cell) (o4:X.env.kindOf y=some .cell) (o5:X.N[j]?=some y)
  (I:Inv X pins σ H s) (gf:s.heap.get? f=some (PySem.W.kla_obj nm qual params body scope [(y,c)] pm c1 ctv)) (gc:s.heap.get? c1=some co) (hco:∃fs t,co.data= .fields fs/\fs[1]?=some (.str qual t))
  (hcv:σ[j]?=some (some cv)) (hl:vs.length=ps.length) (r:Vals vs us) (hb:bindArgs (PySem.W.kla_fn nm qual params body scope [(y,c)] pm (.ref c1) ctv) ⟨us,[]⟩=pure (ps.zip us))
  (hbody:∃t,PE (qJ3 X.prog X.w X.K X.mg X.base N ps qual scope f (.ref c1) [(y,c)] A X.stack s H) body t/\∀Q2:VK,(∀v H1,Q v H1->Q2 v H1)->t ((vs ++ [cv]).map some) H Q2):
  aR (model X.prog X.w) A (call (.ref f) us) (EP X pins σ Q) E s:=by
 obtain⟨v0,oc,hoc,hod⟩:=I.cell y c o1
 have hc0:=I.freeC y c o1
 have e0:=I.env0
 have bsc:=I.ok.cab y c o2 o1
 have ncl:=I.cne y c o1
 have S2:Same H (upd H c (ObO c oc)):= .upd hc0
 have at2:upd H c (ObO c oc) c=some (ObO c oc):=upd_same
 have ne2:∀ {b:aZ},b≠c->upd H c (ObO c oc) b=H b:=fun m=>qU m
 have nst:c∉frs X.stack:=fun z=>by
  rcases aB.mp (I.stkSub c z) with y' | y'
  ·exact ncl y'
  ·obtain⟨_,o',ho',_⟩:=I.ok.funs.mem y'
   exact absurd (aM (aD ho') bsc) (bN _)
 generalize upd H c (ObO c oc)=H2 at *
 have ok2:HOk X.prog X.w H2 s.heap:=fun a u e=>by
  by_cases m:a=c
  ·subst m;rw [at2] at e;cases e;exact qX9 hoc
  ·rw [ne2 m] at e
   exact(I.hok a u e).stay (fun _ _ _ z=>z) (fun b z=>S2 _ _ z) fun b xs z=>S2 _ _ z
 have e2:Env0 X.prog X.w X.K X.mg X.base A X.stack s H2:=by
  refine⟨hf.trans e0.frames,e0.mod,fun b o z=>⟨(e0.bs b o z).1,?_⟩,e0.bsz,e0.funs,fun b z=>?_,ok2,e0.bare⟩
  ·rw [ne2 fun m=>absurd (aM (aD (m▸z)) (bT I.ok.bsz bsc)) (bN _)]
   exact(e0.bs b o z).2
  ·rw [ne2 fun m=>nst (m▸z)]
   exact e0.frf b z
 have caps:CapsAt H2 [(y,c)] [cv]:=by
  obtain⟨m,_,loc⟩:=I.loc
  obtain⟨u,ru,lk⟩:=loc _ _ _ o5 hcv (.inr (.inl o3))
  rcases lk with⟨k1,_⟩ | ⟨_,c',k2,o,k3,k4⟩
  ·rw [o4] at k1;cases k1
  ·rw [o1] at k2;cases k2
   rw [hoc] at k3;cases k3
   exact .cons at2 k4 ru .nil
 have hid2:hid H2 [c]=H:=by
  funext b
  by_cases m:b=c
  ·rw [qQy (by simp [m]),m,hc0]
  ·rw [wD (by simp [m]),ne2 m]
 refine wpAny_call (codeAny_mono (vYa (Q:=fun v H3=>∃H',H' c=none/\H3=back H2 H' [c]/\Q v H') S hr e2 gf gc hco caps hl r hb ?_) fun r s' hq=>?_)
 ·obtain⟨t,h1,h2⟩:=hbody
  show∃t,PE (qJ3 X.prog X.w X.K X.mg X.base N ps qual scope f (.ref c1) [(y,c)] A X.stack s (hid H2 [c])) body t/\t ((vs ++ [cv]).map some) (hid H2 [c]) _
  rw [hid2]
  exact⟨t,h1,h2 _ fun v H1 q hn=>⟨H1,hn c (by simp),rfl,q⟩⟩
 cases r with
 | error e=>exact False.elim hq
 | ok fl=>
   cases fl with
   | next=>exact False.elim hq
   | brk=>exact False.elim hq
   | cont=>exact False.elim hq
   | ret u=>
     obtain⟨v,H3,os,bare,un,ok3,rv,H',hc',rfl,q3⟩:=hq
     have hid3:hid (back H2 H' [c]) [c]=H' :=by
      funext b
      by_cases m:b=c
      ·rw [qQy (by simp [m]),m,hc']
      ·rw [wD (by simp [m]),jS (by simp [m])]
     have b3:back H2 H' [c] c=some (ObO c oc):=by rw [qXg (by simp)];exact at2
     have ob3:Obs (back H2 H' [c]) [c]:=fun d m=>by
      cases aS.mp m
      exact⟨oc,b3⟩
     have ok4:=vWs ob3 ok3
     rw [hid3] at ok4
     have eo:∀ {b:aZ},b≠c->back H2 H' [c] b=H' b:=fun m=>jS (by simp [m])
     have nc:∀ {b:aZ} {o:HO},H b=some o->b≠c:=fun e z=>by rw [z,hc0] at e;cases e
     refine I.after ⟨v,H',os,bare,⟨fun b o e n hb hx=>?_,fun b o e n hb hx=>?_,fun b o e n hx=>?_,un.there,fun b xs z=>?_,fun b o v z=>?_,fun b ps z=>?_⟩,ok4,rv,q3⟩
     ·by_cases m:b=c
      ·subst m;rw [hoc] at e;cases e;exact xP ok3 b3
      ·exact un.keep b o e (by rw [ne2 m];exact n) hb hx
     ·by_cases m:b=c
      ·subst m;rw [hoc] at e;cases e;exact⟨oc.slots,xP ok3 b3⟩
      ·exact un.slot b o e (by rw [ne2 m];exact n) hb hx
     ·by_cases m:b=c
      ·rw [m];exact hc'
      ·rw [←eo m];exact un.free b o e (by rw [ne2 m];exact n) hx
     ·rw [←eo (nc z)];exact un.tups b xs (S2 _ _ z)
     ·rw [←eo (nc z)];exact un.frzs b o v (S2 _ _ z)
     ·rw [←eo (nc z)];exact un.tbls b ps (S2 _ _ z)
end
section
variable {X:Cx}
def zW9 (qual:Str) (params:Arguments) (body:Expr) (scope:Scope) (cl:List (Str×aZ)) (pos:Pos) (Pt:aZ):TE:=fun _ H Q=>H Pt=some (.tab pos.line pos.col qual)/\
 ∀(f c1:aZ) (co:Obj) (pm ctv:Value) (H' :Hp),H f=none->c1≠Pt->f≠Pt->f≠c1->(H c1=none\/H c1=some (.own Pt))->(∀b o,b≠Pt->b≠c1->H b=some o->H' b=some o)->H' Pt=some (ObO Pt (eM #[rawInt pos.line,rawInt pos.col, .ref c1]))->
  H' f=some (ObO f (PySem.W.kla_obj "<lambda>" qual params body scope cl pm c1 ctv))->H' c1=some (ObO c1 co)->(∃fs t,co.data= .fields fs/\fs[1]?=some (.str qual t))->Q (.ref f) H'
theorem vK6 {qual:Str} {params:Arguments} {body:Expr} {scope:Scope} {cl:List (Str×aZ)} {pos:Pos} {c Pt:aZ} (hq:X.env.qual ++ "<lambda>"=qual) (hdef:defaultsOf params X.env=([],[]):=by rfl) (hcl:closureFor scope X.env=pure cl) (hcode:X.env.code= .ref c) (hhd:∀h:Heap,X.K.In h->PySem.W.CodeHd h c Pt) (hP:cK≠Pt) (hB:∀h:Heap,X.K.In h->h.BuiltinsAt X.mg Pt):
  PE X (.Lambda params body scope pos) (zW9 qual params body scope cl pos Pt):=by
 intro pins s σ H Q I h
 obtain⟨hPt,q⟩:=h
 obtain⟨ps,gP,tb⟩:=(show vJ X.prog X.w H s.heap Pt (.tab pos.line pos.col qual) from I.hok Pt _ hPt)
 have gP:s.heap.get? Pt=some (eM ps):=gP
 have szP:Pt < s.heap.objs.size:=aD gP
 have gl:s.heap.Ns cK X.mg:=I.ok.mod.glob.keeps I.bk
 refine PySem.W.kla_eval hdef ?_
 rw [hq]
 have fin:∀(c1:aZ) (co:Obj) (ctv:Value) (h' :Heap) (tk:Tok),(∀b o,b≠Pt->s.heap.get? b=some o->h'.get? b=some o)->s.heap.objs.size<=h'.objs.size->c1 < h'.objs.size->c1≠Pt->(H c1=none/\s.heap.objs.size<=c1\/H c1=some (.own Pt))->h'.get? c1=some co->(∃fs t,co.data= .fields fs/\fs[1]?=some (.str qual t))->
   h'.get? Pt=some (eM #[rawInt pos.line,rawInt pos.col, .ref c1])->EP X pins σ Q (.ref h'.objs.size) {s with heap:=h'.push (PySem.W.kla_obj "<lambda>" qual params body scope cl ((X.mg "__name__").getD .none) c1 ctv),toks:=tk}:=by
  intro c1 co ctv h' tk xb sz hi ncP hc gc hco ht
  have ltf:s.heap.objs.size<=h'.objs.size:=sz
  have nfP:h'.objs.size≠Pt:=dI (aM szP ltf)
  have nfc:h'.objs.size≠c1:=dI hi
  have frf:H h'.objs.size=none:=I.hok.fresh ltf
  let fo:=PySem.W.kla_obj "<lambda>" qual params body scope cl ((X.mg "__name__").getD .none) c1 ctv
  have gf:(h'.push fo).get? h'.objs.size=some fo:=aL _ rfl
  have keep:∀b u,b≠Pt->s.heap.get? b=some u->(h'.push fo).get? b=some u:=fun b u n e=>aX _ (xb b u n e)
  have gP2:=aX (h:=h') fo ht
  have gc2:=aX (h:=h') fo gc
  let H' :Hp:=upd (upd (upd H Pt (ObO Pt (eM #[rawInt pos.line,rawInt pos.col, .ref c1]))) c1 (ObO c1 co)) h'.objs.size (ObO h'.objs.size fo)
  have e1:H' h'.objs.size=some (ObO h'.objs.size fo):=upd_same
  have e2:H' c1=some (ObO c1 co):=by
   show upd (upd (upd H Pt _) c1 _) _ _ c1=_
   rw [qU nfc.symm,upd_same]
  have e3:H' Pt=some (ObO Pt (eM #[rawInt pos.line,rawInt pos.col, .ref c1])):=by
   show upd (upd (upd H Pt _) c1 _) _ _ Pt=_
   rw [qU nfP.symm,qU ncP.symm,upd_same]
  have eo:∀ {b:aZ},b≠Pt->b≠c1->b≠h'.objs.size->H' b=H b:=fun {b} n1 n2 n3=>by
   show upd (upd (upd H Pt _) c1 _) _ _ b=_
   rw [qU n3,qU n2,qU n1]
  have nP:∀ {b:aZ} {v:HO},H b=some v->(∀x y z,v≠ .tab x y z)->b≠Pt:=fun {b v} z y w=>by
   rw [w,hPt] at z;cases z;exact y _ _ _ rfl
  have nC:∀ {b:aZ} {v:HO},H b=some v->v≠ .own Pt->b≠c1:=fun {b v} z y w=>by
   rw [w] at z
   rcases hc with⟨hc,_⟩ | hc
   ·rw [hc] at z;cases z
   ·rw [hc] at z;cases z;exact y rfl
  have bt:∀b o,b≠Pt->b≠c1->H b=some o->H' b=some o:=fun b o n1 n2 e=>by rw [eo n1 n2 (qT e frf)];exact e
  have hok' :HOk X.prog X.w H' (h'.push fo):=fun a u e=>by
   by_cases n3:a=h'.objs.size
   ·subst n3;rw [e1] at e;cases e;exact qX9 gf
   ·by_cases n2:a=c1
    ·subst n2;rw [e2] at e;cases e;exact qX9 gc2
    ·by_cases n1:a=Pt
     ·subst n1;rw [e3] at e;cases e;exact qX9 gP2
     ·rw [eo n1 n2 n3] at e
      refine(I.hok a u e).stay (fun b v hb z=>?_) (fun b z=>bt b _ (nP z fun _ _ _ y=>nomatch y) (nC z fun y=>by cases y;exact n1 rfl) z) fun b xs z=>bt b _ (nP z fun _ _ _ y=>nomatch y) (nC z fun y=>nomatch y) z
      rcases hb with hb | hb
      ·rw [hb];exact keep a v n1 (by rw [←hb];exact z)
      ·exact keep b v (nP hb fun _ _ _ y=>nomatch y) z
  have I' :Inv X pins σ H' {s with heap:=h'.push fo,toks:=tk}:=by
   have nn:∀ {b:aZ},H b=none->b≠Pt:=fun n z=>by rw [z,hPt] at n;cases n
   refine I.call (g' :=s.gens) (d' :=s.drawn) (ch:=[]) ⟨fun b o e n _ _=>keep b o (nn n) e,fun b o e n _ _=>⟨o.slots,keep b o (nn n) e⟩,fun b o e n _=>?_,fun b o e _=>?_,fun b xs e=>bt b _ (nP e fun _ _ _ y=>nomatch y) (nC e fun y=>nomatch y) e,fun b o v e=>bt b _ (nP e fun _ _ _ y=>nomatch y) (nC e fun y=>nomatch y) e,fun b qs e=>⟨#[],by rw [bt b _ (nP e fun _ _ _ y=>nomatch y) (nC e fun y=>nomatch y) e];simp⟩⟩ hok' I.bare fun b z=>by simp at z
   ·have lb:=aD e
    rw [eo (nn n) (fun z=>?_) (bZ (aM lb ltf))]
    ·exact n
    ·rcases hc with⟨_,hc⟩ | hc
     ·rw [z] at lb;exact absurd (aM lb hc) (bN _)
     ·rw [z,hc] at n;cases n
   ·by_cases n1:b=Pt
    ·rw [n1];exact⟨_,gP2⟩
    ·exact⟨o,keep b o n1 e⟩
  exact⟨.ref h'.objs.size,H',I',rfl,q h'.objs.size c1 co _ ctv H' frf ncP nfP nfc (hc.imp (fun z=>z.1) id) bt e3 e1 e2 hco⟩
 rcases tb with tb | ⟨c1,co,fs,tq,e1,e2,e3,e4,e5⟩
 ·have eps:ps=#[]:=by simpa using tb
  subst eps
  refine PySem.W.kla_makeFunction hcl I.ok.glob gl hcode (hhd _ I.kIn) gP trivial rfl hP (hB _ I.kIn) fun c' ctv h' tk xb lo hi cr ht=>?_
  obtain⟨c2,co,fs,tq,ec,gc,hd,h1⟩:=cr
  cases ec
  exact fin c' co ctv h' tk xb (dL (dN lo hi)) hi (dI (aM szP lo)) (.inl ⟨I.hok.fresh lo,lo⟩) gc ⟨fs,tq,hd,h1⟩ ht
 ·have eps:ps=#[rawInt pos.line,rawInt pos.col, .ref c1]:=by apply Array.toList_inj.mp;exact e1
  subst eps
  refine PySem.W.kla_makeFunctionHit (cv:= .ref c1) hcl I.ok.glob gl hcode (hhd _ I.kIn) gP trivial (by have:=codeAmong_snoc (pos:=pos) (c:= .ref c1) [] trivial rfl;simpa using this) (hB _ I.kIn) fun ctv h' tk keep0 sz=>?_
  refine fin c1 co ctv h' tk (fun b o _ e=>keep0 b o e) sz (aM (aD e3) sz) (fun z=>?_) (.inr e2) (keep0 _ _ e3) ⟨fs,tq,e4,e5⟩ (keep0 _ _ gP)
  rw [z,hPt] at e2;cases e2
theorem vYb {pins:List (aZ×Obj)} {σ:L2.St} {H:Hp} {s:aJ} {Pt c1:aZ} {l0 c0:Nat} {co:Obj} {qual:Str} (I:Inv X pins σ H s) (h1:H Pt=some (ObO Pt (eM #[rawInt l0,rawInt c0, .ref c1]))) (h2:H c1=some (ObO c1 co)) (hco:∃fs t,co.data= .fields fs/\fs[1]?=some (.str qual t)) (ne:c1≠Pt):
  Inv X pins σ (upd (upd H c1 (.own Pt)) Pt (.tab l0 c0 qual)) s:=by
 have eo:∀ {b:aZ},b≠Pt->b≠c1->upd (upd H c1 (.own Pt)) Pt (.tab l0 c0 qual) b=H b:=fun n1 n2=>by rw [qU n1,qU n2]
 have n1:∀ {b:aZ} {v:HO},H b=some v->(∀φ,v≠ .ext φ)->b≠Pt:=fun z y w=>by rw [w,h1] at z;cases z;exact y _ rfl
 have n2:∀ {b:aZ} {v:HO},H b=some v->(∀φ,v≠ .ext φ)->b≠c1:=fun z y w=>by rw [w,h2] at z;cases z;exact y _ rfl
 have st:∀ {b:aZ} {v:HO},H b=some v->(∀φ,v≠ .ext φ)->upd (upd H c1 (.own Pt)) Pt (.tab l0 c0 qual) b=some v:=fun z y=>by rw [eo (n1 z y) (n2 z y)];exact z
 have eC:upd (upd H c1 (.own Pt)) Pt (.tab l0 c0 qual) c1=some (.own Pt):=by rw [qU ne,upd_same]
 refine I.retell (fun b n=>?_) (fun b xs e=>st e fun _ y=>nomatch y) (fun b o u e=>st e fun _ y=>nomatch y) (fun b ps e=>st e fun _ y=>nomatch y) fun a u e=>?_
 ·rw [eo (fun z=>by rw [z,h1] at n;cases n) fun z=>by rw [z,h2] at n;cases n];exact n
 ·by_cases m1:a=Pt
  ·subst m1
   rw [upd_same] at e;cases e
   obtain⟨fs,t,k1,k2⟩:=hco
   exact⟨_,xP I.hok h1, .inr ⟨c1,co,fs,t,rfl,eC,xP I.hok h2,k1,k2⟩⟩
  ·by_cases m2:a=c1
   ·subst m2
    rw [eC] at e;cases e
    exact⟨_,xP I.hok h2⟩
   ·rw [eo m1 m2] at e
    exact(I.hok a u e).stay (fun _ _ _ z=>z) (fun b z=>st z fun _ y=>nomatch y) fun b xs z=>st z fun _ y=>nomatch y
end
def ltK (g:Int->Int) (n m:Int):Bool:=if g n=g m then decide (n < m) else decide (g n < g m)
def bst (g:Int->Int) (b:Option Int) (n:Int):Option Int:=match b with
 | none=>some n
 | some m=>if ltK g n m=true then some n else some m
section
variable {X:Cx} {pins:List (aZ×Obj)} {σ:L2.St} {H:Hp} {s:aJ}
theorem zQl (I:Inv X pins σ H s) {A:bF} {E:Value->aJ->Prop} {a b:aZ} {x y x' y' :Int} {Q:Value->aJ->Prop} (hA:A.units + 8 < dC) (s1:SqT X.K H a [.int x, .int y]) (s2:SqT X.K H b [.int x', .int y'])
  (q:Q (.bool (if x=x' then decide (y < y') else decide (x < x'))) s):aR (model X.prog X.w) A (richCompare .Lt (.ref a) (.ref b)) Q E s:=by
 obtain⟨us,rv1,⟨oa,ea,ca,na,da⟩,_⟩:=I.tuple s1
 obtain⟨us',rv2,⟨ob,eb,cb,nb,db⟩,_⟩:=I.tuple s2
 refine wpAny_richCompare_same_room (op:= .Lt) ⟨oa,ea,ca⟩ ⟨ob,eb,cb⟩ PySem.F.slot_tuple_lt (dS PySem.F.slot_tuple_lt ⟨oa,ea,ca⟩ PySem.F.entry_tuple_lt (vW8 ea ca da eb cb db ?_) (PySem.F.args_tuple_lt_2 _ _)) (by omega)
 obtain⟨u1,r1,rfl,⟨t1,rfl⟩,k1⟩:∃u r,us=u::r/\RelV (.int x) u/\Vals [.int y] r:=by cases rv1 with | cons a b=>exact⟨_,_,rfl,a,b⟩
 obtain⟨u2,rfl,⟨t2,rfl⟩⟩:=jI k1
 obtain⟨u3,r3,rfl,⟨t3,rfl⟩,k3⟩:∃u r,us' =u::r/\RelV (.int x') u/\Vals [.int y'] r:=by cases rv2 with | cons a b=>exact⟨_,_,rfl,a,b⟩
 obtain⟨u4,rfl,⟨t4,rfl⟩⟩:=jI k3
 refine⟨_,SeqAt.EqAt.int_int _ _ _ _,fun e=>⟨_,SeqAt.EqAt.int_int _ _ _ _,fun e2=>?_,fun _=>?_⟩,fun e=>?_⟩
 ·have e:x=x' :=by simpa using e
  have e2:y=y' :=by simpa using e2
  rw [if_pos e,decide_eq_false (by omega)] at q
  exact⟨(fun x=>nomatch x),q⟩
 ·have e:x=x' :=by simpa using e
  rw [if_pos e] at q
  refine(lt_int ?_:aR (model X.prog X.w) _ (bM .Lt _ _) _ E s)
  exact⟨(fun x=>nomatch x),q⟩
 ·have e:¬x=x' :=by simpa using e
  rw [if_neg e] at q
  refine(lt_int ?_:aR (model X.prog X.w) _ (bM .Lt _ _) _ E s)
  exact⟨(fun x=>nomatch x),q⟩
def oldL:Option (Int×aZ)->List V
 | none=> []
 | some (b,t)=> [.int b, .ref t]
theorem vZl {A:bF} {f p it S:aZ} {ns:List Int} {g:Int->Int} {d:Value} {R:Result->aJ->Prop} (hh:A.handled=none) (hu:A.units + 12 < dC) (hp:SqL X.K H p (ns.map V.int)) (hpi:p≠it) (hS:H S=none) (hI:H it=none) (hSI:S≠it)
  (fp:∀H',H' it=none->FpOk X pins H' it)
  (key:∀(pins:List (aZ×Obj)) (H' :Hp) (s' :aJ) (n:Int) (u:Value),n∈ns->Inv X pins σ H' s' ->Same H H' ->RelV (.int n) u->aR (model X.prog X.w) A.in1 (call (.ref f) [u]) (EP X pins σ fun v H2=>Same H' H2/\∃t,v= .ref t/\SqT X.K H2 t [.int (g n), .int n]) (fun _ _=>False) s')
  (hR:∀(b:Option Int) (u:Value) (s' :aJ) (H' :Hp),Inv X pins σ H' s' ->Same H H' ->b=ns.foldl (bst g) none->(b=none->u=d)->(∀m,b=some m->RelV (.int m) u)->R (.ok (.ret u)) s'):
  ∀(rest dn:List Int) (s:aJ) (H' :Hp) (old:Option (Int×aZ)),ns=dn ++ rest->Inv X pins σ H' s->Same H H' ->H' S=some (.lst (oldL old))->(∀b t,old=some (b,t)->SqT X.K H' t [.int (g b), .int b])->H' it=none->s.heap.IsListIter it p dn.length->old.map (·.1)=dn.foldl (bst g) none->
   codeAny (model X.prog X.w) A (.builtin "min.loop" ⟨[.ref it, .ref f, .ref S],[(cY "default",d)]⟩) R s:=by
 have hname:(toString "min" ++ toString ".loop":String)="min.loop":=by decide
 have ln:∀(s:aJ) (H' :Hp),Inv X pins σ H' s->Same H H' ->∃its:List Value,Vals (ns.map V.int) its/\s.heap.IsList p its.toArray:=fun s H' I sm=>by
  obtain⟨its,rv,pl,_⟩:=I.list (DX.vS sm hp)
  exact⟨its,rv,pl.isList⟩
 intro rest
 induction rest with
 | nil=>
   intro dn s H' old hn I sm hS' hold hit' hit hb
   rw [bR] at hn
   subst hn
   obtain⟨its,rv,lp⟩:=ln s H' I sm
   obtain⟨olds,n0,ro,gS,_⟩:=qWu I hS'
   have W:=Walks.list (prog:=X.prog) (w:=X.w) (A:=A.in1) hh it p hpi its.toArray
   have hsz:its.toArray.size=ns.length:=by rw [bQ,←rv.length,aY]
   refine cR PySem.F.entry_min_loop ?_
   rw [cP dF _]
   show aR _ A.in1 (seqItems? (.ref S) >>=_) _ _ s
   refine aV (wpAny_seqItems gS rfl ?_)
   show aR _ A.in1 (tryCatch (pyNext (.ref it)) _ >>=_) _ _ s
   refine aV (eZ (W.done s _ _ ⟨by rw [hsz];exact hit,lp⟩ fun h' tk hk' =>?_))
   obtain⟨f0,f1,f2,f3,f4,f5⟩:=fp H' hit'
   have I1:Inv X pins σ H' {s with heap:=h',toks:=tk}:=I.turned (fun b o hb e=>hk' b o (by simpa using hb) e) f0 f1 f3 f4 f5
   cases old with
   | none=>
     cases ro
     refine aV (wpAny_rule (aW ?_))
     exact hR none d _ H' I1 sm hb (fun _=>rfl) fun m z=>nomatch z
   | some bt=>
     obtain⟨b,t⟩:=bt
     obtain⟨u1,r1,rfl,ru,k1⟩:∃u r,olds=u::r/\RelV (.int b) u/\Vals [.ref t] r:=by cases ro with | cons a b=>exact⟨_,_,rfl,a,b⟩
     obtain⟨u2,rfl,rt⟩:=jI k1
     obtain⟨olds2,n2,ro2,gS2,_⟩:=qWu I1 hS'
     have gS' :=hk' S _ (by simpa using hSI) gS
     show aR _ A.in1 (updateSeq S (fun _=>#[]) >>=_) _ _ _
     refine aV ?_
     refine eX gS' rfl (aV (wpAny_letGo (aW ?_)))
     refine hR (some b) u1 _ (upd H' S (.lst [])) (qW7 (its2:=[]) (t' :=tk) I1 hS' gS' .nil (cH _)) (fun c o e=>by rw [qU (qT e hS)];exact sm _ _ e) hb (fun z=>nomatch z) fun m z=>by cases z;exact ru
 | cons n rest ih=>
   intro dn s H' old hn I sm hS' hold hit' hit hb
   obtain⟨its,rv,lp⟩:=ln s H' I sm
   obtain⟨olds,n0,ro,gS,_⟩:=qWu I hS'
   have W:=Walks.list (prog:=X.prog) (w:=X.w) (A:=A.in1) hh it p hpi its.toArray
   have hsz:its.toArray.size=ns.length:=by rw [bQ,←rv.length,aY]
   have hlt:dn.length < its.toArray.size:=by rw [hsz,hn,aP,aK];omega
   have mem:n∈ns:=by rw [hn];simp
   refine cR PySem.F.entry_min_loop ?_
   rw [cP dF _]
   show aR _ A.in1 (seqItems? (.ref S) >>=_) _ _ s
   refine aV (wpAny_seqItems gS rfl ?_)
   show aR _ A.in1 (tryCatch (pyNext (.ref it)) _ >>=_) _ _ s
   refine aV (eZ (W.item dn.length s _ _ hlt ⟨hit,lp⟩ fun v h' tk hP hst' hk' =>?_))
   have rvn:RelV (.int n) v:=by
    obtain⟨u,eu,ru⟩:=rv.get (i:=dn.length) (x:=V.int n) (by rw [bP,hn,cQ (aG _),Nat.sub_self];rfl)
    have:its[dn.length]?=some v:=by simpa using hP
    rw [eu] at this;cases this;exact ru
   obtain⟨f0,f1,f2,f3,f4,f5⟩:=fp H' hit'
   have I1:Inv X pins σ H' {s with heap:=h',toks:=tk}:=I.turned (fun b o hb e=>hk' b o (by simpa using hb) e) f0 f1 f3 f4 f5
   obtain⟨oI,hoI,hoc,hod⟩:=id hst'.1
   have noc:∀v,oI.data≠ .cell v:=fun v z=>by rw [hod] at z;cases z
   have IP:Inv X (pins ++ [(it,oI)]) σ H' {s with heap:=h',toks:=tk}:=I1.pins_of fun q hq=>by
    rcases bL.mp hq with z | z
    ·exact I1.pin q (bB _ z)
    ·cases aS.mp z
     exact⟨hoI,f0,f1,f2,noc⟩
   show aR _ A.in1 (tryCatch (holding [v] (call (.ref f) [v])) _ >>=_) _ _ _
   refine aV (eZ (dD (dB (key _ H' _ n v mem IP sm rvn) (fun kv s2 he=>?_) fun _ _ z=>z.elim)))
   obtain⟨kx,H2,I2,rk,S2,t2,rfl,dk⟩:=he
   cases(show kv=Value.ref t2 from rk)
   obtain⟨g2,n2,_⟩:=I2.pin (it,oI) (by simp)
   have I2:=I2.unpinned
   have hS2:=S2 _ _ hS'
   have sm2:=sm.trans S2
   obtain⟨olds2,m2,ro2,gS2,_⟩:=qWu I2 hS2
   have hit2:s2.heap.IsListIter it p (dn.length + 1):=⟨oI,g2,hoc,hod⟩
   have upS:∀ {xs:List V},Same H (upd H2 S (.lst xs)):=fun c o e=>by rw [qU (qT e hS)];exact sm2 _ _ e
   have tS:∀ {xs:List V} {t:aZ} {ys:List V},SqT X.K H2 t ys->SqT X.K (upd H2 S (.lst xs)) t ys:=fun h=>vXg (fun xs z=>by rw [hS2] at z;cases z) (fun q xs z=>by rw [hS2] at z;cases z) h
   have fold:(dn ++ [n]).foldl (bst g) none=bst g (old.map (·.1)) n:=by rw [List.foldl_append,←hb];rfl
   have go:∀(s3:aJ) (H3:Hp) (old3:Option (Int×aZ)),Inv X pins σ H3 s3->Same H H3->H3 S=some (.lst (oldL old3))->(∀b t,old3=some (b,t)->SqT X.K H3 t [.int (g b), .int b])->H3 it=none->s3.heap.IsListIter it p (dn.length + 1)->old3.map (·.1)=bst g (old.map (·.1)) n->
     codeAny (model X.prog X.w) A (.builtin "min.loop" ⟨[.ref it, .ref f, .ref S],[(cY "default",d)]⟩) R s3:=fun s3 H3 old3 a1 a2 a3 a4 a5 a6 a7=>
    ih (dn ++ [n]) s3 H3 old3 (by rw [hn];simp) a1 a2 a3 a4 a5 (by rw [aP];exact a6) (by rw [a7,fold])
   have itU:∀ {its2:List Value},(s2.heap.update S (Obj.mapSeq fun _=>its2.toArray)).IsListIter it p (dn.length + 1):=fun {its2}=>⟨oI,((eQ s2.heap S _).2 it hSI.symm).trans g2,hoc,hod⟩
   cases old with
   | none=>
     cases ro
     cases ro2
     show aR _ A.in1 (updateSeq S (fun _=>#[v, .ref t2]) >>=_) _ _ _
     refine aV ?_
     refine eX gS2 rfl ?_
     rw [hname]
     refine aW ⟨dZ dF _,go _ (upd H2 S (.lst [.int n, .ref t2])) (some (n,t2)) (qW7 (its2:=[v, .ref t2]) (t' :=s2.toks) I2 hS2 gS2 (.cons rvn (.cons rfl .nil)) (show 2<=bX by decide)) upS upd_same (fun b t z=>by cases z;exact tS dk) (by rw [qU hSI.symm];exact n2) itU rfl⟩
   | some bt=>
     obtain⟨b,t⟩:=bt
     obtain⟨u1,r1,rfl,ru,k1⟩:∃u r,olds=u::r/\RelV (.int b) u/\Vals [.ref t] r:=by cases ro with | cons a b=>exact⟨_,_,rfl,a,b⟩
     obtain⟨u2,rfl,rt⟩:=jI k1
     cases(show u2=Value.ref t from rt)
     have ht:=S2.tup (hold b t rfl)
     show aR _ A.in1 (tryCatch (holding [v, .ref t2] (richCompare .Lt (.ref t2) (.ref t) >>=_)) _ >>=_) _ _ _
     refine aV (eZ (dD (aV (zQl I2 (by rw [Around.in1_units];omega) dk ht ?_))))
     refine aV (dD (dH ?_))
     refine aV (wpAny_letGo (aW ?_))
     rw [show(if g n=g b then decide (n < b) else decide (g n < g b))=ltK g n b from rfl]
     cases hlk:ltK g n b with
     | true=>
       simp only [if_true]
       refine aV ?_
       refine eX gS2 rfl (aV (wpAny_letGo ?_)) (by rw [bQ,←ro2.length];exact(show 2<=bX by decide))
       rw [hname]
       refine aW ⟨dZ dF _,go _ (upd H2 S (.lst [.int n, .ref t2])) (some (n,t2)) (qW7 (its2:=[v, .ref t2]) (t' :=s2.toks) I2 hS2 gS2 (.cons rvn (.cons rfl .nil)) (show 2<=bX by decide)) upS upd_same (fun b t z=>by cases z;exact tS dk) (by rw [qU hSI.symm];exact n2) itU ?_⟩
       show some n=(if ltK g n b=true then some n else some b)
       rw [if_pos hlk]
     | false=>
       simp only [Bool.false_eq_true,if_false]
       refine aV (wpAny_letGo ?_)
       rw [hname]
       refine aW ⟨dZ dF _,go _ H2 (some (b,t)) I2 sm2 hS2 (fun b' t' z=>by cases z;exact ht) n2 hit2 ?_⟩
       show some b=(if ltK g n b=true then some n else some b)
       rw [if_neg (by rw [hlk];exact aA)]
end
theorem vQe (a f d:Value):argsOk "min" ⟨[a],[(cY "key",f),(cY "default",d)]⟩:=by unfold argsOk;kernel_rfl
section
variable {X:Cx} {pins:List (aZ×Obj)} {σ:L2.St} {H:Hp} {s:aJ}
theorem vZm {A:bF} {f p:aZ} {ns:List Int} {g:Int->Int} {d:Value} {E:Value->aJ->Prop} {Q:Value->aJ->Prop} (hh:A.handled=none) (hu:A.units + 12 < dC) (I:Inv X pins σ H s) (hp:SqL X.K H p (ns.map V.int))
  (key:∀(pins:List (aZ×Obj)) (H' :Hp) (s' :aJ) (n:Int) (u:Value),n∈ns->Inv X pins σ H' s' ->Same H H' ->RelV (.int n) u->aR (model X.prog X.w) A.in1 (call (.ref f) [u]) (EP X pins σ fun v H2=>Same H' H2/\∃t,v= .ref t/\SqT X.K H2 t [.int (g n), .int n]) (fun _ _=>False) s')
  (hQ:∀(b:Option Int) (u:Value) (s' :aJ) (H' :Hp),Inv X pins σ H' s' ->Same H H' ->b=ns.foldl (bst g) none->(b=none->u=d)->(∀m,b=some m->RelV (.int m) u)->Q u s'):
  aR (model X.prog X.w) A (call (.builtin "min") [.ref p] [(cY "key", .ref f),(cY "default",d)]) Q E s:=by
 have hname:(toString "min" ++ toString ".loop":String)="min.loop":=by decide
 obtain⟨its,rv,pl,_⟩:=I.list hp
 have lp:=pl.isList
 obtain⟨ol,hol,_⟩:=id lp
 have hpl:p < s.heap.objs.size:=aD hol
 refine kmk_tree PySem.F.kind_min PySem.F.plain_min PySem.F.entry_min (vQe _ _ _) ?_
 show aR _ A.in1 (Builtin.Builtins.bindParams "min" ["key","default"] 0 ⟨[],[(cY "key", .ref f),(cY "default",d)]⟩ >>=_) _ _ s
 refine aV (wpAny_of_eq (show Builtin.Builtins.bindParams "min" ["key","default"] 0 ⟨[],[(cY "key", .ref f),(cY "default",d)]⟩=pure [some (.ref f),some d] from by kernel_rfl) ?_)
 refine aV (aW ?_)
 refine aV (wpAny_pyIter_list lp ?_)
 refine aV (wpAny_newList ?_ (cH _))
 rw [hname]
 have fi:H s.heap.objs.size=none:=I.hok.fresh (aG _)
 have I1:Inv X pins σ H {s with heap:=s.heap.push {cls:= .type "list_iterator",data:= .fields #[.ref p, .int 0 0]}}:=I.kept (t' :=s.toks) fun b o e=>aX _ e
 have sz:(s.heap.push {cls:= .type "list_iterator",data:= .fields #[.ref p, .int 0 0]}).objs.size=s.heap.objs.size + 1:=size_push' ..
 have fs:H (s.heap.push {cls:= .type "list_iterator",data:= .fields #[.ref p, .int 0 0]}).objs.size=none:=I1.hok.fresh (aG _)
 have I2:=I1.laid (t' :=s.toks) (a:=(s.heap.push {cls:= .type "list_iterator",data:= .fields #[.ref p, .int 0 0]}).objs.size) (o:= .lst []) (h' :=(s.heap.push {cls:= .type "list_iterator",data:= .fields #[.ref p, .int 0 0]}).push (seqObj "list" #[] 0)) (fun b o q=>aX _ q) (aG _) ⟨cH _,[],0, .nil,aL _ rfl⟩
 have ne:(s.heap.push {cls:= .type "list_iterator",data:= .fields #[.ref p, .int 0 0]}).objs.size≠s.heap.objs.size:=by rw [sz];omega
 exact aW ⟨dZ dF _,vZl (H:=H) (ns:=ns) (g:=g) hh hu hp (bZ hpl) fs fi ne (fun H' hn=>I.fpOk (aG _) hn) key hQ ns [] _ _ none rfl I2 (.upd fs) upd_same (fun b t z=>nomatch z) (by rw [qU ne.symm];exact fi) ⟨_,aX _ (aL _ rfl),rfl,rfl⟩ rfl⟩
def Near (Pt:aZ) (H H' :Hp):Prop:=∀b o,b≠Pt->o≠ .own Pt->H b=some o->H' b=some o
def zW7 (K:aQ) (Pt:aZ) (l0 c0:Nat) (qual:Str) (iw il ja:Nat) (t:TE):TE:=fun σ H Q=>∃(p:aZ) (ns:List Int) (n:Int) (cv:V) (g:Int->Int),σ[iw]?=some (some (.ref p))/\σ[il]?=some (some (.int n))/\σ[ja]?=some (some cv)/\H p=some (.lst (ns.map V.int))/\H Pt=some (.tab l0 c0 qual)/\
 (∀H' m,m∈ns->Near Pt H H' ->∀Q2:VK,(∀v H2,Same H' H2->(∃t,v= .ref t/\SqT K H2 t [.int (g m), .int m])->Q2 v H2)->t [some (.int m),some cv] H' Q2)/\
 ∀H' m,Same H H' ->m=(ns.foldl (bst g) none).getD n->Q (.int m) H'
theorem vK3 {k:Nat} {x:Str} {p pos k1 k2 lpos:Pos} {e e2:Expr} {params:Arguments} {body:Expr} {scope:Scope} {y z:Str} {cy cd Pt:aZ} {qual:Str} {iw il ja:Nat} {t:TE} (hr:Room (k + 3) X.A) (hc:X.calm=true) (hg:Gl X x) (hm:X.mg x=none) (hv:cO x=some (.builtin "min"))
  (ha:PE X e (tVar iw)) (ha2:PE X e2 (tVar il)) (hq:X.env.qual ++ "<lambda>"=qual) (hdef:defaultsOf params X.env=([],[])) (hcl:closureFor scope X.env=pure [(y,cy)]) (hcode:X.env.code= .ref cd) (hhd:∀h:Heap,X.K.In h->PySem.W.CodeHd h cd Pt) (hP:cK≠Pt) (hB:∀h:Heap,X.K.In h->h.BuiltinsAt X.mg Pt)
  (S:LmScope [z,y] [z] scope [(y,cy)]) (o1:X.env.cells.lookup y=some cy) (o2:X.fn y=true) (o3:X.env.scope.names.lookup y=some .cell) (o4:X.env.kindOf y=some .cell) (o5:X.N[ja]?=some y)
  (hb:∀(pm c1 ctv u:Value),bindArgs (PySem.W.kla_fn "<lambda>" qual params body scope [(y,cy)] pm c1 ctv) ⟨[u],[]⟩=pure [(z,u)])
  (hbody:∀(f:aZ) (c1:Value) (s:aJ) (H:Hp),Room k (X.A.in1.deeper (PySem.W.envX qual scope s.heap.objs.size f c1 [(y,cy)]))->PE (qJ3 X.prog X.w X.K X.mg X.base [z,y] [z] qual scope f c1 [(y,cy)] X.A.in1 X.stack s H) body t)
  (hn:x≠"__name__":=by decide) (hdb:(x == ("__debug__":Str))=false:=by decide) (he:aU [e] X.env=(false,eval e X.env)::aU [] X.env:=by rfl)
  (h1:cM pos (aU [e] X.env)=(false,eval e X.env)::cM pos (aU [] X.env):=by rfl) (h2:(cM pos (aU [e] X.env)).any (·.1)=false:=by rfl):
  PE X (.Call (.Name x p) [e] [⟨some "key", .Lambda params body scope lpos,k1⟩,⟨some "default",e2,k2⟩] pos) (zW7 X.K Pt lpos.line lpos.col qual iw il ja t):=by
 intro pins s σ H Q I h
 obtain⟨p,ns,n,cv,g,w1,w2,w3,hp,hPt,hk,q⟩:=h
 refine eO (yG I hg hm hv ?_ hn hdb)
 refine callWith_kw (thn (jR ha xI he pos pins s σ H (fun vs H1=>vs=[.ref p]/\H1=H) I ⟨_,w1,rfl,rfl⟩) fun us s1 ⟨vs,H1,I1,r1,e1,e2⟩=>thn (qW5 (vK6 hq hdef hcl hcode hhd hP hB) (qW5 ha2 vWe) pos pins s1 σ H1
  (fun zs H2=>∃f c1 co pm ctv,zs=[.ref f, .int n]/\c1≠Pt/\(H c1=none\/H c1=some (.own Pt))/\(∀b o,b≠Pt->b≠c1->H b=some o->H2 b=some o)/\H2 Pt=some (ObO Pt (eM #[rawInt lpos.line,rawInt lpos.col, .ref c1]))/\H2 f=some (ObO f (PySem.W.kla_obj "<lambda>" qual params body scope [(y,cy)] pm c1 ctv))/\H2 c1=some (ObO c1 co)/\∃fs t,co.data= .fields fs/\fs[1]?=some (.str qual t)) I1 ?_) fun ws s2 ⟨zs,H2,I2,r2,q2⟩=>?_) h1 h2
 ·subst e2
  exact⟨hPt,fun f c1 co pm ctv H' a1 a2 a3 a4 a5 a6 a7 a8 a9 a10=>⟨_,w2,f,c1,co,pm,ctv,rfl,a2,a5,a6,a7,a8,a9,a10⟩⟩
 obtain⟨f,c1,co,pm,ctv,rfl,ncP,hc1,bt,eP,ef,ec,hco⟩:=q2
 subst e1 e2
 obtain⟨u1,rfl,z1⟩:=jI r1
 cases(show u1=Value.ref p from z1)
 obtain⟨uf,ud,rfl,zf,zd⟩:∃uf ud,ws=[uf,ud]/\RelV (.ref f) uf/\RelV (.int n) ud:=by
  cases r2 with | cons a b=>obtain⟨u,rfl,c⟩:=jI b;exact⟨_,u,rfl,a,c⟩
 cases(show uf=Value.ref f from zf)
 have npc:p≠c1:=fun z=>by rcases hc1 with hc1 | hc1 <;> rw [←z,hp] at hc1 <;> cases hc1
 have npP:p≠Pt:=fun z=>by rw [←z,hp] at hPt;cases hPt
 have near:Near Pt H2 H2->Near Pt H1 H2:=fun _ b o nb no e=>bt b o nb (fun z=>by rcases hc1 with hc1 | hc1 <;> rw [z,hc1] at e <;> cases e;exact no rfl) e
 have near:=near fun _ _ _ _ e=>e
 have hr1:Room (k + 2) X.A.in1:=hr.in1
 refine vZm (g:=g) hr.hd (by have:=hr.units;omega) I2 (SqL.of (bt p _ npP npc hp)) (fun pins' H' s' m u hm J sm ru=>?_) fun b u s' H' J sm eb hn0 hs=>?_
 ·refine zWa (k:=k + 1) (vs:=[.int m]) (cv:=cv) S hr1 rfl o1 o2 o3 o4 o5 J (xP J.hok (sm _ _ ef)) (xP J.hok (sm _ _ ec)) hco w3 rfl (.cons ru .nil) (hb _ _ _ _) ⟨t,hbody f (.ref c1) s' H' ((hr1.deeper _).mono (by omega)),fun Q2 kq=>hk H' m hm (fun b o nb no e=>sm _ _ (near b o nb no e)) Q2 fun v H3 S3 e3=>kq v H3 ⟨S3,e3⟩⟩
 ·have J2:=vYb J (sm _ _ eP) (sm _ _ ec) hco ncP
  have same:Same H1 (upd (upd H' c1 (.own Pt)) Pt (.tab lpos.line lpos.col qual)):=fun b o e=>by
   by_cases m1:b=Pt
   ·subst m1;rw [hPt] at e;cases e;exact upd_same
   ·rw [qU m1]
    by_cases m2:b=c1
    ·subst m2
     rcases hc1 with hc1 | hc1
     ·rw [hc1] at e;cases e
     ·rw [hc1] at e;cases e;exact upd_same
    ·rw [qU m2];exact sm _ _ (bt b o m1 m2 e)
  refine⟨.int ((ns.foldl (bst g) none).getD n),_,J2,?_,q _ _ same rfl⟩
  rw [←eb]
  cases b with
  | none=>rw [hn0 rfl];exact zd
  | some m=>exact hs m rfl
end
end L2
namespace L2
open PySem PySem.Spec PyProof PyProof.Rows
def DwP (P:aH) (w:bJ) (a:aZ) (kvs:List (Key×V)) (ep:Nat) (h:Heap):Prop:=kvs.length<=bX/\(a == eV)=false/\∃vs,KV kvs vs/\∃o es,h.get? a=some o/\o.ExactDict/\o.data= .dict es ep/\∃hd:h.DictOf (vN P w) a vs,Pairs (vN P w) es.toList vs
def DwO (P:aH) (w:bJ) (a:aZ) (kvs:List (Key×V)) (ep:Nat):HO:= .ext (DwP P w a kvs ep)
theorem vZ5 {P:aH} {w:bJ} {a:aZ} {kvs:List (Key×V)} {ep:Nat} {h1 h2:Heap} (p:DwP P w a kvs ep h1) (k:∀o,h1.get? a=some o->h2.get? a=some o):DwP P w a kvs ep h2:=by
 obtain⟨z,f,vs,r,o,es,e1,e2,e3,⟨o',es',ep',g1,g2⟩,e5⟩:=p
 exact⟨z,f,vs,r,o,es,k _ e1,e2,e3,⟨o',es',ep',k _ g1,g2⟩,e5⟩
theorem zWv {P:aH} {w:bJ} {H:Hp} {a:aZ} {kvs:List (Key×V)} {ep:Nat} {h:Heap} (p:DwP P w a kvs ep h):vJ P w H h a (DwO P w a kvs ep):=by
 refine⟨p,?_,fun _ _=>vZ5⟩
 obtain⟨_,_,_,_,o,_,e,_⟩:=p
 exact⟨o,e⟩
def Itw (P:aH) (w:bJ) (a:aZ) (kvs:List (Key×V)) (ep:Nat):It:=⟨fun i H=>H a=some (DwO P w a kvs ep)/\i < kvs.length,fun i H x H' =>H' =H/\∃e,kvs[i]?=some e/\x=kV e.1,fun i H=>H a=some (DwO P w a kvs ep)/\kvs.length<=i⟩
theorem vJu {P:aH} {w:bJ} {a:aZ} {kvs:List (Key×V)} {ep:Nat} {h:Heap} (p:DwP P w a kvs ep h):∃es,EsAt h a es ep/\es.size=kvs.length/\∀i (hi:i < es.size) e,kvs[i]?=some e->RelV (kV e.1) es[i].key:=by
 obtain⟨z,f,vs,r,o,es,e1,e2,e3,_,e5⟩:=p
 have l1:kvs.length=vs.length:=Paired.length r
 have l2:=e5.length
 rw [cX] at l2
 refine⟨es,⟨o,e1,e2,e3⟩,by omega,fun i hi e he=>?_⟩
 obtain⟨u,k1,k2⟩:=(keys_vals e5 r).get (i:=i) (x:=kV e.1) (by rw [bP,he];rfl)
 rw [bP,Array.getElem?_toList,cU hi] at k1
 cases k1
 exact k2
theorem vY2 {P:aH} {w:bJ} {K:aQ} {tg:Expr} (a it:aZ) (kvs:List (Key×V)) (ep:Nat):Turn P w K tg (Itw P w a kvs ep) [it] it (fun i h=>h.IsKeyIter it a i kvs.length ep) where
 mem:=by simp
 obj:=fun i h st b hb=>by
  have e:b=it:=by simpa using hb
  subst e
  obtain⟨o,e,c,d⟩:=st
  exact⟨o,e,fun v z=>by rw [d] at z;cases z⟩
 keep:=fun i h h' st k=>st.at fun o e=>k it (by simp) o e
 item:=by
  intro X hP hw hK hc i pins s σ H E I hf st hg
  subst hP hw hK
  obtain⟨ha,hi⟩:=hg
  obtain⟨es,m,sz,ks⟩:=vJu (show vJ X.prog X.w H s.heap a (DwO X.prog X.w a kvs ep) from I.hok a _ ha).1
  rw [←sz] at st hi
  obtain⟨f0,f1,f2,f3,f4,f5⟩:=hf it (by simp)
  refine vVm st m hi fun h' st' sb=>?_
  have I1:Inv X pins σ H {s with heap:=h' }:=I.turned (t' :=s.toks) (fun b o hb e=>(sb.2 b hb).trans e) f0 f1 f3 f4 f5
  have he:kvs[i]?=some (kvs[i]'(by omega)):=aF (by omega)
  have rx:=ks i hi _ he
  rw [sz] at st'
  obtain⟨o,e,c,d⟩:=id st'
  exact⟨_,rfl,vQm (s:={s with heap:=h' }) e c d (by decide) ⟨_,H,I1,rx,⟨rfl,_,he,rfl⟩,st',fun b hb=>(hf b hb).1⟩⟩
 done:=by
  intro X hP hw hK hc i pins s σ H E I hf st hg
  subst hP hw hK
  obtain⟨ha,hi⟩:=hg
  obtain⟨es,m,sz,ks⟩:=vJu (show vJ X.prog X.w H s.heap a (DwO X.prog X.w a kvs ep) from I.hok a _ ha).1
  rw [←sz] at st hi
  obtain⟨f0,f1,f2,f3,f4,f5⟩:=hf it (by simp)
  exact vWu (I.ok.hd hc) st m hi fun h' eb=>⟨rfl,I.turned (t' :=s.toks) (fun b o hb e=>eb b o hb e) f0 f1 f3 f4 f5⟩
 self:=fun _ _ _ _ _ st h=>wpAny_pyIter_keyiter st h
section
variable {X:Cx}
def iDw (P:aH) (w:bJ) (ia:Nat):TI:=fun σ H R=>∃a kvs,σ[ia]?=some (some (.ref a))/\H a=some (.dK kvs)/\∀ep,R (Itw P w a kvs ep) (upd H a (DwO P w a kvs ep))
theorem zXm {tg l:Expr} {ia:Nat} (hl:PE X l (tVar ia)):PI X tg l (iDw X.prog X.w ia):=by
 intro pins s σ H R I h
 obtain⟨a,kvs,h1,h2,q⟩:=h
 refine thn (hl pins s σ H (fun x H1=>x= .ref a/\H1=H) I ⟨_,h1,rfl,rfl⟩) fun v s1 ⟨x,H1,I1,r1,e1,e2⟩=>?_
 subst e1 e2
 cases r1
 obtain⟨z,far,vs,rel,hd⟩:=vQp I1.hok h2
 obtain⟨o,es,ep,e1,e2,e3,e4,e5,e6⟩:=id hd
 have dp:DwP X.prog X.w a kvs ep s1.heap:=⟨z,far,vs,rel,o,es,e1,e2,e3,hd,e5⟩
 obtain⟨es',m,sz,_⟩:=vJu dp
 have I2:Inv X pins σ (upd H1 a (DwO X.prog X.w a kvs ep)) s1:=I1.write (x:=a) (e:=a) (t' :=s1.toks) (by rw [h2];exact True.intro) (.inl rfl) (fun b q hb z=>z) ⟨o,e1⟩ (zWv dp)
 refine vVn far m ?_
 rw [sz]
 refine⟨s1.heap.objs.size,[s1.heap.objs.size],_,_,_,rfl,I2.kept (t' :=s1.toks) fun b o e=>aX _ e,vY2 a _ kvs ep,⟨_,aL _ rfl,rfl,rfl⟩,fun b hb=>?_,q ep⟩
 have e:b=s1.heap.objs.size:=by simpa using hb
 subst e
 exact I2.fpOk (aG _) (I2.hok.fresh (aG _))
def keyI:Key->Int
 | .inl i=>i
 | .inr _=>0
def zXa (ia il:Nat):TE:=fun σ H Q=>∃a kvs n,σ[ia]?=some (some (.ref a))/\H a=some (.dK kvs)/\σ[il]?=some (some (.int n))/\(∀e∈kvs,∃k,e.1=Sum.inl k)/\kvs.length < bX/\
 ∀D H',H D=none->Same H H' ->H' D=some (.lst (((kvs.map fun e=>keyI e.1).filter fun k=>decide (k≠n)).map V.int))->Q (.ref D) H'
def kyP (P:aH) (w:bJ) (a:aZ) (kvs:List (Key×V)) (n:Int) (H:Hp) (D:aZ) (H' :Hp):Prop:=∃ep,H D=none/\H' a=some (DwO P w a kvs ep)/\(∀b o,b≠a->H b=some o->H' b=some o)/\H' D=some (.lst (((kvs.map fun e=>keyI e.1).filter fun k=>decide (k≠n)).map V.int))
theorem vZv {P:aH} {w:bJ} {K:aQ} {ia il:Nat} {σ:L2.St} {H:Hp} {a:aZ} {kvs:List (Key×V)} {n:Int} {Q:VK} (h1:σ[ia]?=some (some (.ref a))) (h2:H a=some (.dK kvs)) (h3:σ[il]?=some (some (.int n))) (hk:∀e∈kvs,∃k,e.1=Sum.inl k) (hz:kvs.length < bX) (q:∀D H',kyP P w a kvs n H D H' ->Q (.ref D) H'):
  tComp (iDw P w ia) (qZl 0) (DX.tT K (fun _=>0) DX.EN' (DX.asB (DX.o2 DX.neD (DX.oN 0) (DX.oN 1)))) (tVar 0) (fun σ=>DX.capS [(1,il)] none σ 0 2) σ H Q:=by
 refine⟨a,kvs,h1,h2,fun ep D hD=>?_⟩
 have nDa:D≠a:=fun z=>by rw [z,upd_same] at hD;cases hD
 have hD0:H D=none:=by rw [qU nDa] at hD;exact hD
 refine⟨fun i m σ2 ys H2=>m=kvs.length - i/\i<=kvs.length/\(∃x,σ2=[x,some (.int n)])/\H2 a=some (DwO P w a kvs ep)/\(∀b o,b≠a->H b=some o->H2 b=some o)/\H2 D=some (.lst ys)/\ys=((((kvs.take i).map fun e=>keyI e.1).filter fun k=>decide (k≠n)).map V.int),
  ⟨kvs.length,by simp,cH _,⟨none,?_⟩,by rw [qU nDa.symm];exact upd_same,fun b o nb e=>by rw [qU (qT e hD0),qU nb];exact e,upd_same,by simp⟩,?_⟩
 ·show DX.capS [(1,il)] none σ 0 2=_
  have:σ.getD il none=some (V.int n):=by rw [cW,h3];rfl
  show [none,σ.getD il none]=_
  rw [this]
 rintro i m σ2 ys H2 ⟨rfl,hi2,⟨x,rfl⟩,ea,eb,eD,rfl⟩
 have lys:((((kvs.take i).map fun e=>keyI e.1).filter fun k=>decide (k≠n)).map V.int).length<=i:=by
  rw [aY]
  exact bT (List.length_filter_le ..) (by rw [aY,dX];omega)
 refine⟨eD,by omega,?_⟩
 by_cases hlt:i < kvs.length
 ·refine .inr ⟨⟨ea,hlt⟩,fun y H3 hy=>?_⟩
  obtain⟨rfl,e,e1,rfl⟩:=hy
  obtain⟨k,ek⟩:=hk e (dP e1)
  have tk:(kvs.take (i + 1)).map (fun e=>keyI e.1)=(kvs.take i).map (fun e=>keyI e.1) ++ [k]:=by
   rw [List.take_add_one,e1,Option.toList_some,bK]
   show _ ++ [keyI e.1]=_
   rw [ek];rfl
  rw [ek]
  unfold qZl
  show DX.tT K (fun _=>0) DX.EN' (DX.asB (DX.o2 DX.neD (DX.oN 0) (DX.oN 1))) [some (.int k),some (.int n)] H3 _
  have hdn:DX.hide (DX.hd2 (fun _=>0) fun _=>0) H3=H3:=by funext b;unfold DX.hide;rw [if_pos (by rfl)]
  have fz:∀(F:Hp) (j:Int),DX.jP K (fun _=>0) F H3 (.s false (.fz (.int j))) (some (.int j)) (fun _=>0):=fun F j=>DX.qZb (.int j)
  refine⟨[.s false (.fz (.int k)), .s false (.fz (.int n))],fun _=>0,fun _=>0,⟨⟨_,_,_,_,rfl,fz _ k,⟨_,_,_,_,rfl,fz _ n,⟨⟨rfl,fun z=>absurd rfl z⟩,fun _=>rfl⟩,fun _=>rfl⟩,fun _=>rfl⟩,fun _=>by show 0 + 0<=1;omega,fun _ z=>absurd rfl z⟩,?_⟩
  have em:DX.asB (DX.o2 DX.neD (DX.oN 0) (DX.oN 1)) [.s false (.fz (.int k)), .s false (.fz (.int n))]= .ok (decide (k≠n),[.s false (.fz (.int k)), .s false (.fz (.int n))]):=by
   show DX.Res.ok (!(Dt.beq (.int k) (.int n)),_)=_
   have:(!(Dt.beq (.int k) (.int n)))=decide (k≠n):=by
    by_cases e:k=n
    ·subst e;simp [Dt.beq]
    ·simp [Dt.beq,e]
   rw [this]
  rw [em]
  intro H5 W5 st5 _
  have sm:Same H3 H5:=fun b o e=>DX.qG _ _ (st5.same b o (by rw [hdn];exact e))
  have eD5:=sm _ _ eD
  have fin:∀(zs:List V) (H6:Hp),(∀b o,H5 b=some o->b≠D->H6 b=some o)->H6 D=some (.lst zs)->zs=((((kvs.take (i + 1)).map fun e=>keyI e.1).filter fun k=>decide (k≠n)).map V.int)->∃m',m' < kvs.length - i/\(m' =kvs.length - (i + 1)/\i + 1<=kvs.length/\(∃x,[some (.int k),some (.int n)]=[x,some (V.int n)])/\H6 a=some (DwO P w a kvs ep)/\(∀b o,b≠a->H b=some o->H6 b=some o)/\H6 D=some (.lst zs)/\zs=((((kvs.take (i + 1)).map fun e=>keyI e.1).filter fun k=>decide (k≠n)).map V.int)):=fun zs H6 k6 d6 ez=>
   ⟨_,by omega,rfl,hlt,⟨_,rfl⟩,k6 _ _ (sm _ _ ea) nDa.symm,fun b o nb e=>k6 _ _ (sm _ _ (eb b o nb e)) (qT e hD0),d6,ez⟩
  dsimp only
  by_cases ekn:k=n
  ·rw [if_neg (by simp [ekn])]
   exact fin _ H5 (fun b o e _=>e) eD5 (by rw [tk,List.filter_append];simp [ekn])
  ·rw [if_pos (by simp [ekn])]
   exact⟨_,rfl,eD5,fin _ _ (fun b o e nb=>by rw [qU nb];exact e) upd_same (by rw [tk,List.filter_append];simp [ekn];rfl)⟩
 ·have e:i=kvs.length:=by omega
  subst e
  rw [List.take_of_length_le (aG _)] at eD
  exact .inl ⟨⟨ea,aG _⟩,q D _ ⟨ep,hD0,ea,eb,eD⟩⟩
theorem vKp {cl:List (Str×aZ)} {Nc:List Str} {scope:Scope} {tg iter elt:Expr} {ifs:List Expr} {pos py spos:Pos} {ia il i:Nat} {y:Str} (hc:X.calm=true) (hN:X.N.Nodup) (hiy:X.N[i]?=some y) (hy:Loc X.env.scope y) (cp:Caps X scope cl Nc (fun σ=>DX.capS [(1,il)] none σ 0 2)) (hi:PE X iter (tVar ia))
  (hg:∀C s H fp,PG (cCx X scope cl C Nc s H fp) tg (qZl 0)) (ht:∀C s H fp,DX.TDs (cCx X scope cl C Nc s H fp) (fun _=>0) DX.EN' ifs (DX.asB (DX.o2 DX.neD (DX.oN 0) (DX.oN 1)))) (he:∀C s H fp,PE (cCx X scope cl C Nc s H fp) elt (tVar 0))
  (hsw:swapsWith (.ListComp elt [⟨tg,iter,ifs,0⟩] scope pos) (some (.Name y py)) spos.line X.env=pure true:=by rfl)
  (hs:∀x,foldedSetIterable iter X.env x=pure x:=by intro _;rfl) (hf:X.fn y=true\/X.env.scope.names.lookup y=some .local:=by first | exact .inl rfl | exact .inr rfl | assumption):
  PS X (.Assign [.Name y py] (.ListComp elt [⟨tg,iter,ifs,0⟩] scope pos) spos) (tAsg (zXa ia il) (qZl i)):=by
 intro pins s σ H D I h
 obtain⟨a,kvs,n,h1,h2,h3,hk,hz,q⟩:=h
 refine thn (vKs (tt:=DX.tT X.K (fun _=>0) DX.EN' (DX.asB (DX.o2 DX.neD (DX.oN 0) (DX.oN 1)))) hc hN hiy hy cp (zXm hi) hg (fun C s H fp=>(ht C s H fp).h) he hsw hs hf pins s σ H {D with nx:=fun σ' H' =>∃D,σ' =σ.set i (some (.ref D))/\kyP X.prog X.w a kvs n H D H' } I
  (vZv h1 h2 h3 hk hz fun D H' z=>⟨D,rfl,z⟩)) fun fl s1 hu=>?_
 cases fl with
 | ret v=>exact hu
 | brk=>exact hu
 | cont=>exact hu
 | next=>
   obtain⟨σ',H',J,D1,rfl,ep,hD0,ea,eb,eD⟩:=hu
   obtain⟨z,far,vs,rel,o,es,e1,e2,e3,hd,e5⟩:=(show vJ X.prog X.w H' s1.heap a (DwO X.prog X.w a kvs ep) from J.hok a _ ea).1
   have nDa:D1≠a:=fun z=>by rw [z,h2] at hD0;cases hD0
   refine⟨_,upd H' a (.dK kvs),J.write (x:=a) (e:=a) (t' :=s1.toks) (by rw [ea];exact True.intro) (.inl rfl) (fun b q hb z=>z) ⟨o,e1⟩ ⟨z,far,vs,rel,hd⟩,q D1 _ hD0 (fun b u e=>?_) (by rw [qU nDa];exact eD)⟩
   by_cases m:b=a
   ·subst m;rw [h2] at e;cases e;exact upd_same
   ·rw [qU m];exact eb b u m e
end
end L2
namespace L2
open PySem PySem.Spec PyProof.Rows
theorem FunC.okD {P:aH} {w:bJ} {K:aQ} {mg:Str->Option Value} {base:Heap} {x:Str} {st:Stmt} {f c:aZ} {fd:bW} {N ps:List Str} {k:Nat} {sp:Sp} (F:FunC K x st f fd c) (S:FnScope N ps (qJ st)) (len:∀vs H Q E,sp vs H Q E->vs.length=ps.length)
  (hbody:∀(A:bF) (outer:List Env) (s:aJ) (H:Hp) (vs:List V) (Q:VK) (E:XK),Room k (A.deeper (envOfC x (qJ st) s.heap.objs.size f (.ref c)))->sp vs H Q E->
   ∃t,PSs (cxOf (CXd P w) P w K mg base N x (qJ st) f (.ref c) A outer s H E) (qH st) t/\t {nx:=fun _ H' =>Q .non H',rt:=Q} (yK N vs) H):FnOk P w K mg base (CXd P w) (k + 1) f fd ps sp:=by
 obtain⟨oc,od,kV,doc,pm,an,ct,osl,rfl,lk,hcd⟩:=F.ex
 exact zZf lk hcd S len hbody
end L2
namespace DX
open PySem L2 PyProof.Rows
theorem zQ7 {l:List (Str×NameKind)} {cs:List Str} (h:∀y∈l,y.2= .free->y.1∈cs):∀x,l.lookup x=some .free->x∈cs:=fun x e=>h (x, .free) (cV e) rfl
structure Mks (K:aQ) (mg:Str->Option Value) (c Pt:aZ):Prop where
 hhd:∀h:Heap,K.In h->PySem.W.CodeHd h c Pt
 hP:cK≠Pt
 hB:∀h:Heap,K.In h->h.BuiltinsAt mg Pt
 h0:Pt≠0
def lenI (ks:List Key) (vs:List D) (k:Int):Int:=match(kidx (Sum.inl k) ks).bind fun j=>vs[j]? with
 | some (.nd (.dct ls) _)=>ls.length
 | _=>0
def isIn:Key->Bool
 | .inl _=>true
 | .inr _=>false
def isDc:D->Bool
 | .nd (.dct _) _=>true
 | _=>false
def vQh (ks:List Key) (vs:List D) (n:Int):Int:=(((ks.map keyI).filter fun k=>decide (k≠n)).foldl (bst (lenI ks vs)) none).getD n
def vJp:Fn:=fun args=>match args with
 | [.s a (.fz (.nd (.dct ks) vs)), .s b (.fz (.int n))]=>cond (ks.all isIn && (vs.all isDc && decide (ks.length < 4000))) (.ok (.fz (.int (vQh ks vs n)),outs 2 [.s a (.fz (.nd (.dct ks) vs)), .s b (.fz (.int n))])) .no
 | _=> .no
def zVu (Pt:aZ) (l0 c0:Nat):Sp:=fun vs H Q _=>∃(a:aZ) (kvs:List (Key×V)) (n:Int) (g:Int->Int),vs=[.ref a, .int n]/\H a=some (.dK kvs)/\(∀e∈kvs,∃k,e.1=Sum.inl k)/\kvs.length < bX/\H Pt=some (.tab l0 c0 lamQ)/\
 (∀k∈kvs.map (fun e=>keyI e.1),∃b ls,valV kvs (.inl k)=some (.ref b)/\H b=some (.dK ls)/\g k=ls.length)/\∀m H',Same H H' ->m=(((kvs.map fun e=>keyI e.1).filter fun k=>decide (k≠n)).foldl (bst g) none).getD n->Q (.int m) H'
theorem vX5 {K:aQ} {c:Nat->aZ} (h0:c 77≠0) {vs:List V} {H:Hp} {Q:VK} {E:XK} (h:spD K c 2 vJp vs H Q E):zVu (c 77) (c 78) (c 79) vs H Q E:=by
 obtain⟨args,B,W,hl,cf,w⟩:=h
 unfold vJp at w
 split at w
 ·rename_i a ks ds b n
  obtain⟨hc,w⟩:=v4 w
  rw [bD,bD] at hc
  obtain⟨c1,c2,c3⟩:=hc
  have c3:=of_decide_eq_true c3
  have tab:=cf.at_.tab h0
  obtain⟨x,r,Z1,Z2,ev,s1,⟨y,r2,Z3,Z4,er,s2,⟨⟨e3,_⟩,_⟩,_⟩,_⟩:=id cf.at_
  subst e3 er
  obtain⟨v0,v1,rfl,rfl,rfl⟩:∃v0 v1,vs=[v0,v1]/\x=some v0/\y=some v1:=by
   cases vs with
   | nil=>cases ev
   | cons v0 vs=>cases vs with
     | nil=>cases ev
     | cons v1 vs=>cases vs with
       | nil=>cases ev;exact⟨_,_,rfl,rfl,rfl⟩
       | cons _ _=>cases ev
  have d0:DAt K c (hide (hd2 B W) H) v0 (.nd (.dct ks) ds):=(OAt.fz (H:=H).mp s1).1
  have d1:DAt K c (hide (hd2 B W) H) v1 (.int n):=(OAt.fz (H:=H).mp s2).1
  cases d1
  obtain⟨p,ws,rfl,⟨l1,nd,hp⟩,dws⟩:=d0.un
  have ek:(ks.zip ws).map (fun e=>keyI e.1)=ks.map keyI:=by
   rw [show(fun e:Key×V=>keyI e.1)=keyI ∘ Prod.fst from rfl,←bH,List.map_fst_zip (by omega)]
  refine⟨p,ks.zip ws,n,lenI ks ds,rfl,qG _ _ hp,fun e he=>?_,by rw [List.length_zip];exact dN (Nat.min_le_left ..) (aM c3 (by decide)),qG _ _ tab,fun k hk=>?_,fun m H' sm em=>?_⟩
  ·have:=List.all_eq_true.mp c1 e.1 (List.of_mem_zip he).1
   cases e1:e.1 with
   | inl k=>exact⟨k,rfl⟩
   | inr k=>rw [e1] at this;cases this
  ·rw [ek] at hk
   obtain⟨k',hk',rfl⟩:=bG.mp hk
   have:=List.all_eq_true.mp c1 k' hk'
   cases k' with
   | inr _=>cases this
   | inl k=>
     show∃b ls,valV (ks.zip ws) (.inl k)=_/\_
     cases ej:kidx (Sum.inl k:Key) ks with
     | none=>exact absurd hk' (qVr ej)
     | some j=>
       obtain⟨j1,j2⟩:=qZe ej
       have hj:j < ds.length:=by rw [←dws.len,←l1];exact j1
       obtain⟨u,u1,u2⟩:=dws.get (aF hj)
       have dc:=List.all_eq_true.mp c2 ds[j] (eY hj)
       cases e2:ds[j] with
       | nd kd es=>
         rw [e2] at u2 dc
         cases kd with
         | dct ls=>
           obtain⟨b,ws2,rfl,⟨m1,m2,m3⟩,_⟩:=u2.un
           refine⟨b,ls.zip ws2,?_,qG _ _ m3,?_⟩
           ·rw [yM l1,ej];exact u1
           ·show lenI ks ds k=_
            unfold lenI
            rw [ej]
            show(match ds[j]? with | some (.nd (.dct ls) _)=>(ls.length:Int) | _=>0)=_
            rw [aF hj,e2,List.length_zip]
            dsimp only
            omega
         | _=>cases dc
       | _=>rw [e2] at dc;cases dc
  ·rw [ek] at em
   have g:GotR K c ([.s a (.fz (.nd (.dct ks) ds)), .s b (.fz (.int n))] ++ List.replicate 0 .un) ([.ref p, .int n].map some ++ List.replicate 0 none) H B W [.s a (.fz (.nd (.dct ks) ds)), .s b (.fz (.int n))] ([V.ref p, .int n].map some) H' W (fun _=>0) (.fz (.int m)) (.int m):=
    ⟨(Step.grow cf sm).cast (fun _=>rfl) (fun _=>rfl) fun _=>rfl,(cf.grow sm).cast (fun _=>rfl) fun _=>rfl,OAt.fz.mpr ⟨.int m,fun _=>rfl⟩⟩
   obtain⟨W2,g2⟩:=g.out hl cf
   have w2:=w (.int m) H' W2 (fun _=>0)
   rw [show vQh ks ds n=m from em.symm] at w2
   exact w2 g2
 ·exact w.elim
end DX
namespace X65
open PySem L2 DX PyProof.Rows
def j5:Fn:=fnS 4 0 (sSeq (qX6 [1] "steps" (pOf (oN 0)) (eF listD [(oN 1)]))
    (sSeq (qX6 [1] "draws" (pOf (oN 0)) (compS 1 [] [0] (iV (oV (oN 2))) (gN 0) bTrue (fzS (eF listD [(oN 0)]))))
    (qX6 [1] "slots" (pOf (oN 0)) (owS (oV (oN 3))))))
def yJ:Fn:=fnS 1 1 (sSeq (sSet 1 (owS (oV (oIx (oN 0) (oC (.int 0))))))
    (sSeq (sIf (asB (o2 eqD (oN 1) (oC (.str "if")))) (sRet (eLst [(oV (oIx (oN 0) (oC (.int 1)))),(oV (oIx (oN 0) (oC (.int 2)))),(oV (oIx (oN 0) (oC (.int 3))))])) sNil)
    (sSeq (sIf (asB (o2 inD (oN 1) (.v (vX [(oV (oC (.str "op"))),(oV (oC (.str "bind")))])))) (sRet (eLst [(oV (oIx (oN 0) (oC (.int 2)))),(oV (oIx (oN 0) (oC (.int 3))))])) sNil)
    (sSeq (sIf (asB (o2 inD (oN 1) (.v (vX [(oV (oC (.str "rest"))),(oV (oC (.str "field")))])))) (sRet (eLst [(oV (oIx (oN 0) (oC (.int 1))))])) sNil)
    (sSeq (sIf (asB (o2 eqD (oN 1) (oC (.str "record")))) (sRet (compS 2 [] [0,1] (iV (oV (oIx (oN 0) (oC (.int 1))))) (gT 2 (gCn (gN 0) (gCn (gN 1) gNl))) bTrue (oV (oN 1)))) sNil)
    (sSeq (sIf (asB (o2 eqD (oN 1) (oC (.str "call")))) (sRet (eF listD [(oIx (oN 0) (oC (.int 2)))])) sNil)
    (sRet (eLst []))))))))
def wO (F_slots_read_h:Fn):SS:=(vL (eMu1 (pOf (oN 2)) (vQ F_slots_read_h [(.v (oV (oN 3)))]) exF))
def qK:Nat->Fn
 | 0=>fun _=> .no
 | h + 1=>fnS 1 3 (sSeq (sSet 1 (owS (oV (oIx (oN 0) (oC (.int 0))))))
   (sSeq (sIf (asB (o2 eqD (oN 1) (oC (.str "slot")))) (sRet (eLst [(oV (oIx (oN 0) (oC (.int 1))))])) sNil)
   (sSeq (sIf (asB (o2 eqD (oN 1) (oC (.str "bind")))) (sRet (eCat (.v (fzS (vQ (qK h) [(.v (oV (oIx (oN 0) (oC (.int 2)))))]))) (.v (fzS (compS 2 [(1,0)] [0] (iV (fzS (vQ (qK h) [(.v (oV (oIx (oN 0) (oC (.int 3)))))]))) (gN 0) (asB (o2 neD (oN 0) (oIx (oN 1) (oC (.int 1))))) (oV (oN 0))))))) sNil)
   (sSeq (sSet 2 (eLst []))
   (sSeq (sFor (iV (fzS (vQ yJ [(.v (oV (oN 0)))]))) (gN 3) (wO (qK h)))
   (sRet (eMv 2)))))))
def qVu:SS:=(sSeq (vL (eMu1 (pOf (oN 2)) (eF sortSD [(.v (fzS (compS 2 [(1,1)] [0] (iV (fzS (vQ (qK 8) [(.v (oV (oIx (oN 4) (oC (.int 1)))))]))) (gN 0) bTrue (oV (oIx (oN 1) (oN 0))))))]) apF))
    (sIf (asB (o2 neD (oIx (oN 4) (oC (.int 0))) (o1 negD (oC (.int 1))))) (yP (pOf (oN 1)) (pOf (oIx (oN 4) (oC (.int 0)))) (owS (oV (oN 3)))) sNil))
def qXk:Fn:=fnS 1 4 (sSeq (sSet 1 eDct0)
    (sSeq (sSet 2 (eLst []))
    (sSeq (sFor (iL enL [(oV (oFld [1] "steps" (oN 0)))]) (gT 2 (gCn (gN 3) (gCn (gN 4) gNl))) qVu)
    (sRet (eMv 2)))))
def xG:SS:=(vL (eMu1 (pOf (oN 1)) (compS 2 [(1,0)] [0] (iV (oV (oN 2))) (gN 0) bTrue (oV (oIx (oIx (oFld [1] "steps" (oN 1)) (oN 0)) (oC (.int 0))))) apF))
def j4:Fn:=fnS 1 2 (sSeq (sSet 1 (eLst []))
    (sSeq (sFor (iV (fzS (vQ qXk [(.v (oV (oN 0)))]))) (gN 2) xG)
    (sRet (eMv 1))))
def yZ:Fn:=fnS 2 0 (sRet (eIte (asB (o2 eqD (oIx (oN 0) (oC (.int 0))) (o1 negD (oC (.int 1))))) (owS (oV (oN 1))) (eCat (oN 1) (.v (fzS (eLst [(oV (oIx (oN 0) (oC (.int 0))))]))))))
def v6:SS:=(sIf (asB (o2 neD (oN 3) (oN 2))) (yP (pOf (oIx (oN 0) (oN 2))) (pOf (oN 3)) (owS (oV (oC (.bl true))))) sNil)
def vB:SS:=(sFor (iV (oV (oN 1))) (gN 3) v6)
def zU:Fn:=fnS 2 2 (sFor (iV (oV (oN 1))) (gN 2) vB)
def wR:SS:=(sSeq (sIf (asB (o2 neD (oIx (oN 2) (oC (.int 0))) (o1 negD (oC (.int 1))))) (yP (pOf (oN 1)) (pOf (oIx (oN 2) (oC (.int 0)))) eDct0) sNil)
    (vL (vQ zU [(.io 1),(.v (fzS (vQ yZ [(.v (oV (oN 2))),(.v (oV (oN 3)))])))])))
def j0:Fn:=fnS 1 3 (sSeq (sSet 1 eDct0)
    (sSeq (sFor (iL zpL [(oV (oFld [1] "steps" (oN 0))),(fzS (vQ j4 [(.v (oV (oN 0)))]))]) (gT 2 (gCn (gN 2) (gCn (gN 3) gNl))) wR)
    (sRet (eMv 1))))
def qQ2:Fn:=vJp
def xU:SS:=(vL (qV0 (pOf (oIx (oN 1) (oN 5))) (pOf (oN 3))))
def wW:SS:=(sSeq (sSet 3 (vQ qQ2 [(.b (pOf (oN 1))),(.v (oV (oIx (oIx (oFld [1] "steps" (oN 0)) (o1 negD (oC (.int 1)))) (oC (.int 0)))))]))
    (sSeq (sSet 4 (eF listKD [(.v (fzS (qV0 (pOf (oN 1)) (pOf (oN 3)))))]))
    (sSeq (sFor (iV (oV (oN 4))) (gN 5) xU)
    (sSeq (vL (vQ zU [(.io 1),(.v (oV (oN 4)))]))
    (vL (eMu1 (pOf (oN 2)) (owS (vX [(oV (oN 3)),(oV (oN 4))])) apF))))))
def xW:Fn:=fnS 1 5 (sSeq (sSet 1 (vQ j0 [(.v (oV (oN 0)))]))
    (sSeq (sSet 2 (eLst []))
    (sSeq (wH (asB (oGt (oL lenD [(oN 1)]) (oC (.int 0)))) wW 100000)
    (sRet (eMv 2)))))
def qJe:SS:=(yP (pOf (oN 2)) (pOf (oN 3)) (owS (oV (oL lenD [(oN 2)]))))
def qJd:SS:=(sSeq (sSet 6 (owS (svA minDD [(.v (fzS (compS 2 [(1,2)] [0] (iV (oV (oN 4))) (gN 0) bTrue (oV (oIx (oN 1) (oN 0))))))])))
    (vL (eMu1 (pOf (oN 5)) (owS (vX [(oV (oN 3)),(fzS (eF sortID [(.v (fzS (eCat (oN 4) (.v (fzS (eLst [(oV (oN 3))]))))))])),(oV (oN 6))])) apF)))
def qZz:Fn:=fnS 1 6 (sSeq (sSet 1 (vQ xW [(.v (oV (oN 0)))]))
    (sSeq (sSet 2 eDct0)
    (sSeq (sFor (iV (oV (oN 1))) (gT 2 (gCn (gN 3) (gCn (gN 4) gNl))) qJe)
    (sSeq (sSet 5 (eLst []))
    (sSeq (sFor (iV (oV (oN 1))) (gT 2 (gCn (gN 3) (gCn (gN 4) gNl))) qJd)
    (sRet (eMv 5)))))))
def jH:Fn:=fnS 1 0 (sRet (owS (oV (oAnd (o1 (isiD "int") (oN 0)) (oNot (o1 (isiD "bool") (oN 0)))))))
def zN:Fn:=fnS 2 3 (sSeq (sSet 2 (owS (oV (oSub (oL lenD [(oN 1)]) (oC (.int 1))))))
    (sSeq (sSet 3 (owS (vX [(oV (oC (.str "slot"))),(oV (oIx (oN 1) (oSub (oN 2) (oMod (oN 0) (oL min2D [(oC (.int 4)),(oL lenD [(oN 1)])])))))])))
    (sSeq (sSet 4 (owS (vX [(oV (oC (.str "slot"))),(oV (oIx (oN 1) (oSub (oN 2) (oMod (oDiv (oN 0) (oC (.int 7))) (oL min2D [(oC (.int 4)),(oL lenD [(oN 1)])])))))])))
    (sSeq (sIf (asB (o2 eqD (oMod (oDiv (oN 0) (oC (.int 31))) (oC (.int 3))) (oC (.int 0)))) (sSet 4 (owS (vX [(oV (oC (.str "slot"))),(oV (oIx (oN 1) (oMod (oDiv (oN 0) (oC (.int 93))) (oL lenD [(oN 1)]))))]))) sNil)
    (sRet (owS (vX [(oV (oN 3)),(oV (oN 4))])))))))
def wS:SS:=(sSeq (sSet 6 (owS (oV (oMod (oMul (oN 5) (oC (.int 48271))) (oC (.int 2147483647))))))
    (sSeq (sAsg (fzS (vQ zN [(.v (oV (oDiv (oN 6) (oC (.int 8))))),(.b (pOf (oN 3)))])) (gT 2 (gCn (gN 7) (gCn (gN 8) gNl))))
    (sSeq (sSet 9 (owS (vX [(oV (oC (.str "slot"))),(oV (oIx (oN 3) (oMod (oDiv (oN 6) (oC (.int 11))) (oL lenD [(oN 3)]))))])))
    (sSeq (sSet 10 (owS (oV (oMod (oN 6) (oC (.int 8))))))
    (sSeq (sSet 11 (eLst [(oV (oIx (oN 7) (oC (.int 1)))),(oV (oIx (oN 8) (oC (.int 1))))]))
    (sSeq (sSet 12 (owS (vX [(oV (oC (.str "op"))),(oV (oC (.str "+"))),(oV (oN 7)),(oV (oN 8))])))
    (sSeq (sIf (asB (o2 eqD (oN 10) (oC (.int 1)))) (sSeq (sSet 12 (owS (vX [(oV (oC (.str "if"))),(oV (oN 7)),(oV (oN 8)),(oV (oN 9))])))
    (vL (eMu1 (pOf (oN 11)) (owS (oV (oIx (oN 9) (oC (.int 1))))) apF))) sNil)
    (sSeq (sIf (asB (o2 eqD (oN 10) (oC (.int 2)))) (sSeq (sSet 12 (owS (vX [(oV (oC (.str "bind"))),(oV (oN 4)),(oV (oN 7)),(vX [(oV (oC (.str "op"))),(oV (oC (.str "*"))),(vX [(oV (oC (.str "slot"))),(oV (oN 4))]),(oV (oN 8))])])))
    (sSet 4 (owS (oV (oAdd (oN 4) (oC (.int 1))))))) sNil)
    (sSeq (sIf (asB (o2 eqD (oN 10) (oC (.int 3)))) (sSeq (sSet 12 (owS (vX [(oV (oC (.str "num"))),(oV (oC (.int 2)))])))
    (sSet 11 (eLst []))) sNil)
    (sSeq (sIf (bOr (asB (o2 eqD (oN 10) (oC (.int 0)))) (asB (o2 eqD (oN 10) (oC (.int 4))))) (vL (eMu1 (pOf (oN 1)) (owS (vX [(oV (o1 negD (oC (.int 1)))),(oV (oN 12))])) apF)) (sSeq (vL (eMu1 (pOf (oN 1)) (owS (vX [(oV (oN 4)),(oV (oN 12))])) apF))
    (sSeq (vL (eMu1 (pOf (oN 11)) (owS (oV (oN 4))) apF))
    (sSeq (vL (eMu1 (pOf (oN 3)) (owS (oV (oN 4))) apF))
    (sSet 4 (owS (oV (oAdd (oN 4) (oC (.int 1))))))))))
    (vL (eMu1 (pOf (oN 2)) (eF sortSD [(oN 11)]) apF))))))))))))
def j3:Fn:=fnS 1 13 (sSeq (sSet 1 (eLst [(vX [(oV (oC (.int 0))),(vX [(oV (oC (.str "num"))),(oV (oC (.int 1)))])])]))
    (sSeq (sSet 2 (eLst [(fzS (eLst [(oV (oC (.int 0)))]))]))
    (sSeq (sSet 3 (eLst [(oV (oC (.int 0)))]))
    (sSeq (sSet 4 (owS (oV (oC (.int 1)))))
    (sSeq (sFor (iV (oV (oN 0))) (gN 5) wS)
    (sSeq (sSet 13 (owS (oV (oIx (oN 3) (oMod (oL sumD [(oN 0)]) (oL lenD [(oN 3)]))))))
    (sRet (owS (vX [(fzS (eCat (oN 1) (.v (fzS (eLst [(vX [(oV (oN 4)),(vX [(oV (oC (.str "slot"))),(oV (oN 13))])])]))))),(fzS (eCat (oN 2) (.v (fzS (eLst [(fzS (eLst [(oV (oN 13)),(oV (oN 4))]))]))))),(fzS (eCat (oN 3) (.v (fzS (eLst [(oV (oN 4))])))))])))))))))
def B_law_rows_are_1:SS:=(sIf (bNot (asB (.v (fzS (vQ jH [(.v (oV (oN 4)))]))))) (sRet (owS (oV (oC (.bl false))))) sNil)
def B_law_rows_are_2:SS:=(sSeq (sSet 3 (owS (oV (oIx (oN 0) (oN 2)))))
    (sSeq (sIf (bOr (bNot (asB (o1 (isiD "tuple") (oN 3)))) (bOr (asB (o2 neD (oL lenD [(oN 3)]) (oC (.int 3)))) (bOr (bNot (asB (.v (fzS (vQ jH [(.v (oV (oIx (oN 3) (oC (.int 0)))))]))))) (bNot (asB (o1 (isiD "list") (oIx (oN 3) (oC (.int 1))))))))) (sRet (owS (oV (oC (.bl false))))) sNil)
    (sSeq (sIf (bAnd (asB (o2 notN (oIx (oN 3) (oC (.int 2))) (oC .non))) (bNot (asB (.v (fzS (vQ jH [(.v (oV (oIx (oN 3) (oC (.int 2)))))])))))) (sRet (owS (oV (oC (.bl false))))) sNil)
    (sFor (iV (oV (oIx (oN 3) (oC (.int 1))))) (gN 4) B_law_rows_are_1))))
def zE:Fn:=fnS 2 3 (sSeq (sIf (bOr (bNot (asB (o1 (isiD "list") (oN 0)))) (asB (o2 neD (oL lenD [(oN 0)]) (oN 1)))) (sRet (owS (oV (oC (.bl false))))) sNil)
    (sSeq (sFor (iL rg1 [(oV (oN 1))]) (gN 2) B_law_rows_are_2)
    (sRet (owS (oV (oC (.bl true)))))))
def B_law_hangs_1:SS:=(sIf (bAnd (asB (o2 neD (oN 5) (oN 2))) (asB (o2 niD (oN 5) (oIx (oIx (oN 0) (oN 4)) (oC (.int 1)))))) (sRet (owS (oV (oC (.bl false))))) sNil)
def xX:Fn:=fnS 2 4 (sSeq (sAsg (oV (oIx (oN 0) (oN 1))) (gT 3 (gCn (gN 2) (gCn (gN 3) (gCn (gN 4) gNl)))))
    (sSeq (sIf (bOr (asB (o2 niD (oN 2) (oN 3))) (asB (o2 neD (oL lenD [(oN 3)]) (.v (svA lenSD [(oN 3)]))))) (sRet (owS (oV (oC (.bl false))))) sNil)
    (sSeq (sIf (asB (o2 isN (oN 4) (oC .non))) (sRet (owS (oV (o2 eqD (oL lenD [(oN 3)]) (oC (.int 1)))))) sNil)
    (sSeq (sIf (bNot (asB (oCh (c2 fun i j=>decide (i < j)) (c2 fun i j=>decide (i < j)) (oN 1) (oN 4) (oL lenD [(oN 0)])))) (sRet (owS (oV (oC (.bl false))))) sNil)
    (sSeq (sFor (iV (oV (oN 3))) (gN 5) B_law_hangs_1)
    (sRet (owS (oV (oC (.bl true))))))))))
def wP:SS:=(sIf (asB (o2 eqD (.v (fzS (compS 2 [(1,2)] [0] (iV (oV (oN 0))) (gN 0) (asB (o2 niD (oN 0) (oIx (oN 1) (oC (.int 1))))) (oV (oN 0))))) (.v (fzS (eLst []))))) (sRet (owS (oV (oC (.bl true))))) sNil)
def wJ:Fn:=fnS 2 1 (sSeq (sFor (iV (oV (oN 1))) (gN 2) wP)
    (sRet (owS (oV (oC (.bl false))))))
def B_law_1:SS:=(sIf (bNot (asB (.v (fzS (vQ xX [(.v (oV (oN 5))),(.v (oV (oN 6)))]))))) (sRet (owS (oV (oC (.bl false))))) sNil)
def B_law_2:SS:=(sIf (bNot (asB (.v (fzS (vQ wJ [(.v (oV (oN 7))),(.v (oV (oN 5)))]))))) (sRet (owS (oV (oC (.bl false))))) sNil)
def qYe:Fn:=fnS 1 7 (sSeq (sAsg (fzS (vQ j3 [(.v (fzS (eSlL (oN 0) none (some (oV (oC (.int 40)))))))])) (gT 3 (gCn (gN 1) (gCn (gN 2) (gCn (gN 3) gNl)))))
    (sSeq (sSet 4 (qJx 1 j5 [(.v (oV (oN 1))),(.v (fzS (eLst []))),(.v (oV (oAdd (oIx (oN 3) (o1 negD (oC (.int 1)))) (oC (.int 1)))))]))
    (sSeq (sSet 5 (vQ qZz [(.v (oV (oN 4)))]))
    (sSeq (sIf (bOr (bNot (asB (.v (fzS (vQ zE [(.v (oV (oN 5))),(.v (oV (oL lenD [(oN 3)])))]))))) (asB (o2 neD (oIx (oIx (oN 5) (o1 negD (oC (.int 1)))) (oC (.int 0))) (oIx (oN 3) (o1 negD (oC (.int 1))))))) (sRet (owS (oV (oC (.bl false))))) sNil)
    (sSeq (sIf (asB (o2 neD (.v (fzS (eF sortID [(.v (fzS (compS 1 [] [0] (iV (oV (oN 5))) (gN 0) bTrue (oV (oIx (oN 0) (oC (.int 0)))))))]))) (oN 3))) (sRet (owS (oV (oC (.bl false))))) sNil)
    (sSeq (sFor (iL rg1 [(oV (oL lenD [(oN 5)]))]) (gN 6) B_law_1)
    (sSeq (sFor (iV (oV (oN 2))) (gN 7) B_law_2)
    (sRet (owS (oV (o2 eqD (oFld [1] "steps" (oN 4)) (oN 1))))))))))))
end X65
namespace EG
open PySem L2 DX GE X65 PyProof.Rows
abbrev fI (n:Int):Slot:= .s false (.fz (.int n))
theorem ne_int (a b:Int):neD (.int a) (.int b)=some (.bl (decide (a≠b))):=by
 unfold neD eqB
 show some (D.bl (!Dt.beq (.int a) (.int b)))=_
 unfold Dt.beq
 by_cases h:a=b <;> simp [h]
theorem zQj {io:Bool} {g:O} {x1:Slot} {s o:Int}:asB (o2 neD (oN 3) (oN 2)) [.s io g,x1,fI s,fI o]= .ok (decide (o≠s),[.s io g,x1,fI s,fI o]):=by
 refine jO (d:= .bl (decide (o≠s))) (e:=[.s io g,x1,fI s,fI o]) ?_ rfl rfl
 exact vM (zT (h1:= .d (.int o)) (h2:= .d (.int s)) (by rfl) (by rfl) rfl rfl rfl (ne_int o s) rfl) rfl
theorem vWa {s:Int}:∀(os:List Int) (G:Gr),(nb (row s G os) s).length<=(nb G s).length + os.length:=fun os=>by
 induction os with
 | nil=>intro G;exact aG _
 | cons x os ih=>
   intro G
   have h:=ih (if x≠s then add G s x else G)
   have h2:(nb (if x≠s then add G s x else G) s).length<=(nb G s).length + 1:=by
    split
    ·by_cases k:s∈ks G
     ·unfold add
      rw [qJw k,if_pos rfl]
      unfold put
      split
      ·omega
      ·simp
     ·rw [wT (by rw [xO];exact k)];simp
    ·omega
   show(nb (row s (if x≠s then add G s x else G) os) s).length<=_
   rw [aK]
   omega
theorem row_loop {s:Int} {io:Bool} {x1:Slot}:∀(os:List Int) (G:Gr) (x3:Slot),s∈ks G->(ks G).Nodup->(nb G s).length + os.length<=lim->
  ∃y,forS (gN 3) v6 (os.map .int) [.s io (grO G),x1,fI s,x3]= .ok (.nx [.s io (grO (row s G os)),x1,fI s,y])
 | [],G,x3,_,_,_=>⟨x3,rfl⟩
 | o::os,G,x3,hs,nd,few=>by
   rw [aK] at few
   have st:v6 [.s io (grO G),x1,fI s,fI o]= .ok (.nx [.s io (grO (if o≠s then add G s o else G)),x1,fI s,fI o]):=by
    refine xV zQj ?_
    by_cases h:o≠s
    ·rw [decide_eq_true h,if_pos h]
     exact putG hs nd (by omega)
    ·rw [decide_eq_false h,if_neg h];rfl
   have k1:ks (if o≠s then add G s o else G)=ks G:=by split;exact xO ..;rfl
   have h2:(nb (if o≠s then add G s o else G) s).length<=(nb G s).length + 1:=vWa [o] G
   obtain⟨y,hy⟩:=row_loop (x1:=x1) (io:=io) os (if o≠s then add G s o else G) (fI o) (by rw [k1];exact hs) (by rw [k1];exact nd) (by omega)
   refine⟨y,?_⟩
   show(v6 [.s io (grO G),x1,fI s,fI o]).bind _=_
   rw [st]
   exact hy
theorem vJ9 {s a:Int} (h:a≠s):∀(os:List Int) (G:Gr),nb (row s G os) a=nb G a/\ks (row s G os)=ks G:=fun os=>by
 induction os with
 | nil=>intro G;exact⟨rfl,rfl⟩
 | cons x os ih=>
   intro G
   obtain⟨h1,h2⟩:=ih (if x≠s then add G s x else G)
   refine⟨h1.trans ?_,h2.trans (by split;exact xO ..;rfl)⟩
   split
   ·by_cases k:a∈ks G
    ·unfold add
     rw [qJw k,if_neg h]
    ·rw [wT (by rw [xO];exact k),wT k]
   ·rfl
theorem row_ks (s:Int) (os:List Int) (G:Gr):ks (row s G os)=ks G:=(vJ9 (a:=s + 1) (by omega) os G).2
theorem zZx (s a:Int) (os:List Int) (G:Gr):(nb (row s G os) a).length<=(nb G a).length + os.length:=by
 by_cases h:a=s
 ·rw [h];exact vWa os G
 ·rw [(vJ9 h os G).1];omega
theorem mk_loop {io:Bool} {ys:List Int}:∀(xs:List Int) (G:Gr) (x2 x3:Slot),(∀s∈xs,s∈ks G)->(ks G).Nodup->(∀a,(nb G a).length + xs.length * ys.length<=lim)->
  ∃y z,forS (gN 2) vB (xs.map .int) [.s io (grO G), .s false (.fz (.nd .lst (ys.map .int))),x2,x3]= .ok (.nx [.s io (grO (xs.foldl (fun G s=>row s G ys) G)), .s false (.fz (.nd .lst (ys.map .int))),y,z])
 | [],G,x2,x3,_,_,_=>⟨x2,x3,rfl⟩
 | s::xs,G,x2,x3,hs,nd,few=>by
   have few' :∀a,(nb G a).length + (xs.length * ys.length + ys.length)<=lim:=fun a=>by
    have:=few a
    rw [aK,Nat.succ_mul] at this
    exact this
   obtain⟨y,hy⟩:=row_loop (x1:= .s false (.fz (.nd .lst (ys.map .int)))) (io:=io) ys G x3 (hs s (aI ..)) nd (by have:=few' s;omega)
   obtain⟨y2,z2,h2⟩:=mk_loop (io:=io) (ys:=ys) xs (row s G ys) (fI s) y (fun a ha=>by rw [row_ks];exact hs a (aE _ ha)) (by rw [row_ks];exact nd) (fun a=>by have:=few' a;have:=zZx s a ys G;omega)
   refine⟨y2,z2,?_⟩
   have st:vB [.s io (grO G), .s false (.fz (.nd .lst (ys.map .int))),fI s,x3]= .ok (.nx [.s io (grO (row s G ys)), .s false (.fz (.nd .lst (ys.map .int))),fI s,y]):=jK (wX (by rfl) rfl rfl) hy
   show(vB [.s io (grO G), .s false (.fz (.nd .lst (ys.map .int))),fI s,x3]).bind _=_
   rw [st]
   exact h2
theorem vWm {G:Gr} {xs:List Int} (hs:∀s∈xs,s∈ks G) (nd:(ks G).Nodup) (few:∀a,(nb G a).length + xs.length * xs.length<=lim):
  zU [.s true (grO G), .s false (.fz (.nd .lst (xs.map .int)))]= .ok (.fz .non,[.s true (grO (mk G xs)), .un]):=by
 obtain⟨y,z,h⟩:=mk_loop (io:=true) (ys:=xs) xs G .un .un hs nd few
 have lp:sFor (iV (oV (oN 1))) (gN 2) vB [.s true (grO G), .s false (.fz (.nd .lst (xs.map .int))), .un, .un]= .ok (.nx [.s true (grO (mk G xs)), .s false (.fz (.nd .lst (xs.map .int))),y,z]):=jK (wX (by rfl) rfl rfl) h
 exact zS lp rfl
def ngD (l:List Int):D:= .nd (.dct (l.map Sum.inl)) (l.map fun _=> .bl true)
def grD (G:Gr):D:= .nd (.dct (kG G)) (G.map fun p=>ngD p.2)
theorem vYl (l:List Int):fzOs (l.map fun _=>O.fz (.bl true))=l.map fun _=>D.bl true:=by
 induction l with
 | nil=>rfl
 | cons x l ih=>show D.bl true::fzOs (l.map fun _=>O.fz (.bl true))=_;rw [ih];rfl
theorem zZe (l:List Int):fzO (ngO l)=ngD l:=by
 show D.nd (.dct (l.map Sum.inl)) (fzOs (l.map fun _=>O.fz (.bl true)))=_
 rw [vYl];rfl
theorem zYb (G:Gr):fzO (grO G)=grD G:=by
 show D.nd (.dct (kG G)) (fzOs (G.map fun p=>ngO p.2))=_
 have:∀G:Gr,fzOs (G.map fun p=>ngO p.2)=G.map fun p=>ngD p.2:=fun G=>by
  induction G with
  | nil=>rfl
  | cons p G ih=>show fzO (ngO p.2)::fzOs (G.map fun p=>ngO p.2)=_;rw [ih,zZe];rfl
 rw [this];rfl
theorem wE {α β:Type} {x:α} {f:α->Res β}:(Res.ok x).bind f=f x:=rfl
theorem qYy (g:Int->Int):∀(l:List Int) (b:Option Int),(∃n∈l,l.foldl (bst g) b=some n)\/(l.foldl (bst g) b=b/\(l=[]\/b≠none))
 | [],b=> .inr ⟨rfl, .inl rfl⟩
 | n::l,b=>by
   show(∃m∈n::l,l.foldl (bst g) (bst g b n)=some m)\/(l.foldl (bst g) (bst g b n)=b/\_)
   rcases qYy g l (bst g b n) with⟨m,h1,h2⟩ | ⟨h1,h2⟩
   ·exact .inl ⟨m,aE _ h1,h2⟩
   ·rw [h1]
    unfold bst
    cases b with
    | none=>exact .inl ⟨n,aI ..,rfl⟩
    | some m=>
      dsimp only
      split
      ·exact .inl ⟨n,aI ..,rfl⟩
      ·exact .inr ⟨rfl, .inr (by simp)⟩
def nx (G:Gr) (last:Int):Int:=vQh (kG G) (G.map fun p=>ngD p.2) last
theorem nx_mem {G:Gr} {last:Int}:nx G last∈ks G/\nx G last≠last\/(nx G last=last/\∀k∈ks G,k=last):=by
 have ek:(kG G).map keyI=ks G:=by unfold kG ks;rw [bH];rfl
 unfold nx vQh
 rw [ek]
 have key:∀n,n∈(ks G).filter (fun k=>decide (k≠last))↔n∈ks G/\n≠last:=fun n=>by rw [cL];simp
 rcases qYy (lenI (kG G) (G.map fun p=>ngD p.2)) ((ks G).filter fun k=>decide (k≠last)) none with⟨n,h1,h2⟩ | ⟨h1,h2⟩
 ·rw [h2];exact .inl ((key n).mp h1)
 ·rw [h1]
  refine .inr ⟨rfl,fun k hk=>dM fun z=>?_⟩
  rcases h2 with h2 | h2
  ·have:=(key k).mpr ⟨hk,z⟩
   rw [h2] at this
   exact absurd this aN
  ·exact h2 rfl
theorem zXw {G:Gr} {last:Int} (few:G.length < 4000):qQ2 [.s false (.fz (grD G)),fI last]= .ok (.fz (.int (nx G last)),[.un, .un]):=by
 show cond ((kG G).all isIn && ((G.map fun p=>ngD p.2).all isDc && decide ((kG G).length < 4000))) _ _=_
 have h1:(kG G).all isIn=true:=by rw [List.all_eq_true];intro k hk;obtain⟨p,_,rfl⟩:=bG.mp hk;rfl
 have h2:(G.map fun p=>ngD p.2).all isDc=true:=by rw [List.all_eq_true];intro k hk;obtain⟨p,_,rfl⟩:=bG.mp hk;rfl
 rw [h1,h2,decide_eq_true (by unfold kG;rw [aY];exact few)];rfl
theorem yF:∀ {l m:List Int},l.Nodup->(∀a∈l,a∈m)->l.length<=m.length
 | [],m,_,_=>cH _
 | x::l,m,h,s=>by
   obtain⟨h1,h2⟩:=bO.mp h
   have:=yF (m:=m.erase x) h2 fun a ha=>(List.mem_erase_of_ne (fun z:a=x=>h1 (z▸ha))).mpr (s a (aE _ ha))
   rw [List.length_erase_of_mem (s x (aI ..))] at this
   have:=List.length_pos_of_mem (s x (aI ..))
   rw [aK]
   omega
theorem zZg {s:Int}:∀ {l:List Int} {j:Nat},kidx (Sum.inl s:Key) (l.map Sum.inl)=some j->l.erase s=l.eraseIdx j/\j < l.length
 | x::l,j,h=>by
   rw [aC] at h
   unfold kidx at h
   by_cases e:x=s
   ·rw [if_pos (by rw [e])] at h
    cases h
    rw [e,List.erase_cons_head]
    exact⟨rfl,by simp⟩
   ·rw [if_neg (fun z=>e (Sum.inl.inj z))] at h
    obtain⟨i,h1,rfl⟩:=bY.mp h
    obtain⟨h2,h3⟩:=zZg h1
    rw [List.erase_cons_tail (by simpa using e),h2]
    exact⟨rfl,by simpa using h3⟩
theorem vW4 {s:Int}:∀ {G:Gr} {j:Nat},kidx (Sum.inl s:Key) (kG G)=some j->(ks G).Nodup->but G s=G.eraseIdx j
 | (k,v)::G,j,h,nd=>by
   have h:(if(Sum.inl k:Key)=Sum.inl s then some 0 else(kidx (Sum.inl s) (kG G)).map (· + 1))=some j:=h
   obtain⟨n1,n2⟩:=bO.mp nd
   unfold but
   rw [dY]
   by_cases e:k=s
   ·rw [if_pos (by rw [e])] at h
    cases h
    rw [if_neg (by simp [e])]
    refine List.filter_eq_self.mpr fun p hp=>?_
    have:p.1∈ks G:=bG.mpr ⟨p,hp,rfl⟩
    simpa using fun z:p.1=s=>n1 (by rw [show k=p.1 by rw [z,e]];exact this)
   ·rw [if_neg (fun z=>e (Sum.inl.inj z))] at h
    obtain⟨i,h1,rfl⟩:=bY.mp h
    have:=vW4 h1 n2
    unfold but at this
    rw [if_pos (by simpa using e),this];rfl
theorem xE {α β:Type} (f:α->β):∀(l:List α) (j:Nat),(l.map f).eraseIdx j=(l.eraseIdx j).map f
 | [],_=>rfl
 | _::l,0=>rfl
 | x::l,j + 1=>by rw [aC,List.eraseIdx_cons_succ,List.eraseIdx_cons_succ,aC,xE f l j]
theorem popG {G:Gr} {s:Int} {e0 x2 x4 x5:Slot} {io:Bool} (hs:s∈ks G) (nd:(ks G).Nodup):
  qV0 (pOf (oN 1)) (pOf (oN 3)) [e0, .s io (grO G),x2,fI s,x4,x5]= .ok (ngO (nb G s),[e0, .s io (grO (but G s)),x2,fI s,x4,x5]):=by
 obtain⟨j,h1,h2,_⟩:=vQj hs
 have g2:(G.map fun p=>ngO p.2)[j]?=some (ngO (nb G s)):=by rw [bP,h2];rfl
 have k:qV0 (pOf (oN 1)) (pOf (oN 3)) [e0, .s io (grO G),x2,fI s,x4,x5]= .ok (ngO (nb G s),[e0, .s io (grO (but G s)),x2,fI s,x4,x5]):=by
  have b:=vW4 h1 nd
  show(opt (kidx (Sum.inl s:Key) (kG G))).bind _=_
  rw [h1,show opt (some j)= .ok j from rfl,wE]
  show(opt ((G.map fun p=>ngO p.2)[j]?)).bind _=_
  rw [g2,show opt (some (ngO (nb G s)))= .ok (ngO (nb G s)) from rfl,wE]
  show Res.ok (ngO (nb G s),[e0, .s io (.ow (.dct ((kG G).eraseIdx j)) ((G.map fun p=>ngO p.2).eraseIdx j)),x2,fI s,x4,x5])=_
  unfold grO
  rw [b,xE]
  unfold kG
  rw [xE]
 exact k
theorem zXl {G:Gr} {s o:Int} {e0 x2 x4:Slot} {io:Bool} (ho:o∈ks G) (nd:(ks G).Nodup) (hs:s∈nb G o):
  qV0 (pOf (oIx (oN 1) (oN 5))) (pOf (oN 3)) [e0, .s io (grO G),x2,fI s,x4,fI o]= .ok (.fz (.bl true),[e0, .s io (grO (up G fun k v=>if k=o then v.erase s else v)),x2,fI s,x4,fI o]):=by
 obtain⟨j,h1,h2,h3⟩:=vQj ho
 obtain⟨i,h4⟩:=kidx_in hs
 obtain⟨h5,h6⟩:=zZg h4
 have g2:(G.map fun p=>ngO p.2)[j]?=some (ngO (nb G o)):=by rw [bP,h2];rfl
 have gp:getP (grO G) [j]=some (ngO (nb G o)):=by
  unfold grO getP
  rw [g2];rfl
 have sp:pOf (oIx (oN 1) (oN 5)) [e0, .s io (grO G),x2,fI s,x4,fI o]=some (.p 1 [j]):=by
  show(kidx (Sum.inl o:Key) (kG G)).bind _=_
  rw [h1]
  show((G.map fun p=>ngO p.2)[j]?).bind _=_
  rw [g2];rfl
 have dc:qQr [e0, .s io (grO G),x2,fI s,x4,fI o] 1 [j]=some ((nb G o).map Sum.inl,(nb G o).map fun _=> .fz (.bl true)):=by
  unfold qQr
  show(match getP (grO G) [j] with | some (.ow (.dct ks) os)=>some (ks,os) | _=>none)=_
  rw [gp];rfl
 have b:((nb G o).map fun _=>O.fz (.bl true))[i]?=some (.fz (.bl true)):=by rw [bP,aF h6];rfl
 have se:setP (grO G) [j] (.ow (.dct (((nb G o).map Sum.inl).eraseIdx i)) (((nb G o).map fun _=>O.fz (.bl true)).eraseIdx i))=grO (up G fun k v=>if k=o then v.erase s else v):=by
  rw [xE,xE,←h5,h3 nd fun v=>v.erase s]
  unfold grO setP
  rw [g2]
  dsimp only
  unfold setP
  have k:kG (G.set j (o,(nb G o).erase s))=kG G:=by
   have e:=congrArg kG (h3 nd fun v=>v.erase s)
   rw [←e]
   have:=qJy G fun k v=>if k=o then v.erase s else v
   unfold ks at this
   unfold kG
   rw [show(fun p:Int×List Int=>(Sum.inl p.1:Key))=Sum.inl ∘ (·.1) from rfl,←bH,this,bH]
  rw [k,List.map_set];rfl
 unfold qV0
 rw [sp]
 show(opt (qQr _ 1 [j])).bind _=_
 rw [dc,show opt (some ((nb G o).map (Sum.inl:Int->Key),(nb G o).map fun _=>O.fz (.bl true)))= .ok _ from rfl,wE]
 show(opt (kidx (Sum.inl s:Key) ((nb G o).map Sum.inl))).bind _=_
 rw [h4,show opt (some i)= .ok i from rfl,wE]
 show(opt (((nb G o).map fun _=>O.fz (.bl true))[i]?)).bind _=_
 rw [b,show opt (some (O.fz (.bl true)))= .ok (O.fz (.bl true)) from rfl,wE]
 show Res.ok (O.fz (.bl true),[e0, .s io (setP (grO G) [j] _),x2,fI s,x4,fI o])=_
 rw [se]
abbrev lI (l:List Int):D:= .nd .lst (l.map .int)
theorem qZm (l:List Int):fzO (.ow .lst ((l.map D.int).map .fz))=lI l:=jX _
def oneD (ss:List D) (a b:D):D:= .nd (.obj 1 ["steps","draws","slots"]) [.nd .lst ss,a,b]
theorem del_loop {s:Int} {e0 x2 x4:Slot} {io:Bool}:∀(os:List Int) (G:Gr) (x5:Slot),os.Nodup->(∀o∈os,o∈ks G/\s∈nb G o)->(ks G).Nodup->
  ∃y,forS (gN 5) xU (os.map .int) [e0, .s io (grO G),x2,fI s,x4,x5]= .ok (.nx [e0, .s io (grO (del G os s)),x2,fI s,x4,y])
 | [],G,x5,_,_,_=>⟨x5,rfl⟩
 | o::os,G,x5,nd,h,kn=>by
   obtain⟨n1,n2⟩:=bO.mp nd
   obtain⟨h1,h2⟩:=h o (aI ..)
   have st:xU [e0, .s io (grO G),x2,fI s,x4,fI o]= .ok (.nx [e0, .s io (grO (up G fun k v=>if k=o then v.erase s else v)),x2,fI s,x4,fI o]):=xR (zXl h1 kn h2) rfl
   obtain⟨y,hy⟩:=del_loop (e0:=e0) (x2:=x2) (x4:=x4) (io:=io) os (up G fun k v=>if k=o then v.erase s else v) (fI o) n2 (fun a ha=>by
    obtain⟨a1,a2⟩:=h a (aE _ ha)
    rw [qJy,qJw a1,if_neg (fun z:a=o=>n1 (z▸ha))]
    exact⟨a1,a2⟩) (by rw [qJy];exact kn)
   exact⟨y,jD rfl st hy⟩
theorem neg1 (init:List D) (x:D):ixD (.nd .lst (init ++ [x])) (.int (-1))=some x:=by
 show(ixN (init ++ [x]).length (-1)).bind (fun j=>(init ++ [x])[j]?)=_
 have:ixN (init ++ [x]).length (-1)=some init.length:=by
  unfold ixN
  simp
  omega
 rw [this]
 simp
theorem out_step {G:Gr} {last:Int} {init:List D} {t a b:D} {F:List O} {x3 x4 x5:Slot} (g:Gd G) (hl:last∈ks G) (few:G.length < 100) (fw:F.length < 1000):
  ∃y,wW [.s false (.fz (oneD (init ++ [.tup [.int last,t]]) a b)), .s false (grO G), .s false (.ow .lst F),x3,x4,x5]=
   .ok (.nx [.s false (.fz (oneD (init ++ [.tup [.int last,t]]) a b)), .s false (grO (out G (nx G last))), .s false (.ow .lst (F ++ [.fz (.tup [.int (nx G last),lI (nb G (nx G last))])])),fI (nx G last), .s false (.fz (lI (nb G (nx G last)))),y]):=by
 have hn:nx G last∈ks G:=by rcases nx_mem (G:=G) (last:=last) with h | h;exact h.1;rw [h.1];exact hl
 have e1:=zXw (G:=G) (last:=last) (by omega)
 generalize nx G last=s at *
 generalize hone:Slot.s false (.fz (oneD (init ++ [.tup [.int last,t]]) a b))=one
 have la:oV (oIx (oIx (oFld [1] "steps" (oN 0)) (o1 negD (oC (.int 1)))) (oC (.int 0))) [one, .s false (grO G), .s false (.ow .lst F),x3,x4,x5]= .ok (.int last,[one, .s false (grO G), .s false (.ow .lst F),x3,x4,x5]):=by
  subst hone
  refine vM (h1:= .d (.int last)) (v5 (h1:= .d (.tup [.int last,t])) (h2:= .d (.int 0)) (y:= .int 0) (v5 (h1:= .d (.nd .lst (init ++ [.tup [.int last,t]]))) (h2:= .d (.int (-1))) (y:= .int (-1)) (by rfl) (by rfl) rfl rfl ?_ rfl) (by rfl) rfl rfl rfl rfl) rfl
  show(ixD _ _).map Hn.d=_
  rw [neg1];rfl
 have nd0:∀a,(nb (but G s) a).Nodup:=fun a=>by
  by_cases e:a=s
  ·rw [wT (by rw [xN,e];simp)];exact dW
  ·rw [qZt e];exact g.nn a
 obtain⟨d1,d2,d3⟩:=qKn s (nb G s) (but G s) nd0
 have kb:∀a∈nb G s,a∈ks (but G s)/\a≠s:=fun a ha=>by
  have na:a≠s:=fun z=>g.no s (z▸ha)
  exact⟨by rw [xN];exact cL.mpr ⟨(g.key ha).1,by simpa using na⟩,na⟩
 have knb:(ks (but G s)).Nodup:=by rw [xN];exact g.kn.filter _
 obtain⟨y,hy⟩:=del_loop (e0:=one) (x2:= .s false (.ow .lst F)) (x4:= .s false (.fz (lI (nb G s)))) (io:=false) (nb G s) (but G s) x5 (g.nn s) (fun o ho=>⟨(kb o ho).1,by rw [qZt (kb o ho).2];exact g.sy s o ho⟩) knb
 have lk:(ks G).length=G.length:=by unfold ks;rw [aY]
 have ln:∀a,(nb (del (but G s) (nb G s) s) a).length<=G.length:=fun a=>by
  rw [←lk]
  refine yF (d2 a) fun b hb=>?_
  have hb:=((d3 a b).mp hb).1
  by_cases e:a=s
  ·rw [wT (by rw [xN,e];simp)] at hb;exact absurd hb aN
  ·rw [qZt e] at hb;exact(g.key hb).1
 have ls:(nb G s).length<=G.length:=by rw [←lk];exact yF (g.nn s) fun b hb=>(g.key hb).1
 have mk4:=vWm (G:=del (but G s) (nb G s) s) (xs:=nb G s) (fun x hx=>by rw [d1];exact(kb x hx).1) (by rw [d1];exact knb) (fun a=>by
  have:=ln a
  have:(nb G s).length * (nb G s).length<=100 * 100:=Nat.mul_le_mul (by omega) (by omega)
  show _<=1000000
  omega)
 refine⟨y,?_⟩
 refine qM (o:= .fz (.int s)) (e:=[one, .s false (grO G), .s false (.ow .lst F),x3,x4,x5]) (vG (hs:=[.p 1 [], .d (.int last)]) (e:=[one, .s false (grO G), .s false (.ow .lst F),x3,x4,x5]) (zYc (h1:= .p 1 []) rfl rfl (qWx la rfl rfl) rfl) (vU (t0:=([grO G],[one, .un, .s false (.ow .lst F),x3,x4,x5])) (t:=([],[one, .un, .s false (.ow .lst F),x3,x4,x5])) (args:=[.s false (.fz (grD G)),fI last]) (q:=(.fz (.int s),[.un, .un])) (os:=[]) rfl rfl ?_ e1 rfl rfl rfl)) ?_
 ·show some [.s false (.fz (fzO (grO G))),fI last]=_
  rw [zYb]
 refine qM (o:= .ow .lst (((nb G s).map .int).map .fz)) (e:=[one, .s false (grO (but G s)), .s false (.ow .lst F),fI s,x4,x5]) (vQo (hs:=[.d (ngD (nb G s))]) (xs:=[ngD (nb G s)]) (ds:=(nb G s).map .int) (zY (jC (d:=ngD (nb G s)) (jL (popG hn g.kn) (by rw [zZe])) rfl) rfl rfl rfl) rfl ?_ rfl) ?_
 ·show some (((nb G s).map Sum.inl).map kD)=_
  rw [bH];rfl
 refine vH (e:=[one, .s false (grO (del (but G s) (nb G s) s)), .s false (.ow .lst F),fI s, .s false (.fz (lI (nb G s))),y]) (jK (ds:=(nb G s).map .int) (e:=[one, .s false (grO (but G s)), .s false (.ow .lst F),fI s, .s false (.fz (lI (nb G s))),x5]) (wX (d:=lI (nb G s)) (e:=[one, .s false (grO (but G s)), .s false (.ow .lst F),fI s, .s false (.fz (lI (nb G s))),x5]) ?_ rfl rfl) hy) ?_
 ·show Res.ok (fzO (.ow .lst (((nb G s).map .int).map .fz)),[one, .s false (grO (but G s)), .s false (.ow .lst F),fI s, .s false (.fz (fzO (.ow .lst (((nb G s).map .int).map .fz)))),x5])=_
  rw [qZm]
 refine yN (o:= .fz .non) (e:=[one, .s false (grO (out G s)), .s false (.ow .lst F),fI s, .s false (.fz (lI (nb G s))),y]) (vG (hs:=[.p 1 [], .d (lI (nb G s))]) (e:=[one, .s false (grO (del (but G s) (nb G s) s)), .s false (.ow .lst F),fI s, .s false (.fz (lI (nb G s))),y]) rfl (vU (t0:=([],[one, .s false (grO (del (but G s) (nb G s) s)), .s false (.ow .lst F),fI s, .s false (.fz (lI (nb G s))),y])) (t:=([grO (del (but G s) (nb G s) s)],[one, .un, .s false (.ow .lst F),fI s, .s false (.fz (lI (nb G s))),y])) (args:=[.s true (grO (del (but G s) (nb G s) s)), .s false (.fz (lI (nb G s)))]) (q:=(.fz .non,[.s true (grO (mk (del (but G s) (nb G s) s) (nb G s))), .un])) (os:=[grO (out G s)]) rfl rfl rfl mk4 rfl rfl rfl)) ?_
 refine xR (o:= .fz .non) (e:=[one, .s false (grO (out G s)), .s false (.ow .lst (F ++ [.fz (.tup [.int s,lI (nb G s)])])),fI s, .s false (.fz (lI (nb G s))),y]) (xL (i:=2) (π:=[]) (x:= .fz (.tup [.int s,lI (nb G s)])) (e:=[one, .s false (grO (out G s)), .s false (.ow .lst F),fI s, .s false (.fz (lI (nb G s))),y]) (os:=F) (os0:=F) (z:=(.fz .non,F ++ [.fz (.tup [.int s,lI (nb G s)])])) rfl rfl rfl rfl rfl ?_ rfl) rfl
 unfold apF
 rw [decide_eq_true (show F.length<=1000000 by omega)];rfl
def rowO (p:Int×List Int):O:= .fz (.tup [.int p.1,lI p.2])
theorem taken_loop {last:Int} {init:List D} {t a b:D}:∀(n fuel:Nat) (G:Gr) (F:List O) (x3 x4 x5:Slot),G.length<=n->n < fuel->n < 100->F.length + n < 1000->Gd G->(G≠ []->last∈ks G)->
  ∃r y3 y4 y5,Run G r/\(G≠ []->∃pre os,r=pre ++ [(last,os)])/\wH (asB (oGt (oL lenD [(oN 1)]) (oC (.int 0)))) wW fuel [.s false (.fz (oneD (init ++ [.tup [.int last,t]]) a b)), .s false (grO G), .s false (.ow .lst F),x3,x4,x5]=
   .ok (.nx [.s false (.fz (oneD (init ++ [.tup [.int last,t]]) a b)), .s false (grO []), .s false (.ow .lst (F ++ r.map rowO)),y3,y4,y5])
 | n,0,G,F,x3,x4,x5,_,h,_,_,_,_=>by omega
 | n,fuel + 1,[],F,x3,x4,x5,_,_,_,_,_,_=>⟨[],x3,x4,x5, .nil rfl,fun h=>absurd rfl h,by rw [List.map_nil,bR];rfl⟩
 | 0,fuel + 1,p::G,F,x3,x4,x5,h,_,_,_,_,_=>by simp at h
 | n + 1,fuel + 1,p::G,F,x3,x4,x5,h,hf,h1,h2,g,hl=>by
   have hl:=hl (by simp)
   generalize hG:p::G=G' at *
   have few:G'.length<=n + 1:=h
   obtain⟨y,st⟩:=out_step (G:=G') (init:=init) (t:=t) (a:=a) (b:=b) (F:=F) (x3:=x3) (x4:=x4) (x5:=x5) g hl (by omega) (by omega)
   have hn:nx G' last∈ks G' :=by rcases nx_mem (G:=G') (last:=last) with h | h;exact h.1;rw [h.1];exact hl
   have hm:=nx_mem (G:=G') (last:=last)
   generalize nx G' last=s at *
   obtain⟨g',k',_⟩:=qVl g s
   have len:∀L:Gr,(ks L).length=L.length:=fun L=>by unfold ks;rw [aY]
   have lt:(out G' s).length < G'.length:=by
    rw [←len,←len,k',←g.kn.erase_eq_filter,List.length_erase_of_mem hn]
    have:=List.length_pos_of_mem hn
    omega
   have hl' :s≠last->last∈ks (out G' s):=fun z=>by rw [k'];exact cL.mpr ⟨hl,by simpa using Ne.symm z⟩
   have hs:s=last->ks (out G' s)=[]:=fun z=>by
    rw [k',List.filter_eq_nil_iff]
    intro q hq
    rcases hm with hm | hm
    ·exact absurd z hm.2
    ·simp [hm.2 q hq,z]
   have ne:out G' s≠ []->last∈ks (out G' s):=fun z=>hl' fun y=>z (by
    have:=hs y
    rw [←List.length_eq_zero_iff,len,List.length_eq_zero_iff] at this
    exact this)
   obtain⟨r,y3,y4,y5,r1,r2,r3⟩:=taken_loop (t:=t) (init:=init) (a:=a) (b:=b) n fuel (out G' s) (F ++ [.fz (.tup [.int s,lI (nb G' s)])]) (fI s) (.s false (.fz (lI (nb G' s)))) y (by omega) (by omega) (by omega) (by rw [aP];simp;omega) g' ne
   refine⟨(s,nb G' s)::r,y3,y4,y5, .cons hn r1,fun _=>?_,?_⟩
   ·by_cases e:out G' s=[]
    ·have er:r=[]:=by
      cases r1 with
      | nil _=>rfl
      | cons h _=>rw [e] at h;exact absurd h aN
     have es:s=last:=dM fun z=>by
      have:=hl' z
      rw [e] at this
      exact absurd this aN
     exact⟨[],nb G' s,by rw [er,es];rfl⟩
    ·obtain⟨pre,os,er⟩:=r2 e
     exact⟨(s,nb G' s)::pre,os,by rw [er];rfl⟩
   ·have tst:asB (oGt (oL lenD [(oN 1)]) (oC (.int 0))) [.s false (.fz (oneD (init ++ [.tup [.int last,t]]) a b)), .s false (grO G'), .s false (.ow .lst F),x3,x4,x5]= .ok (true,[.s false (.fz (oneD (init ++ [.tup [.int last,t]]) a b)), .s false (grO G'), .s false (.ow .lst F),x3,x4,x5]):=by
     subst hG
     have e0:asB (oGt (oL lenD [(oN 1)]) (oC (.int 0))) [.s false (.fz (oneD (init ++ [.tup [.int last,t]]) a b)), .s false (grO (p::G)), .s false (.ow .lst F),x3,x4,x5]= .ok (decide ((0:Int) < (((kG (p::G)).length:Nat):Int)),[.s false (.fz (oneD (init ++ [.tup [.int last,t]]) a b)), .s false (grO (p::G)), .s false (.ow .lst F),x3,x4,x5]):=rfl
     rw [e0,decide_eq_true (by simp [kG])]
    show(asB _ _).bind _=_
    rw [tst]
    show(wW _).bind _=_
    rw [st]
    show wH _ _ fuel _=_
    rw [r3,cA];rfl
theorem vXb {last:Int} {init:List D} {t a b:D} {G:Gr} (few:G.length < 100) (g:Gd G) (hl:last∈ks G) (hn:j0 [.s false (.fz (oneD (init ++ [.tup [.int last,t]]) a b))]= .ok (grO G,[.un])):
  ∃r,Run G r/\(∃pre os,r=pre ++ [(last,os)])/\xW [.s false (.fz (oneD (init ++ [.tup [.int last,t]]) a b))]= .ok (.ow .lst (r.map rowO),[.un]):=by
 have ne:G≠ []:=fun z=>by rw [z] at hl;exact absurd hl aN
 generalize ho:oneD (init ++ [.tup [.int last,t]]) a b=one at *
 obtain⟨r,y3,y4,y5,h1,h2,h3⟩:=taken_loop (last:=last) (init:=init) (t:=t) (a:=a) (b:=b) G.length 100000 G [] .un .un .un (aG _) (by omega) few (by simp;omega) g fun _=>hl
 rw [ho] at h3
 refine⟨r,h1,h2 ne,zS (o:= .rt (.ow .lst (r.map rowO)) [.s false (.fz one), .s false (grO []), .un,y3,y4,y5]) ?_ rfl⟩
 refine qM (o:=grO G) (e:=[.s false (.fz one), .un, .un, .un, .un, .un]) (vG (hs:=[.d one]) (e:=[.s false (.fz one), .un, .un, .un, .un, .un]) rfl (vU (t0:=([],[.s false (.fz one), .un, .un, .un, .un, .un])) (t:=([],[.s false (.fz one), .un, .un, .un, .un, .un])) (args:=[.s false (.fz one)]) (q:=(grO G,[.un])) (os:=[]) rfl rfl rfl hn rfl rfl rfl)) ?_
 refine qM (o:= .ow .lst []) (e:=[.s false (.fz one), .s false (grO G), .un, .un, .un, .un]) rfl ?_
 exact vH h3 rfl
def wo (o:Int) (L:List Int):List Int:=if o= -1 then L else L ++ [o]
def grow (G:Gr) (o:Int):Gr:=if o= -1 then G else G ++ [(o,[])]
def jQ (G:Gr) (p:Int×List Int):Gr:=mk (grow G p.1) (wo p.1 p.2)
def Wg:List Int->List (Int×List Int)->Prop
 | _,[]=>True
 | ks,p::r=>(∀x∈p.2,x∈ks)/\(p.1= -1/\Wg ks r\/p.1≠ -1/\p.1∉ks/\Wg (ks ++ [p.1]) r)
def owns (r:List (Int×List Int)):List Int:=(r.map (·.1)).filter (·!= -1)
theorem qXb {G:Gr} {o:Int} (g:Gd G) (h:o= -1\/o∉ks G):Gd (grow G o)/\ks (grow G o)=ks G ++ (if o= -1 then [] else [o])/\∀a,nb (grow G o) a=nb G a:=by
 unfold grow
 by_cases e:o= -1
 ·rw [if_pos e,if_pos e,bR];exact⟨g,rfl,fun _=>rfl⟩
 ·rw [if_neg e,if_neg e]
  have h:=h.resolve_left e
  have n:∀a,nb (G ++ [(o,[])]) a=nb G a:=fun a=>by
   unfold nb
   rw [List.lookup_append]
   cases hk:G.lookup a with
   | some v=>rfl
   | none=>
     show((List.lookup a [(o,[])]).getD [])=_
     rw [bC]
     split <;> rfl
  have k:ks (G ++ [(o,[])])=ks G ++ [o]:=by unfold ks;rw [bK];rfl
  refine⟨⟨?_,fun a=>by rw [n];exact g.nn a,fun a b z=>by rw [n] at z⊢;exact g.sy a b z,fun a=>by rw [n];exact g.no a⟩,k,n⟩
  rw [k,cF]
  exact⟨g.kn,cN _ _,fun a ha b hb z=>h (by rw [←aS.mp hb,←z];exact ha)⟩
theorem zX1 {G:Gr} {xs:List Int} (g:Gd G) (h:∀x∈xs,x∈ks G):Gd (mk G xs):=by
 obtain⟨m1,m2,m3⟩:=vJq G xs g.nn
 refine⟨by rw [m1];exact g.kn,m2,fun a b z=>?_,fun a z=>?_⟩
 ·rcases(m3 a b).mp z with z | ⟨z1,z2,z3,z4⟩
  ·exact(m3 b a).mpr (.inl (g.sy a b z))
  ·exact(m3 b a).mpr (.inr ⟨z2,z1,Ne.symm z3,h b z2⟩)
 ·rcases(m3 a a).mp z with z | z
  ·exact g.no a z
  ·exact z.2.2.1 rfl
theorem vJy {G:Gr} {o:Int} {L:List Int} (g:Gd G) (h:o= -1\/o∉ks G) (hL:∀x∈L,x∈ks G):∀x∈wo o L,x∈ks (grow G o):=fun x hx=>by
 rw [(qXb g h).2.1]
 unfold wo at hx
 split at hx
 ·exact dU _ (hL x hx)
 ·rename_i e
  rw [if_neg e]
  rcases bL.mp hx with z | z
  ·exact dU _ (hL x z)
  ·exact bB _ z
theorem step_ok {G:Gr} {o:Int} {L:List Int} (g:Gd G) (h:o= -1\/o∉ks G) (hL:∀x∈L,x∈ks G):Gd (jQ G (o,L))/\ks (jQ G (o,L))=ks G ++ (if o= -1 then [] else [o])/\(∀a b,b∈nb G a->b∈nb (jQ G (o,L)) a)/\Clq (jQ G (o,L)) (wo o L):=by
 obtain⟨g1,k1,n1⟩:=qXb g h
 have s:=vJy g h hL
 obtain⟨m1,m2,m3⟩:=vJq (grow G o) (wo o L) g1.nn
 refine⟨zX1 g1 s,m1.trans k1,fun a b z=>(m3 a b).mpr (.inl (by rw [n1];exact z)),fun a ha=>⟨?_,fun b hb ne=>(m3 a b).mpr (.inr ⟨ha,hb,ne,s a ha⟩)⟩⟩
 show a∈ks (mk (grow G o) (wo o L))
 rw [m1];exact s a ha
theorem vWl:∀(r:List (Int×List Int)) (G:Gr),Gd G->Wg (ks G) r->Gd (r.foldl jQ G)/\ks (r.foldl jQ G)=ks G ++ owns r/\(∀a b,b∈nb G a->b∈nb (r.foldl jQ G) a)/\∀p∈r,Clq (r.foldl jQ G) (wo p.1 p.2)
 | [],G,g,_=>⟨g,by simp [owns],fun _ _ z=>z,fun p hp=>absurd hp aN⟩
 | (o,L)::r,G,g,⟨w1,w2⟩=>by
   have ho:o= -1\/o∉ks G:=w2.imp (fun z=>z.1) fun z=>z.2.1
   obtain⟨s1,s2,s3,s4⟩:=step_ok g ho w1
   have w' :Wg (ks (jQ G (o,L))) r:=by
    rw [s2]
    rcases w2 with⟨z,w⟩ | ⟨z,_,w⟩
    ·rw [if_pos z,bR];exact w
    ·rw [if_neg z];exact w
   obtain⟨h1,h2,h3,h4⟩:=vWl r (jQ G (o,L)) s1 w'
   refine⟨h1,?_,fun a b z=>h3 a b (s3 a b z),fun p hp=>?_⟩
   ·show ks (r.foldl jQ (jQ G (o,L)))=_
    rw [h2,s2,cA]
    congr 1
    unfold owns
    rw [aC,dY]
    by_cases e:o= -1
    ·simp [e]
    ·rw [if_neg e,if_pos (by simpa using e)];rfl
   ·rcases aB.mp hp with hp | hp
    ·subst hp
     exact fun a ha=>⟨by show a∈ks (r.foldl jQ (jQ G (o,L)));rw [h2];exact dU _ (s4 a ha).1,fun b hb ne=>h3 a b ((s4 a ha).2 b hb ne)⟩
    ·exact h4 p hp
def stp (o:Int) (t:D):D:= .tup [.int o,t]
theorem fzI {k:Kd} (ds:List D):fzO (.ow k (ds.map .fz))= .nd k ds:=jX ds
theorem vY1 (o:Int) (t:D) (L:List Int) (few:L.length < 1000):∃r,yZ [.s false (.fz (stp o t)), .s false (.fz (lI L))]= .ok (r,[.un, .un])/\fzO r=lI (wo o L):=by
 have tst:asB (o2 eqD (oIx (oN 0) (oC (.int 0))) (o1 negD (oC (.int 1)))) [.s false (.fz (stp o t)), .s false (.fz (lI L))]= .ok (decide (o= -1),[.s false (.fz (stp o t)), .s false (.fz (lI L))]):=by
  refine jO (d:= .bl (decide (o= -1))) (e:=[.s false (.fz (stp o t)), .s false (.fz (lI L))]) (vM (h1:= .d (.bl (decide (o= -1)))) (zT (h1:= .d (.int o)) (h2:= .d (.int (-1))) (by rfl) (by rfl) rfl rfl rfl ?_ rfl) rfl) rfl rfl
  unfold eqD eqB
  show some (D.bl (Dt.beq (.int o) (.int (-1))))=_
  unfold Dt.beq
  by_cases h:o= -1 <;> simp [h]
 unfold wo
 by_cases e:o= -1
 ·rw [if_pos e]
  rw [decide_eq_true e] at tst
  exact⟨.fz (lI L),zS (o:= .rt (.fz (lI L)) [.s false (.fz (stp o t)), .s false (.fz (lI L))]) (qWs (vWp tst rfl) rfl) rfl,rfl⟩
 ·rw [if_neg e]
  rw [decide_eq_false e] at tst
  refine⟨.ow .lst (((L ++ [o]).map D.int).map .fz),zS (o:= .rt (.ow .lst (((L ++ [o]).map D.int).map .fz)) [.s false (.fz (stp o t)), .s false (.fz (lI L))]) (qWs (vWp tst ?_) rfl) rfl,fzI _⟩
  show cond (decide ((L.map D.int).length + 1<=lim)) (Res.ok (O.ow .lst ((L.map D.int ++ [D.int o]).map O.fz),_)) Res.no=_
  rw [decide_eq_true (by rw [aY];show _<=1000000;omega),show(L ++ [o]).map D.int=L.map D.int ++ [D.int o] by simp];rfl
abbrev S3:=Int×D×List Int
def zD (z:S3):D:= .tup [stp z.1 z.2.1,lI z.2.2]
theorem vYk {G:Gr} {o:Int} (h:o∉ks G):putO (kG G) (G.map fun p=>ngO p.2) (.inl o) (ngO [])=grO (G ++ [(o,[])]):=by
 have:kidx (Sum.inl o:Key) (kG G)=none:=by
  have:=y0 (o:=o) (l:=ks G) h
  unfold ks at this
  rw [bH] at this
  exact this
 unfold putO
 rw [this]
 dsimp only
 unfold grO kG
 rw [bK,bK];rfl
theorem qK2 {G:Gr} {one:Slot} {z:S3} (g:Gd G) (h:z.1= -1\/z.1∉ks G) (hL:∀x∈z.2.2,x∈ks G) (few:G.length < 99) (fL:z.2.2.length < 99):
  wR [one, .s false (grO G), .s false (.fz (stp z.1 z.2.1)), .s false (.fz (lI z.2.2))]= .ok (.nx [one, .s false (grO (jQ G (z.1,z.2.2))), .s false (.fz (stp z.1 z.2.1)), .s false (.fz (lI z.2.2))]):=by
 obtain⟨o,t,L⟩:=z
 obtain⟨g1,k1,n1⟩:=qXb g h
 have s:=vJy g h hL
 have ln:∀L:Gr,(ks L).length=L.length:=fun L=>by unfold ks;rw [aY]
 have lg:(grow G o).length<=99:=by rw [←ln,k1,aP,ln];split <;> simp <;> omega
 have lw:(wo o L).length<=99:=by unfold wo;split;exact dL fL;rw [aP];simp;dsimp only at fL;omega
 have mk4:=vWm (G:=grow G o) (xs:=wo o L) s g1.kn fun a=>by
  have h1:(nb (grow G o) a).length<=(ks (grow G o)).length:=yF (g1.nn a) fun b hb=>(g1.key hb).1
  rw [ln] at h1
  have:(wo o L).length * (wo o L).length<=99 * 99:=Nat.mul_le_mul lw lw
  show _<=1000000
  omega
 obtain⟨r,w1,w2⟩:=vY1 o t L (by dsimp only at fL;omega)
 have tst:asB (o2 neD (oIx (oN 2) (oC (.int 0))) (o1 negD (oC (.int 1)))) [one, .s false (grO G), .s false (.fz (stp o t)), .s false (.fz (lI L))]= .ok (decide (o≠ -1),[one, .s false (grO G), .s false (.fz (stp o t)), .s false (.fz (lI L))]):=
  jO (d:= .bl (decide (o≠ -1))) (e:=[one, .s false (grO G), .s false (.fz (stp o t)), .s false (.fz (lI L))]) (vM (h1:= .d (.bl (decide (o≠ -1)))) (zT (h1:= .d (.int o)) (h2:= .d (.int (-1))) (by rfl) (by rfl) rfl rfl rfl (ne_int o (-1)) rfl) rfl) rfl rfl
 have st1:sIf (asB (o2 neD (oIx (oN 2) (oC (.int 0))) (o1 negD (oC (.int 1))))) (yP (pOf (oN 1)) (pOf (oIx (oN 2) (oC (.int 0)))) eDct0) sNil [one, .s false (grO G), .s false (.fz (stp o t)), .s false (.fz (lI L))]= .ok (.nx [one, .s false (grO (grow G o)), .s false (.fz (stp o t)), .s false (.fz (lI L))]):=by
  refine xV tst ?_
  unfold grow
  by_cases e:o= -1
  ·rw [if_pos e,decide_eq_false (by simp [e])];rfl
  ·rw [if_neg e,decide_eq_true e]
   refine qWt (qZd (x:=ngO []) (e:=[one, .s false (grO G), .s false (.fz (stp o t)), .s false (.fz (lI L))]) (i:=1) (π:=[]) (hk:= .d (.int o)) (y:= .int o) (key:= .inl o) (q:=(kG G,G.map fun p=>ngO p.2)) rfl rfl rfl rfl rfl rfl ?_ rfl) ?_
   ·exact decide_eq_true (by show _<=1000000;rw [aY];omega)
   ·show Res.ok (Out.nx [one, .s false (putO (kG G) (G.map fun p=>ngO p.2) (.inl o) (ngO [])),_,_])=_
    rw [vYk (h.resolve_left e)]
 refine vH st1 ?_
 refine xR (o:= .fz .non) (e:=[one, .s false (grO (mk (grow G o) (wo o L))), .s false (.fz (stp o t)), .s false (.fz (lI L))]) (vG (hs:=[.p 1 [], .d (lI (wo o L))]) (e:=[one, .s false (grO (grow G o)), .s false (.fz (stp o t)), .s false (.fz (lI L))]) (zWs rfl (qKl (d:=lI (wo o L)) (e:=[one, .s false (grO (grow G o)), .s false (.fz (stp o t)), .s false (.fz (lI L))]) (jL (o:=r) (e:=[one, .s false (grO (grow G o)), .s false (.fz (stp o t)), .s false (.fz (lI L))]) (vG (hs:=[.d (stp o t), .d (lI L)]) (e:=[one, .s false (grO (grow G o)), .s false (.fz (stp o t)), .s false (.fz (lI L))]) rfl (vU (t0:=([],[one, .s false (grO (grow G o)), .s false (.fz (stp o t)), .s false (.fz (lI L))])) (t:=([],[one, .s false (grO (grow G o)), .s false (.fz (stp o t)), .s false (.fz (lI L))])) (args:=[.s false (.fz (stp o t)), .s false (.fz (lI L))]) (q:=(r,[.un, .un])) (os:=[]) rfl rfl rfl w1 rfl rfl rfl)) (by rw [w2])) rfl rfl) rfl)
  (vU (t0:=([],[one, .s false (grO (grow G o)), .s false (.fz (stp o t)), .s false (.fz (lI L))])) (t:=([grO (grow G o)],[one, .un, .s false (.fz (stp o t)), .s false (.fz (lI L))])) (args:=[.s true (grO (grow G o)), .s false (.fz (lI (wo o L)))]) (q:=(.fz .non,[.s true (grO (mk (grow G o) (wo o L))), .un])) (os:=[grO (mk (grow G o) (wo o L))]) rfl rfl rfl mk4 rfl rfl rfl)) rfl
def pr (z:S3):Int×List Int:=(z.1,z.2.2)
theorem neigh_loop {one:Slot}:∀(zs:List S3) (G:Gr) (x2 x3:Slot),Gd G->Wg (ks G) (zs.map pr)->G.length + zs.length < 99->(∀z∈zs,z.2.2.length < 99)->
  ∃y2 y3,forS (gT 2 (gCn (gN 2) (gCn (gN 3) gNl))) wR (zs.map zD) [one, .s false (grO G),x2,x3]= .ok (.nx [one, .s false (grO ((zs.map pr).foldl jQ G)),y2,y3])
 | [],G,x2,x3,_,_,_,_=>⟨x2,x3,rfl⟩
 | z::zs,G,x2,x3,g,⟨w1,w2⟩,few,fL=>by
   rw [aK] at few
   have ho:z.1= -1\/z.1∉ks G:=w2.imp (fun q=>q.1) fun q=>q.2.1
   obtain⟨s1,s2,_,_⟩:=step_ok (L:=z.2.2) g ho w1
   have st:=qK2 (one:=one) g ho w1 (by omega) (fL z (aI ..))
   have ln:∀L:Gr,(ks L).length=L.length:=fun L=>by unfold ks;rw [aY]
   have w' :Wg (ks (jQ G (z.1,z.2.2))) (zs.map pr):=by
    rw [s2]
    rcases w2 with⟨q,w⟩ | ⟨q,_,w⟩
    ·rw [if_pos (show z.1= -1 from q),bR];exact w
    ·rw [if_neg (show¬z.1= -1 from q)];exact w
   have l2:(jQ G (z.1,z.2.2)).length<=G.length + 1:=by rw [←ln,s2,aP,ln];split <;> simp
   obtain⟨y2,y3,hy⟩:=neigh_loop (one:=one) zs (jQ G (z.1,z.2.2)) (.s false (.fz (stp z.1 z.2.1))) (.s false (.fz (lI z.2.2))) s1 w' (by omega) fun q hq=>fL q (aE _ hq)
   exact⟨y2,y3,jD rfl st hy⟩
theorem vY0 (zs:List S3):zipD (zs.map fun z=>stp z.1 z.2.1) (zs.map fun z=>lI z.2.2)=zs.map zD:=by
 induction zs with
 | nil=>rfl
 | cons z zs ih=>rw [aC,aC,zipD,ih];rfl
theorem vX7 {zs:List S3} {a b:D} {r:O} (w:Wg [] (zs.map pr)) (few:zs.length < 99) (fL:∀z∈zs,z.2.2.length < 99) (hl:j4 [.s false (.fz (oneD (zs.map fun z=>stp z.1 z.2.1) a b))]= .ok (r,[.un])) (hr:fzO r= .nd .lst (zs.map fun z=>lI z.2.2)):
  j0 [.s false (.fz (oneD (zs.map fun z=>stp z.1 z.2.1) a b))]= .ok (grO ((zs.map pr).foldl jQ []),[.un]):=by
 obtain⟨y2,y3,h⟩:=neigh_loop (one:= .s false (.fz (oneD (zs.map fun z=>stp z.1 z.2.1) a b))) zs [] .un .un ⟨dW,fun _=>dW,fun _ _ z=>absurd z aN,fun _ z=>absurd z aN⟩ w (by simpa using few) fL
 generalize ho:oneD (zs.map fun z=>stp z.1 z.2.1) a b=one at *
 refine zS (o:= .rt (grO ((zs.map pr).foldl jQ [])) [.s false (.fz one), .un,y2,y3]) ?_ rfl
 refine qM (o:=grO []) (e:=[.s false (.fz one), .un, .un, .un]) rfl ?_
 refine vH (jK (ds:=zs.map zD) (e:=[.s false (.fz one), .s false (grO []), .un, .un]) (vQl (xs:=[.nd .lst (zs.map fun z=>stp z.1 z.2.1), .nd .lst (zs.map fun z=>lI z.2.2)]) (e:=[.s false (.fz one), .s false (grO []), .un, .un]) (v8 (d:= .nd .lst (zs.map fun z=>stp z.1 z.2.1)) (e:=[.s false (.fz one), .s false (grO []), .un, .un]) (by subst ho;rfl) (v8 (d:= .nd .lst (zs.map fun z=>lI z.2.2)) (e:=[.s false (.fz one), .s false (grO []), .un, .un]) (jL (o:=r) (e:=[.s false (.fz one), .s false (grO []), .un, .un]) (vG (hs:=[.d one]) (e:=[.s false (.fz one), .s false (grO []), .un, .un]) rfl (vU (t0:=([],[.s false (.fz one), .s false (grO []), .un, .un])) (t:=([],[.s false (.fz one), .s false (grO []), .un, .un])) (args:=[.s false (.fz one)]) (q:=(r,[.un])) (os:=[]) rfl rfl rfl hl rfl rfl rfl)) (by rw [hr])) rfl rfl) rfl) ?_ rfl) h) rfl
 show some (zipD (zs.map fun z=>stp z.1 z.2.1) (zs.map fun z=>lI z.2.2))=_
 rw [vY0]
abbrev Ps:=List (Int×Int)
def plO (ps:Ps):O:= .ow (.dct (ps.map fun p=>Sum.inl p.1)) (ps.map fun p=> .fz (.int p.2))
def lk (ps:Ps) (x:Int):Int:=(ps.lookup x).getD 0
def addP (ps:Ps) (o:Int) (i:Nat):Ps:=if o= -1 then ps else ps ++ [(o,(i:Int))]
theorem lk_at {x:Int}:∀ {ps:Ps},x∈ps.map (·.1)->∃j,kidx (Sum.inl x:Key) (ps.map fun p=>Sum.inl p.1)=some j/\ps[j]?=some (x,lk ps x)
 | (k,v)::ps,h=>by
   by_cases e:k=x
   ·subst e
    exact⟨0,by show(if(Sum.inl k:Key)=Sum.inl k then some 0 else _)=_;rw [if_pos rfl],by unfold lk;rw [bC];simp⟩
   ·obtain⟨j,h1,h2⟩:=lk_at (ps:=ps) ((aB.mp h).elim (fun z=>absurd z.symm e) id)
    refine⟨j + 1,?_,?_⟩
    ·show(if(Sum.inl k:Key)=Sum.inl x then some 0 else(kidx (Sum.inl x) (ps.map fun p=>Sum.inl p.1)).map (· + 1))=_
     rw [if_neg (fun z=>e (Sum.inl.inj z)),h1];rfl
    ·rw [List.getElem?_cons_succ,h2]
     unfold lk
     rw [bC,show(x == k)=false by simpa using Ne.symm e]
def lnP:Nat->Ps->List S3->List (List Int)
 | _,_,[]=> []
 | i,ps,z::zs=>aO (vZ (z.2.2.map (lk ps)))::lnP (i + 1) (addP ps z.1 i) zs
def rdO (l:List Int):O:= .ow .lst ((l.map D.int).map .fz)
theorem cmp_loop {ps:Ps} {io:Bool}:∀(R:List Int) (u:Slot),(∀x∈R,x∈ps.map (·.1))->∃u',jM (gN 0) bTrue (oV (oIx (oN 1) (oN 0))) (R.map .int) [u, .s io (plO ps)]= .ok ((R.map (lk ps)).map .int,[u', .s io (plO ps)])
 | [],u,_=>⟨u,rfl⟩
 | x::R,u,h=>by
   obtain⟨u',hu⟩:=cmp_loop (ps:=ps) (io:=io) R (fI x) fun y hy=>h y (aE _ hy)
   obtain⟨j,h1,h2⟩:=lk_at (h x (aI ..))
   refine⟨u',?_⟩
   have el:oV (oIx (oN 1) (oN 0)) [fI x, .s io (plO ps)]= .ok (.int (lk ps x),[fI x, .s io (plO ps)]):=by
    refine vM (h1:= .d (.int (lk ps x))) (v5 (h1:= .p 1 []) (h2:= .d (.int x)) (y:= .int x) (by rfl) (by rfl) rfl rfl ?_ rfl) rfl
    show(idxK (ps.map fun p=>O.fz (.int p.2)).length (.int x) (.dct (ps.map fun p=>Sum.inl p.1))).bind _=_
    show(kidx (Sum.inl x:Key) (ps.map fun p=>Sum.inl p.1)).bind _=_
    rw [h1]
    show((ps.map fun p=>O.fz (.int p.2))[j]?).bind _=_
    rw [bP,h2];rfl
   show(oV (oIx (oN 1) (oN 0)) [fI x, .s io (plO ps)]).ne.bind _=_
   rw [el]
   show(jM (gN 0) bTrue (oV (oIx (oN 1) (oN 0))) (R.map .int) [fI x, .s io (plO ps)]).bind _=_
   rw [hu];rfl
theorem yS (l:List Int):(vZ l).length<=l.length:=yF (qV5 l) fun a ha=>(qQl l a).mp ha
theorem qK6 {one:Slot} {ps:Ps} {F:List O} {i:Nat} {z:S3} (hR:∀x∈z.2.2,x∈ps.map (·.1)) (ho:z.1= -1\/z.1∉ps.map (·.1)) (fR:z.2.2.length < 64) (fF:F.length < 1000) (fp:ps.length < 1000) (hs:∃r,qK 8 [.s false (.fz z.2.1)]= .ok (r,[.un])/\fzO r=lI z.2.2):
  qVu [one, .s false (plO ps), .s false (.ow .lst F),fI i, .s false (.fz (stp z.1 z.2.1))]= .ok (.nx [one, .s false (plO (addP ps z.1 i)), .s false (.ow .lst (F ++ [rdO (aO (vZ (z.2.2.map (lk ps))))])),fI i, .s false (.fz (stp z.1 z.2.1))]):=by
 obtain⟨o,t,R⟩:=z
 obtain⟨r,r1,r2⟩:=hs
 obtain⟨u,hu⟩:=cmp_loop (ps:=ps) (io:=false) R .un hR
 have lr:R.length < 64:=fR
 have so:sortSD [lI (R.map (lk ps))]=some ((aO (vZ (R.map (lk ps)))).map .int):=by
  unfold sortSD
  rw [show wB [lI (R.map (lk ps))]=some (R.map (lk ps)) from zC _]
  have:=yS (R.map (lk ps))
  rw [aY] at this
  show cond (decide ((R.map (lk ps)).length<=2000) && decide ((vZ (R.map (lk ps))).length < 64)) _ _=_
  rw [decide_eq_true (by rw [aY];omega),decide_eq_true (by omega)];rfl
 refine yN (o:= .fz .non) (e:=[one, .s false (plO ps), .s false (.ow .lst (F ++ [rdO (aO (vZ (R.map (lk ps))))])),fI i, .s false (.fz (stp o t))]) (xL (i:=2) (π:=[]) (x:=rdO (aO (vZ (R.map (lk ps))))) (e:=[one, .s false (plO ps), .s false (.ow .lst F),fI i, .s false (.fz (stp o t))]) (os:=F) (os0:=F) (z:=(.fz .non,F ++ [rdO (aO (vZ (R.map (lk ps))))])) rfl rfl
  (vQo (hs:=[.d (lI (R.map (lk ps)))]) (xs:=[lI (R.map (lk ps))]) (ds:=(aO (vZ (R.map (lk ps)))).map .int) (e:=[one, .s false (plO ps), .s false (.ow .lst F),fI i, .s false (.fz (stp o t))]) (e1:=[one, .s false (plO ps), .s false (.ow .lst F),fI i, .s false (.fz (stp o t))]) (zY (jC (d:=lI (R.map (lk ps))) (xF (ds:=R.map .int) (vs:=(R.map (lk ps)).map .int) (e:=[one, .s false (plO ps), .s false (.ow .lst F),fI i, .s false (.fz (stp o t))]) (q:=[u, .s false (plO ps)])
   (wX (d:=lI R) (e:=[one, .s false (plO ps), .s false (.ow .lst F),fI i, .s false (.fz (stp o t))]) (jL (o:=r) (e:=[one, .s false (plO ps), .s false (.ow .lst F),fI i, .s false (.fz (stp o t))]) (vG (hs:=[.d t]) (e:=[one, .s false (plO ps), .s false (.ow .lst F),fI i, .s false (.fz (stp o t))]) rfl (vU (t0:=([],[one, .s false (plO ps), .s false (.ow .lst F),fI i, .s false (.fz (stp o t))])) (t:=([],[one, .s false (plO ps), .s false (.ow .lst F),fI i, .s false (.fz (stp o t))])) (args:=[.s false (.fz t)]) (q:=(r,[.un])) (os:=[]) rfl rfl rfl r1 rfl rfl rfl)) (by rw [r2])) rfl rfl) ?_ hu rfl) rfl) rfl rfl rfl) rfl so rfl) rfl rfl ?_ rfl) ?_
 ·show(true && decide ((R.map D.int).length<=lim))=true
  rw [decide_eq_true (by rw [aY];show _<=1000000;omega)];rfl
 ·unfold apF
  rw [decide_eq_true (show F.length<=1000000 by omega)];rfl
 refine xV (jO (d:= .bl (decide (o≠ -1))) (e:=[one, .s false (plO ps), .s false (.ow .lst (F ++ [rdO (aO (vZ (R.map (lk ps))))])),fI i, .s false (.fz (stp o t))]) (vM (h1:= .d (.bl (decide (o≠ -1)))) (zT (h1:= .d (.int o)) (h2:= .d (.int (-1))) (by rfl) (by rfl) rfl rfl rfl (ne_int o (-1)) rfl) rfl) rfl rfl) ?_
 unfold addP
 by_cases e:o= -1
 ·rw [if_pos e,decide_eq_false (by simp [e])];rfl
 ·rw [if_neg e,decide_eq_true e]
  have kn:kidx (Sum.inl o:Key) (ps.map fun p=>Sum.inl p.1)=none:=by
   have:=y0 (o:=o) (l:=ps.map (·.1)) (ho.resolve_left e)
   rw [bH] at this
   exact this
  refine qWt (qZd (x:= .fz (.int i)) (e:=[one, .s false (plO ps), .s false (.ow .lst (F ++ [rdO (aO (vZ (R.map (lk ps))))])),fI i, .s false (.fz (stp o t))]) (i:=1) (π:=[]) (hk:= .d (.int o)) (y:= .int o) (key:= .inl o) (q:=(ps.map fun p=>Sum.inl p.1,ps.map fun p=> .fz (.int p.2))) rfl rfl rfl rfl rfl rfl ?_ rfl) ?_
  ·exact decide_eq_true (by show _<=1000000;rw [aY];omega)
  ·show Res.ok (Out.nx [one, .s false (putO (ps.map fun p=>Sum.inl p.1) (ps.map fun p=> .fz (.int p.2)) (.inl o) (.fz (.int i))),_,_,_])=_
   unfold putO
   rw [kn]
   dsimp only
   unfold plO
   rw [bK,bK];rfl
theorem leans_loop {one:Slot}:∀(zs:List S3) (i:Nat) (ps:Ps) (F:List O) (x3 x4:Slot),Wg (ps.map (·.1)) (zs.map pr)->(∀z∈zs,z.2.2.length < 64/\∃r,qK 8 [.s false (.fz z.2.1)]= .ok (r,[.un])/\fzO r=lI z.2.2)->F.length + zs.length < 999->ps.length + zs.length < 999->
  ∃y1 y3 y4,forS (gT 2 (gCn (gN 3) (gCn (gN 4) gNl))) qVu (yC i (zs.map fun z=>stp z.1 z.2.1)) [one, .s false (plO ps), .s false (.ow .lst F),x3,x4]= .ok (.nx [one,y1, .s false (.ow .lst (F ++ (lnP i ps zs).map rdO)),y3,y4])
 | [],i,ps,F,x3,x4,_,_,_,_=>⟨.s false (plO ps),x3,x4,by show _=Res.ok (Out.nx [one,_, .s false (.ow .lst (F ++ [])),_,_]);rw [bR];rfl⟩
 | z::zs,i,ps,F,x3,x4,⟨w1,w2⟩,hz,f1,f2=>by
   rw [aK] at f1 f2
   obtain⟨h1,h2⟩:=hz z (aI ..)
   have st:=qK6 (one:=one) (F:=F) (i:=i) w1 (w2.imp (fun q=>q.1) fun q=>q.2.1) h1 (by omega) (by omega) h2
   have w' :Wg ((addP ps z.1 i).map (·.1)) (zs.map pr):=by
    unfold addP
    rcases w2 with⟨q,w⟩ | ⟨q,_,w⟩
    ·rw [if_pos (show z.1= -1 from q)];exact w
    ·rw [if_neg (show¬z.1= -1 from q),bK];exact w
   have l2:(addP ps z.1 i).length<=ps.length + 1:=by unfold addP;split <;> simp
   obtain⟨y1,y3,y4,hy⟩:=leans_loop (one:=one) zs (i + 1) (addP ps z.1 i) (F ++ [rdO (aO (vZ (z.2.2.map (lk ps))))]) (fI i) (.s false (.fz (stp z.1 z.2.1))) w' (fun q hq=>hz q (aE _ hq)) (by rw [aP];simp;omega) (by omega)
   refine⟨y1,y3,y4,jD rfl st (hy.trans ?_)⟩
   rw [cA,lnP];rfl
theorem vWt (ls:List (List Int)):fzO (.ow .lst (ls.map rdO))= .nd .lst (ls.map lI):=by
 show D.nd .lst (fzOs (ls.map rdO))=_
 rw [xC,bH]
 congr 1
 exact List.map_congr_left fun l _=>qZm l
def os3 (zs:List S3):List Int:=zs.map (·.1)
def sAt' (os:List Int) (p:Int):Int:=os.getD p.toNat 0
theorem qZx {ss:List D} {p:Int} {x:D} (h0:0<=p) (h:ss[p.toNat]?=some x):ixD (.nd .lst ss) (.int p)=some x:=by
 show(ixN ss.length p).bind (fun j=>ss[j]?)=_
 have hl:=(aT.mp h).1
 have:ixN ss.length p=some p.toNat:=by
  unfold ixN
  rw [if_pos h0,if_pos (by omega)]
 rw [this];exact h
theorem led_cmp {zs:List S3} {a b:D}:∀(P:List Int) (u:Slot),(∀p∈P,0<=p/\p.toNat < zs.length)->∃u',jM (gN 0) bTrue (oV (oIx (oIx (oFld [1] "steps" (oN 1)) (oN 0)) (oC (.int 0)))) (P.map .int) [u, .s false (.fz (oneD (zs.map fun z=>stp z.1 z.2.1) a b))]= .ok ((P.map (sAt' (os3 zs))).map .int,[u', .s false (.fz (oneD (zs.map fun z=>stp z.1 z.2.1) a b))])
 | [],u,_=>⟨u,rfl⟩
 | p::P,u,h=>by
   obtain⟨u',hu⟩:=led_cmp (zs:=zs) (a:=a) (b:=b) P (fI p) fun y hy=>h y (aE _ hy)
   obtain⟨h0,h1⟩:=h p (aI ..)
   refine⟨u',?_⟩
   have e0:sAt' (os3 zs) p=zs[p.toNat].1:=by unfold sAt' os3;simp [h1]
   have el:oV (oIx (oIx (oFld [1] "steps" (oN 1)) (oN 0)) (oC (.int 0))) [fI p, .s false (.fz (oneD (zs.map fun z=>stp z.1 z.2.1) a b))]= .ok (.int (sAt' (os3 zs) p),[fI p, .s false (.fz (oneD (zs.map fun z=>stp z.1 z.2.1) a b))]):=by
    rw [e0]
    refine vM (h1:= .d (.int zs[p.toNat].1)) (v5 (h1:= .d (stp zs[p.toNat].1 zs[p.toNat].2.1)) (h2:= .d (.int 0)) (y:= .int 0) (v5 (h1:= .d (.nd .lst (zs.map fun z=>stp z.1 z.2.1))) (h2:= .d (.int p)) (y:= .int p) (by rfl) (by rfl) rfl rfl ?_ rfl) (by rfl) rfl rfl rfl rfl) rfl
    show(ixD _ _).map Hn.d=_
    rw [qZx h0 (x:=stp zs[p.toNat].1 zs[p.toNat].2.1) (by simp [h1])];rfl
   show(oV _ [fI p, .s false (.fz (oneD (zs.map fun z=>stp z.1 z.2.1) a b))]).ne.bind _=_
   rw [el]
   show(jM (gN 0) bTrue _ (P.map .int) [fI p, .s false (.fz (oneD (zs.map fun z=>stp z.1 z.2.1) a b))]).bind _=_
   rw [hu];rfl
theorem led_loop {zs:List S3} {a b:D}:∀(Pl:List (List Int)) (F:List O) (x2:Slot),(∀P∈Pl,P.length < 1000/\∀p∈P,0<=p/\p.toNat < zs.length)->F.length + Pl.length < 999->
  ∃y,forS (gN 2) xG (Pl.map lI) [.s false (.fz (oneD (zs.map fun z=>stp z.1 z.2.1) a b)), .s false (.ow .lst F),x2]= .ok (.nx [.s false (.fz (oneD (zs.map fun z=>stp z.1 z.2.1) a b)), .s false (.ow .lst (F ++ (Pl.map fun P=>rdO (P.map (sAt' (os3 zs)))))),y])
 | [],F,x2,_,_=>⟨x2,by show _=Res.ok (Out.nx [_, .s false (.ow .lst (F ++ [])),_]);rw [bR];rfl⟩
 | P::Pl,F,x2,h,f=>by
   rw [aK] at f
   obtain⟨h1,h2⟩:=h P (aI ..)
   obtain⟨u,hu⟩:=led_cmp (zs:=zs) (a:=a) (b:=b) P .un h2
   obtain⟨y,hy⟩:=led_loop (zs:=zs) (a:=a) (b:=b) Pl (F ++ [rdO (P.map (sAt' (os3 zs)))]) (.s false (.fz (lI P))) (fun Q hQ=>h Q (aE _ hQ)) (by rw [aP];simp;omega)
   rw [cA] at hy
   generalize ho:oneD (zs.map fun z=>stp z.1 z.2.1) a b=one at *
   refine⟨y,jD rfl (xR (o:= .fz .non) (e:=[.s false (.fz one), .s false (.ow .lst (F ++ [rdO (P.map (sAt' (os3 zs)))])), .s false (.fz (lI P))]) (xL (i:=1) (π:=[]) (x:=rdO (P.map (sAt' (os3 zs)))) (e:=[.s false (.fz one), .s false (.ow .lst F), .s false (.fz (lI P))]) (os:=F) (os0:=F) (z:=(.fz .non,F ++ [rdO (P.map (sAt' (os3 zs)))])) rfl rfl
    (vVu (ds:=P.map .int) (vs:=(P.map (sAt' (os3 zs))).map .int) (e:=[.s false (.fz one), .s false (.ow .lst F), .s false (.fz (lI P))]) (q:=[u, .s false (.fz one)]) (wX (d:=lI P) (e:=[.s false (.fz one), .s false (.ow .lst F), .s false (.fz (lI P))]) rfl rfl rfl) ?_ hu rfl) rfl rfl ?_ rfl) rfl) hy⟩
   ·show(true && decide ((P.map D.int).length<=lim))=true
    rw [decide_eq_true (by rw [aY];show _<=1000000;omega)];rfl
   ·unfold apF
    rw [decide_eq_true (show F.length<=1000000 by omega)];rfl
theorem leaned_ok {zs:List S3} {a b:D} (w:Wg [] (zs.map pr)) (hz:∀z∈zs,z.2.2.length < 64/\∃r,qK 8 [.s false (.fz z.2.1)]= .ok (r,[.un])/\fzO r=lI z.2.2) (few:zs.length < 900) (hp:∀P∈lnP 0 [] zs,P.length < 1000/\∀p∈P,0<=p/\p.toNat < zs.length) (hl:(lnP 0 [] zs).length=zs.length):
  ∃r,j4 [.s false (.fz (oneD (zs.map fun z=>stp z.1 z.2.1) a b))]= .ok (r,[.un])/\fzO r= .nd .lst ((lnP 0 [] zs).map fun P=>lI (P.map (sAt' (os3 zs)))):=by
 obtain⟨y1,y3,y4,h1⟩:=leans_loop (one:= .s false (.fz (oneD (zs.map fun z=>stp z.1 z.2.1) a b))) zs 0 [] [] .un .un w hz (by simp;omega) (by simp;omega)
 obtain⟨y,h2⟩:=led_loop (zs:=zs) (a:=a) (b:=b) (lnP 0 [] zs) [] .un hp (by simp;omega)
 generalize ho:oneD (zs.map fun z=>stp z.1 z.2.1) a b=one at *
 have le:qXk [.s false (.fz one)]= .ok (.ow .lst ((lnP 0 [] zs).map rdO),[.un]):=by
  refine zS (o:= .rt (.ow .lst ((lnP 0 [] zs).map rdO)) [.s false (.fz one),y1, .un,y3,y4]) ?_ rfl
  refine qM (o:=plO []) (e:=[.s false (.fz one), .un, .un, .un, .un]) rfl ?_
  refine qM (o:= .ow .lst []) (e:=[.s false (.fz one), .s false (plO []), .un, .un, .un]) rfl ?_
  exact vH (jK (ds:=yC 0 (zs.map fun z=>stp z.1 z.2.1)) (e:=[.s false (.fz one), .s false (plO []), .s false (.ow .lst []), .un, .un]) (vQl (xs:=[.nd .lst (zs.map fun z=>stp z.1 z.2.1)]) (e:=[.s false (.fz one), .s false (plO []), .s false (.ow .lst []), .un, .un]) (v8 (d:= .nd .lst (zs.map fun z=>stp z.1 z.2.1)) (e:=[.s false (.fz one), .s false (plO []), .s false (.ow .lst []), .un, .un]) (by subst ho;rfl) rfl rfl) rfl rfl) h1) rfl
 refine⟨.ow .lst ((lnP 0 [] zs).map fun P=>rdO (P.map (sAt' (os3 zs)))),zS (o:= .rt (.ow .lst ((lnP 0 [] zs).map fun P=>rdO (P.map (sAt' (os3 zs))))) [.s false (.fz one), .un,y]) ?_ rfl,?_⟩
 ·refine qM (o:= .ow .lst []) (e:=[.s false (.fz one), .un, .un]) rfl ?_
  refine vH (jK (ds:=(lnP 0 [] zs).map lI) (e:=[.s false (.fz one), .s false (.ow .lst []), .un]) (wX (d:= .nd .lst ((lnP 0 [] zs).map lI)) (e:=[.s false (.fz one), .s false (.ow .lst []), .un]) (jL (o:= .ow .lst ((lnP 0 [] zs).map rdO)) (e:=[.s false (.fz one), .s false (.ow .lst []), .un]) (vG (hs:=[.d one]) (e:=[.s false (.fz one), .s false (.ow .lst []), .un]) rfl (vU (t0:=([],[.s false (.fz one), .s false (.ow .lst []), .un])) (t:=([],[.s false (.fz one), .s false (.ow .lst []), .un])) (args:=[.s false (.fz one)]) (q:=(.ow .lst ((lnP 0 [] zs).map rdO),[.un])) (os:=[]) rfl rfl rfl le rfl rfl rfl)) (by rw [vWt])) rfl rfl) h2) rfl
 ·rw [show(fun P:List Int=>rdO (P.map (sAt' (os3 zs))))=rdO ∘ fun P=>P.map (sAt' (os3 zs)) from rfl,←bH,vWt,bH];rfl
def lnS (os:List Int):Nat->Ps->List S3->List S3
 | _,_,[]=> []
 | i,ps,z::zs=>(z.1,z.2.1,(aO (vZ (z.2.2.map (lk ps)))).map (sAt' os))::lnS os (i + 1) (addP ps z.1 i) zs
structure LnOk (os:List Int) (i:Nat) (ps:Ps) (zs:List S3):Prop where
 st:(lnS os i ps zs).map (fun z=>stp z.1 z.2.1)=zs.map fun z=>stp z.1 z.2.1
 ow:(lnS os i ps zs).map (·.1)=zs.map (·.1)
 ll:(lnS os i ps zs).map (fun z=>lI z.2.2)=(lnP i ps zs).map fun P=>lI (P.map (sAt' os))
 wg:Wg (ps.map (·.1)) ((lnS os i ps zs).map pr)
 pp:∀P∈lnP i ps zs,P.length < 1000/\∀p∈P,0<=p/\p.toNat < os.length
 le:(lnP i ps zs).length=zs.length
 me:∀z∈zs,∃z' ∈lnS os i ps zs,z'.1=z.1/\∀y,y∈z'.2.2↔y∈z.2.2
 sm:∀z∈lnS os i ps zs,z.2.2.length < 64
theorem zV9 {os:List Int}:∀(zs:List S3) (i:Nat) (ps:Ps),(∀p∈ps,0<=p.2/\os[p.2.toNat]?=some p.1)->Wg (ps.map (·.1)) (zs.map pr)->os.drop i=zs.map (·.1)->(∀z∈zs,z.2.2.length < 64)->LnOk os i ps zs
 | [],i,ps,_,_,_,_=>⟨rfl,rfl,rfl,trivial,fun P hP=>absurd hP aN,rfl,fun z hz=>absurd hz aN,fun z hz=>absurd hz aN⟩
 | z::zs,i,ps,hp,⟨w1,w2⟩,hd,hl=>by
   have hi:os[i]?=some z.1:=by
    have:=List.getElem?_drop (xs:=os) (i:=i) (j:=0)
    rw [hd] at this
    simpa using this.symm
   have w' :∀r,(z.1= -1/\Wg (ps.map (·.1)) r\/z.1≠ -1/\z.1∉ps.map (·.1)/\Wg (ps.map (·.1) ++ [z.1]) r)↔((z.1= -1\/z.1∉ps.map (·.1))/\Wg ((addP ps z.1 i).map (·.1)) r):=fun r=>by
    unfold addP
    by_cases e:z.1= -1
    ·simp [e]
    ·simp only [e,if_false,bK,false_and,false_or,ne_eq,not_false_iff,true_and]
     exact Iff.rfl
   have w2' :=(w' _).mp w2
   have hp' :∀p∈addP ps z.1 i,0<=p.2/\os[p.2.toNat]?=some p.1:=fun p h=>by
    unfold addP at h
    split at h
    ·exact hp p h
    ·rcases bL.mp h with h | h
     ·exact hp p h
     ·rw [aS.mp h]
      exact⟨by show(0:Int)<=(i:Int);omega,by simpa using hi⟩
   obtain⟨h1,h2,h3,h4,h5,h6,h7,h8⟩:=zV9 zs (i + 1) (addP ps z.1 i) hp' w2'.2 (by rw [←List.drop_drop,hd];rfl) fun q hq=>hl q (aE _ hq)
   have at1:∀x∈z.2.2,0<=lk ps x/\os[(lk ps x).toNat]?=some x:=fun x hx=>by
    obtain⟨j,_,e⟩:=lk_at (w1 x hx)
    exact hp _ (dP e)
   have mem:∀q,q∈aO (vZ (z.2.2.map (lk ps)))↔∃x∈z.2.2,lk ps x=q:=fun q=>by
    rw [(cI _).mem_iff,qQl,bG]
   have me0:∀y,y∈(aO (vZ (z.2.2.map (lk ps)))).map (sAt' os)↔y∈z.2.2:=fun y=>by
    have e:∀x∈z.2.2,sAt' os (lk ps x)=x:=fun x hx=>by unfold sAt';rw [cW,(at1 x hx).2];rfl
    rw [bG]
    constructor
    ·rintro⟨q,hq,rfl⟩
     obtain⟨x,hx,rfl⟩:=(mem q).mp hq
     rw [e x hx];exact hx
    ·exact fun hy=>⟨_,(mem _).mpr ⟨y,hy,rfl⟩,e y hy⟩
   have len0:(aO (vZ (z.2.2.map (lk ps)))).length < 64:=by
    rw [(cI _).length_eq]
    have:=yS (z.2.2.map (lk ps))
    rw [aY] at this
    have:=hl z (aI ..)
    omega
   refine⟨?_,?_,?_,⟨fun x hx=>w1 x ((me0 x).mp hx),(w' _).mpr ⟨w2'.1,h4⟩⟩,fun P hP=>?_,?_,fun q hq=>?_,fun q hq=>?_⟩
   ·rw [lnS,aC,aC,h1]
   ·rw [lnS,aC,aC,h2]
   ·rw [lnS,lnP,aC,aC,h3]
   ·rcases aB.mp hP with hP | hP
    ·subst hP
     refine⟨by omega,fun p hp=>?_⟩
     obtain⟨x,hx,rfl⟩:=(mem p).mp hp
     exact⟨(at1 x hx).1,(aT.mp (at1 x hx).2).1⟩
    ·exact h5 P hP
   ·rw [lnP,aK,aK,h6]
   ·rcases aB.mp hq with hq | hq
    ·subst hq
     exact⟨_,aI ..,rfl,me0⟩
    ·obtain⟨z',a1,a2⟩:=h7 q hq
     exact⟨z',aE _ a1,a2⟩
   ·rcases aB.mp hq with hq | hq
    ·subst hq
     rw [aY];exact len0
    ·exact h8 q hq
theorem vYv {G:Gr} {C C' :List Int} (h:∀y,y∈C↔y∈C') (c:Clq G C):Clq G C' :=fun a ha=>⟨(c a ((h a).mpr ha)).1,fun b hb ne=>(c a ((h a).mpr ha)).2 b ((h b).mpr hb) ne⟩
theorem graph_ok {zs:List S3} {a b:D} (w:Wg [] (zs.map pr)) (hz:∀z∈zs,z.2.2.length < 64/\∃r,qK 8 [.s false (.fz z.2.1)]= .ok (r,[.un])/\fzO r=lI z.2.2) (few:zs.length < 60):
  ∃G,Gd G/\ks G=owns (zs.map pr)/\(∀z∈zs,Clq G (wo z.1 z.2.2))/\j0 [.s false (.fz (oneD (zs.map fun z=>stp z.1 z.2.1) a b))]= .ok (grO G,[.un]):=by
 have L:=zV9 (os:=os3 zs) zs 0 [] (fun p hp=>absurd hp aN) w rfl fun z h=>(hz z h).1
 have o3:(os3 zs).length=zs.length:=aY ..
 have pp:=L.pp
 rw [o3] at pp
 obtain⟨r,r1,r2⟩:=leaned_ok (a:=a) (b:=b) w hz (by omega) pp L.le
 rw [←L.ll] at r2
 rw [←L.st] at r1
 have ll:(lnS (os3 zs) 0 [] zs).length=zs.length:=by have:=congrArg List.length L.ow;rwa [aY,aY] at this
 have n:=vX7 (a:=a) (b:=b) L.wg (by omega) (fun z h=>by have:=L.sm z h;omega) r1 r2
 rw [L.st] at n
 obtain⟨g1,g2,_,g4⟩:=vWl ((lnS (os3 zs) 0 [] zs).map pr) [] ⟨dW,fun _=>dW,fun _ _ z=>absurd z aN,fun _ z=>absurd z aN⟩ L.wg
 refine⟨_,g1,?_,fun z h=>?_,n⟩
 ·rw [g2]
  show owns _=_
  unfold owns
  rw [bH,bH]
  have:=L.ow
  show((lnS (os3 zs) 0 [] zs).map (·.1)).filter _=(zs.map (·.1)).filter _
  rw [this]
 ·obtain⟨z',m1,m2,m3⟩:=L.me z h
  have:=g4 (pr z') (bG.mpr ⟨z',m1,rfl⟩)
  refine vYv (fun y=>?_) this
  show y∈wo z'.1 z'.2.2↔y∈wo z.1 z.2.2
  rw [m2]
  unfold wo
  split
  ·exact m3 y
  ·rw [bL,bL,m3]
abbrev Rn:=List (Int×List Int)
def rowD (p:Int×List Int):D:= .tup [.int p.1,lI p.2]
def numP (i:Nat):Rn->Ps
 | []=> []
 | p::r=>(p.1,(i:Int))::numP (i + 1) r
theorem vWk:∀(r:Rn) (i:Nat),(numP i r).map (·.1)=r.map (·.1)
 | [],_=>rfl
 | p::r,i=>by rw [numP,aC,aC,vWk r]
def upD (l:List Int):D:=match l.min? with | none=> .non | some m=> .int m
def bagD (ps:Ps) (p:Int×List Int):D:= .tup [.int p.1,lI (aO (p.2 ++ [p.1])),upD (p.2.map (lk ps))]
theorem num_loop {x0 x1 x5 x6:Slot}:∀(r:Rn) (ps:Ps) (x3 x4:Slot),(∀p∈r,p.1∉ps.map (·.1))->(r.map (·.1)).Nodup->ps.length + r.length < 1000->
  ∃y3 y4,forS (gT 2 (gCn (gN 3) (gCn (gN 4) gNl))) qJe (r.map rowD) [x0,x1, .s false (plO ps),x3,x4,x5,x6]= .ok (.nx [x0,x1, .s false (plO (ps ++ numP ps.length r)),y3,y4,x5,x6])
 | [],ps,x3,x4,_,_,_=>⟨x3,x4,by show _=Res.ok (Out.nx [_,_, .s false (plO (ps ++ [])),_,_,_,_]);rw [bR];rfl⟩
 | p::r,ps,x3,x4,h,nd,few=>by
   rw [aK] at few
   obtain⟨n1,n2⟩:=bO.mp nd
   have hp:=h p (aI ..)
   have kn:kidx (Sum.inl p.1:Key) (ps.map fun p=>Sum.inl p.1)=none:=by
    have:=y0 (o:=p.1) (l:=ps.map (·.1)) hp
    rw [bH] at this
    exact this
   have st:qJe [x0,x1, .s false (plO ps),fI p.1, .s false (.fz (lI p.2)),x5,x6]= .ok (.nx [x0,x1, .s false (plO (ps ++ [(p.1,(ps.length:Int))])),fI p.1, .s false (.fz (lI p.2)),x5,x6]):=by
    have le:oV (oL lenD [(oN 2)]) [x0,x1, .s false (plO ps),fI p.1, .s false (.fz (lI p.2)),x5,x6]= .ok (.int (ps.length:Int),[x0,x1, .s false (plO ps),fI p.1, .s false (.fz (lI p.2)),x5,x6]):=by
     have e:oV (oL lenD [(oN 2)]) [x0,x1, .s false (plO ps),fI p.1, .s false (.fz (lI p.2)),x5,x6]= .ok (.int (((ps.map fun p=>(Sum.inl p.1:Key)).length:Nat):Int),[x0,x1, .s false (plO ps),fI p.1, .s false (.fz (lI p.2)),x5,x6]):=rfl
     rw [e,aY]
    refine qWt (qZd (x:= .fz (.int (ps.length:Int))) (e:=[x0,x1, .s false (plO ps),fI p.1, .s false (.fz (lI p.2)),x5,x6]) (i:=2) (π:=[]) (hk:= .d (.int p.1)) (y:= .int p.1) (key:= .inl p.1) (q:=(ps.map fun p=>Sum.inl p.1,ps.map fun p=> .fz (.int p.2))) (yB le rfl) rfl rfl rfl rfl rfl ?_ rfl) ?_
    ·exact decide_eq_true (by show _<=1000000;rw [aY];omega)
    ·show Res.ok (Out.nx [x0,x1, .s false (putO (ps.map fun p=>Sum.inl p.1) (ps.map fun p=> .fz (.int p.2)) (.inl p.1) (.fz (.int (ps.length:Int)))),_,_,_,_])=_
     unfold putO
     rw [kn]
     dsimp only
     unfold plO
     rw [bK,bK];rfl
   obtain⟨y3,y4,hy⟩:=num_loop (x0:=x0) (x1:=x1) (x5:=x5) (x6:=x6) r (ps ++ [(p.1,(ps.length:Int))]) (fI p.1) (.s false (.fz (lI p.2))) (fun q hq=>by
    rw [bK,bL]
    rintro(z | z)
    ·exact h q (aE _ hq) z
    ·exact n1 (bG.mpr ⟨q,hq,aS.mp z⟩)) n2 (by rw [aP];simp;omega)
   refine⟨y3,y4,jD rfl st (hy.trans ?_)⟩
   rw [cA,aP,numP];rfl
theorem vY9 (os:List Int) (s:Int) (few:os.length < 63):sortID [lI (os ++ [s])]=some ((aO (os ++ [s])).map .int):=by
 unfold sortID
 rw [show wB [lI (os ++ [s])]=some (os ++ [s]) from zC _]
 show cond (decide ((os ++ [s]).length < 64)) _ _=_
 rw [decide_eq_true (by rw [aP];simp;omega)];rfl
theorem vYz {x0 x1 x6:Slot} {ps:Ps} {F:List O} {p:Int×List Int} (hp:∀o∈p.2,o∈ps.map (·.1)) (few:p.2.length < 63) (fF:F.length < 1000):
  qJd [x0,x1, .s false (plO ps),fI p.1, .s false (.fz (lI p.2)), .s false (.ow .lst F),x6]= .ok (.nx [x0,x1, .s false (plO ps),fI p.1, .s false (.fz (lI p.2)), .s false (.ow .lst (F ++ [.fz (bagD ps p)])), .s false (.fz (upD (p.2.map (lk ps))))]):=by
 obtain⟨s,os⟩:=p
 obtain⟨u,hu⟩:=cmp_loop (ps:=ps) (io:=false) os .un hp
 dsimp only at few
 refine qM (o:= .fz (upD (os.map (lk ps)))) (e:=[x0,x1, .s false (plO ps),fI s, .s false (.fz (lI os)), .s false (.ow .lst F),x6]) (yB (vJ6 (hs:=[.d (lI (os.map (lk ps)))]) (xs:=[lI (os.map (lk ps))]) (e:=[x0,x1, .s false (plO ps),fI s, .s false (.fz (lI os)), .s false (.ow .lst F),x6]) (e1:=[x0,x1, .s false (plO ps),fI s, .s false (.fz (lI os)), .s false (.ow .lst F),x6]) (zY (jC (d:=lI (os.map (lk ps))) (xF (ds:=os.map .int) (vs:=(os.map (lk ps)).map .int) (e:=[x0,x1, .s false (plO ps),fI s, .s false (.fz (lI os)), .s false (.ow .lst F),x6]) (q:=[u, .s false (plO ps)]) (wX (d:=lI os) (e:=[x0,x1, .s false (plO ps),fI s, .s false (.fz (lI os)), .s false (.ow .lst F),x6]) rfl rfl rfl) ?_ hu rfl) rfl) rfl rfl rfl) rfl ?_ rfl) rfl) ?_
 ·show(true && decide ((os.map D.int).length<=lim))=true
  rw [decide_eq_true (by rw [aY];show _<=1000000;omega)];rfl
 ·unfold minDD
  rw [show wB [lI (os.map (lk ps))]=some (os.map (lk ps)) from zC _];rfl
 have ct:fzS (eCat (oN 4) (.v (fzS (eLst [(oV (oN 3))])))) [x0,x1, .s false (plO ps),fI s, .s false (.fz (lI os)), .s false (.ow .lst F), .s false (.fz (upD (os.map (lk ps))))]= .ok (lI (os ++ [s]),[x0,x1, .s false (plO ps),fI s, .s false (.fz (lI os)), .s false (.ow .lst F), .s false (.fz (upD (os.map (lk ps))))]):=by
  refine jL (o:= .ow .lst ((os.map D.int ++ [D.int s]).map .fz)) (e:=[x0,x1, .s false (plO ps),fI s, .s false (.fz (lI os)), .s false (.ow .lst F), .s false (.fz (upD (os.map (lk ps))))]) ?_ (by rw [jX,show os.map D.int ++ [D.int s]=(os ++ [s]).map D.int by simp])
  show cond (decide ((os.map D.int).length + 1<=lim)) _ _=_
  rw [decide_eq_true (by rw [aY];show _<=1000000;omega)];rfl
 refine xR (o:= .fz .non) (e:=[x0,x1, .s false (plO ps),fI s, .s false (.fz (lI os)), .s false (.ow .lst (F ++ [.fz (bagD ps (s,os))])), .s false (.fz (upD (os.map (lk ps))))]) (xL (i:=5) (π:=[]) (x:= .fz (bagD ps (s,os))) (e:=[x0,x1, .s false (plO ps),fI s, .s false (.fz (lI os)), .s false (.ow .lst F), .s false (.fz (upD (os.map (lk ps))))]) (os:=F) (os0:=F) (z:=(.fz .non,F ++ [.fz (bagD ps (s,os))])) rfl rfl
  (yB (qKd (ds:=[.int s,lI (aO (os ++ [s])),upD (os.map (lk ps))]) (e:=[x0,x1, .s false (plO ps),fI s, .s false (.fz (lI os)), .s false (.ow .lst F), .s false (.fz (upD (os.map (lk ps))))]) (v8 (d:= .int s) (e:=[x0,x1, .s false (plO ps),fI s, .s false (.fz (lI os)), .s false (.ow .lst F), .s false (.fz (upD (os.map (lk ps))))]) rfl (v8 (d:=lI (aO (os ++ [s]))) (e:=[x0,x1, .s false (plO ps),fI s, .s false (.fz (lI os)), .s false (.ow .lst F), .s false (.fz (upD (os.map (lk ps))))]) (vVj (hs:=[.d (lI (os ++ [s]))]) (xs:=[lI (os ++ [s])]) (e:=[x0,x1, .s false (plO ps),fI s, .s false (.fz (lI os)), .s false (.ow .lst F), .s false (.fz (upD (os.map (lk ps))))]) (zY (jC ct rfl) rfl rfl rfl) rfl (vY9 os s few) rfl) rfl rfl) rfl) rfl rfl) rfl) rfl rfl ?_ rfl) rfl
 unfold apF
 rw [decide_eq_true (show F.length<=1000000 by omega)];rfl
theorem bag_loop {x0 x1:Slot} {ps:Ps}:∀(r:Rn) (F:List O) (x3 x4 x6:Slot),(∀p∈r,p.2.length < 63/\∀o∈p.2,o∈ps.map (·.1))->F.length + r.length < 1000->
  ∃y3 y4 y6,forS (gT 2 (gCn (gN 3) (gCn (gN 4) gNl))) qJd (r.map rowD) [x0,x1, .s false (plO ps),x3,x4, .s false (.ow .lst F),x6]= .ok (.nx [x0,x1, .s false (plO ps),y3,y4, .s false (.ow .lst (F ++ r.map fun p=> .fz (bagD ps p))),y6])
 | [],F,x3,x4,x6,_,_=>⟨x3,x4,x6,by show _=Res.ok (Out.nx [_,_,_,_,_, .s false (.ow .lst (F ++ [])),_]);rw [bR];rfl⟩
 | p::r,F,x3,x4,x6,h,few=>by
   rw [aK] at few
   obtain⟨h1,h2⟩:=h p (aI ..)
   have st:=vYz (x0:=x0) (x1:=x1) (x6:=x6) (F:=F) h2 h1 (by omega)
   obtain⟨y3,y4,y6,hy⟩:=bag_loop (x0:=x0) (x1:=x1) (ps:=ps) r (F ++ [.fz (bagD ps p)]) (fI p.1) (.s false (.fz (lI p.2))) (.s false (.fz (upD (p.2.map (lk ps))))) (fun q hq=>h q (aE _ hq)) (by rw [aP];simp;omega)
   rw [cA] at hy
   exact⟨y3,y4,y6,jD rfl st hy⟩
theorem zQ5 (r:Rn):fzO (.ow .lst (r.map rowO))= .nd .lst (r.map rowD):=by
 show D.nd .lst (fzOs (r.map rowO))=_
 rw [xC,bH];rfl
theorem zVj {one:D} {r:Rn} (ht:xW [.s false (.fz one)]= .ok (.ow .lst (r.map rowO),[.un])) (nd:(r.map (·.1)).Nodup) (few:r.length < 900) (h:∀p∈r,p.2.length < 63/\∀o∈p.2,o∈r.map (·.1)):
  qZz [.s false (.fz one)]= .ok (.ow .lst (r.map fun p=> .fz (bagD (numP 0 r) p)),[.un]):=by
 obtain⟨y3,y4,h1⟩:=num_loop (x0:= .s false (.fz one)) (x1:= .s false (.fz (.nd .lst (r.map rowD)))) (x5:= .un) (x6:= .un) r [] .un .un (fun p _=>aN) nd (by simp;omega)
 obtain⟨z3,z4,z6,h2⟩:=bag_loop (x0:= .s false (.fz one)) (x1:= .s false (.fz (.nd .lst (r.map rowD)))) (ps:=numP 0 r) r [] y3 y4 .un (fun p hp=>by rw [vWk];exact h p hp) (by simp;omega)
 refine zS (o:= .rt (.ow .lst (r.map fun p=> .fz (bagD (numP 0 r) p))) [.s false (.fz one), .s false (.fz (.nd .lst (r.map rowD))), .s false (plO (numP 0 r)),z3,z4, .un,z6]) ?_ rfl
 refine qM (o:= .ow .lst (r.map rowO)) (e:=[.s false (.fz one), .un, .un, .un, .un, .un, .un]) (vG (hs:=[.d one]) (e:=[.s false (.fz one), .un, .un, .un, .un, .un, .un]) rfl (vU (t0:=([],[.s false (.fz one), .un, .un, .un, .un, .un, .un])) (t:=([],[.s false (.fz one), .un, .un, .un, .un, .un, .un])) (args:=[.s false (.fz one)]) (q:=(.ow .lst (r.map rowO),[.un])) (os:=[]) rfl rfl rfl ht rfl rfl rfl)) ?_
 refine qM (o:=plO []) (e:=[.s false (.fz one), .s false (.ow .lst (r.map rowO)), .un, .un, .un, .un, .un]) rfl ?_
 refine vH (jK (ds:=r.map rowD) (e:=[.s false (.fz one), .s false (.fz (.nd .lst (r.map rowD))), .s false (plO []), .un, .un, .un, .un]) (wX (d:= .nd .lst (r.map rowD)) (e:=[.s false (.fz one), .s false (.fz (.nd .lst (r.map rowD))), .s false (plO []), .un, .un, .un, .un]) ?_ rfl rfl) h1) ?_
 ·show Res.ok (fzO (.ow .lst (r.map rowO)),[Slot.s false (.fz one),Slot.s false (.fz (fzO (.ow .lst (r.map rowO)))),Slot.s false (plO []),Slot.un,Slot.un,Slot.un,Slot.un])=_
  rw [zQ5]
 refine qM (o:= .ow .lst []) (e:=[.s false (.fz one), .s false (.fz (.nd .lst (r.map rowD))), .s false (plO (numP 0 r)),y3,y4, .un, .un]) rfl ?_
 refine vH (jK (ds:=r.map rowD) (e:=[.s false (.fz one), .s false (.fz (.nd .lst (r.map rowD))), .s false (plO (numP 0 r)),y3,y4, .s false (.ow .lst []), .un]) (wX (d:= .nd .lst (r.map rowD)) (e:=[.s false (.fz one), .s false (.fz (.nd .lst (r.map rowD))), .s false (plO (numP 0 r)),y3,y4, .s false (.ow .lst []), .un]) rfl rfl rfl) h2) rfl
theorem qY0:∀l:List Int,allV (l.map .int)=some (l.map V.int)
 | []=>rfl
 | x::l=>by
   rw [aC,aC]
   unfold allV
   rw [qY0 l];rfl
theorem zJ6 (x:Int) (l:List Int):niD (.int x) (lI l)=some (.bl (decide (x∉l))):=by
 unfold niD inB
 show((allV (l.map D.int)).bind fun vs=>some (inV (V.int x) vs)).map _=_
 rw [qY0]
 have:inV (V.int x) (l.map V.int)=decide (x∈l):=by
  unfold inV
  rw [List.any_map]
  induction l with
  | nil=>rfl
  | cons y l ih=>
    rw [List.any_cons,ih]
    show((y == x) || _)=_
    by_cases e:x=y
    ·simp [e]
    ·simp [e,Ne.symm e]
 show some (D.bl (!(inV (V.int x) (l.map V.int))))=_
 rw [this]
 simp
theorem qKj {x:Int} {v:List Int} {b:Rn}:∀(a:Rn) (i:Nat),x∉a.map (·.1)->lk (numP i (a ++ (x,v)::b)) x=(i:Int) + a.length
 | [],i,_=>by
   show(((x,(i:Int))::numP (i + 1) b).lookup x).getD 0=_
   rw [bC]
   simp
 | p::a,i,h=>by
   have h1:x≠p.1:=fun z=>h (by rw [z];exact aI ..)
   have ih:=qKj (x:=x) (v:=v) (b:=b) a (i + 1) fun z=>h (aE _ z)
   show(((p.1,(i:Int))::numP (i + 1) (a ++ (x,v)::b)).lookup x).getD 0=_
   rw [bC,show(x == p.1)=false by simpa using h1]
   show lk (numP (i + 1) (a ++ (x,v)::b)) x=_
   rw [ih,aK]
   omega
theorem vQ2 {G:Gr} {r:Rn} (h:Run G r):Gd G->∀p∈r,p.2.Nodup/\p.1∉p.2/\∀o∈p.2,o∈ks G:=by
 induction h with
 | nil e=>intro _ p hp;exact absurd hp aN
 | @cons G s r hs _ ih=>
   intro g p hp
   rcases aB.mp hp with hp | hp
   ·subst hp
    exact⟨g.nn s,g.no s,fun o ho=>(g.key ho).1⟩
   ·obtain⟨g',k,_⟩:=qVl g s
    obtain⟨h1,h2,h3⟩:=ih g' p hp
    exact⟨h1,h2,fun o ho=>by have:=h3 o ho;rw [k] at this;exact(cL.mp this).1⟩
theorem vV9 {G:Gr} {r:Rn} (h:Run G r):Gd G->∀ {pre post:Rn} {s:Int} {os:List Int},r=pre ++ (s,os)::post->∀o∈os,o∈post.map (·.1):=by
 induction h with
 | nil e=>intro _ pre post s os h;cases pre <;> cases h
 | @cons G s r hs hr ih=>
   intro g pre post t os e o ho
   obtain⟨g',k,m⟩:=qVl g s
   cases pre with
   | nil=>
     cases e
     rw [(hr.slots g').mem_iff,k]
     exact cL.mpr ⟨(g.key ho).1,by simpa using fun z:o=s=>g.no s (z▸ho)⟩
   | cons p pre=>
     cases e
     exact ih g' rfl o ho
theorem zQg {l:List Int} (h:l.Nodup):(vZ l).length=l.length:=Nat.le_antisymm (yS l) (yF h fun a ha=>(qQl l a).mpr ha)
theorem zYk {f f' :D->D->Option D} {oa ob oc:Oe} {env:Ev} {h1 h2 h3:Hn} {x y w z:D} (e1:evO oa env= .ok (h1,env)) (e2:evO ob env= .ok (h2,env)) (e3:evO oc env= .ok (h3,env)) (c1:(h1.st || ob.isP)=true) (r1:rsv env h1=some x) (r2:rsv env h2=some y) (f1:f x y=some (.bl true)) (c2:(h2.st || oc.isP)=true) (r3:rsv env h3=some w) (f2:f' y w=some z):
  oV (oCh f f' oa ob oc) env= .ok (z,env):=by
 show(evO oa env).bind _=_
 rw [e1]
 show(evO ob env).bind _=_
 rw [e2]
 show cond (h1.st || ob.isP) _ _=_
 rw [c1]
 show(opt (rsv env h1)).bind _=_
 rw [r1]
 show(opt (rsv env h2)).bind _=_
 rw [r2]
 show(opt (f x y)).bind _=_
 rw [f1]
 show(evO oc env).bind _=_
 rw [e3]
 show cond (h2.st || oc.isP) _ _=_
 rw [c2]
 show(opt (rsv env h2)).bind _=_
 rw [r2]
 show(opt (rsv env h3)).bind _=_
 rw [r3]
 show(opt (f' y w)).bind _=_
 rw [f2];rfl
abbrev fD (r:Rn):D:= .nd .lst (r.map (bagD (numP 0 r)))
theorem qW6 {i:Nat} {oa ob:Oe} {env:Ev} {x:Int} {l:List Int} {ha hb:Hn} (e1:evO oa env= .ok (ha,env)) (e2:evO ob env= .ok (hb,env)) (c:(ha.st || ob.isP)=true) (r1:rsv env ha=some (.int x)) (r2:rsv env hb=some (lI l)):asB (o2 niD oa ob) env= .ok (decide (x∉l),env):=
 jO (d:= .bl (decide (x∉l))) (e:=env) (vM (h1:= .d (.bl (decide (x∉l)))) (zT e1 e2 c r1 r2 (zJ6 x l) rfl) rfl) rfl rfl
theorem qZs {oa ob:Oe} {env:Ev} {x y:Int} {ha hb:Hn} (e1:evO oa env= .ok (ha,env)) (e2:evO ob env= .ok (hb,env)) (c:(ha.st || ob.isP)=true) (r1:rsv env ha=some (.int x)) (r2:rsv env hb=some (.int y)):asB (o2 neD oa ob) env= .ok (decide (x≠y),env):=
 jO (d:= .bl (decide (x≠y))) (e:=env) (vM (h1:= .d (.bl (decide (x≠y)))) (zT e1 e2 c r1 r2 (ne_int x y) rfl) rfl) rfl rfl
theorem vYj {G:Gr} {r:Rn} (h:Run G r) (g:Gd G) (few:G.length < 60) {k:Nat} (hk:k < r.length):xX [.s false (.fz (fD r)),fI k]= .ok (.fz (.bl true),[.un, .un]):=by
 have sl:=h.slots g
 have nd:(r.map (·.1)).Nodup:=sl.nodup_iff.mpr g.kn
 obtain⟨pre,p,post,er,lp⟩:∃pre p post,r=pre ++ p::post/\pre.length=k:=⟨r.take k,r[k],r.drop (k + 1),by rw [←List.drop_eq_getElem_cons hk,List.take_append_drop],by rw [dX];omega⟩
 obtain⟨s,os⟩:=p
 have hp:(s,os)∈r:=by rw [er];simp
 obtain⟨o1,o2',o3⟩:=vQ2 h g _ hp
 have at_k:(r.map (bagD (numP 0 r)))[((k:Nat):Int).toNat]?=some (bagD (numP 0 r) (s,os)):=by
  rw [bP]
  have:r[((k:Nat):Int).toNat]?=some (s,os):=by rw [er,←lp];simp
  rw [this];rfl
 have lk1:(ks G).length=G.length:=by unfold ks;rw [aY]
 have lo:os.length<=G.length:=by rw [←lk1];exact yF o1 o3
 have bm:∀y,y∈aO (os ++ [s])↔y∈os\/y=s:=fun y=>by rw [(cI _).mem_iff,bL,aS]
 have bn:(aO (os ++ [s])).Nodup:=by
  rw [(cI _).nodup_iff,cF]
  exact⟨o1,cN _ _,fun a ha b hb z=>o2' (by rw [←aS.mp hb,←z];exact ha)⟩
 have bl:(aO (os ++ [s])).length=os.length + 1:=by rw [(cI _).length_eq,aP];rfl
 generalize hB:aO (os ++ [s])=B at *
 have bag:bagD (numP 0 r) (s,os)= .tup [.int s,lI B,upD (os.map (lk (numP 0 r)))]:=by rw [←hB];rfl
 generalize hu:upD (os.map (lk (numP 0 r)))=u at *
 generalize hF:fD r=F at *
 have asg:sAsg (oV (oIx (oN 0) (oN 1))) (gT 3 (gCn (gN 2) (gCn (gN 3) (gCn (gN 4) gNl)))) [.s false (.fz F),fI k, .un, .un, .un, .un]= .ok (.nx [.s false (.fz F),fI k,fI s, .s false (.fz (lI B)), .s false (.fz u), .un]):=by
  refine qKr (d:= .tup [.int s,lI B,u]) (e:=[.s false (.fz F),fI k, .un, .un, .un, .un]) (vM (h1:= .d (.tup [.int s,lI B,u])) (v5 (h1:= .d F) (h2:= .d (.int k)) (y:= .int k) (by rfl) (by rfl) rfl rfl ?_ rfl) rfl) rfl rfl
  rw [←hF]
  show(ixD _ _).map Hn.d=_
  rw [qZx (by omega) at_k,bag];rfl
 have t1:bOr (asB (o2 niD (oN 2) (oN 3))) (asB (o2 neD (oL lenD [(oN 3)]) (.v (svA lenSD [(oN 3)])))) [.s false (.fz F),fI k,fI s, .s false (.fz (lI B)), .s false (.fz u), .un]= .ok (false,[.s false (.fz F),fI k,fI s, .s false (.fz (lI B)), .s false (.fz u), .un]):=by
  refine qX7 (q:=false) (e:=[.s false (.fz F),fI k,fI s, .s false (.fz (lI B)), .s false (.fz u), .un]) ?_ ?_
  ·rw [qW6 (i:=0) (x:=s) (l:=B) (ha:= .d (.int s)) (hb:= .d (lI B)) (by rfl) (by rfl) rfl rfl rfl,decide_eq_false (fun z=>z ((bm s).mpr (.inr rfl)))]
  ·show asB _ _=_
   rw [qZs (x:=((B.map D.int).length:Nat)) (y:=((vZ B).length:Nat)) (ha:= .d (.int ((B.map D.int).length:Nat))) (hb:= .d (.int ((vZ B).length:Nat))) (by rfl) (jC (d:= .int ((vZ B).length:Nat)) (e:=[.s false (.fz F),fI k,fI s, .s false (.fz (lI B)), .s false (.fz u), .un]) (vJ6 (hs:=[.d (lI B)]) (xs:=[lI B]) (e:=[.s false (.fz F),fI k,fI s, .s false (.fz (lI B)), .s false (.fz u), .un]) (e1:=[.s false (.fz F),fI k,fI s, .s false (.fz (lI B)), .s false (.fz u), .un]) (by rfl) (by rfl) ?_ rfl) rfl) rfl rfl rfl,decide_eq_false (by rw [zQg bn,aY];exact fun z=>z rfl)]
   unfold lenSD
   rw [show wB [lI B]=some B from zC _]
   show cond (decide (B.length<=2000)) _ _=_
   rw [decide_eq_true (by omega)];rfl
 by_cases eo:os=[]
 ·subst eo
  have:u= .non:=by rw [←hu];rfl
  subst this
  refine zS (o:= .rt (.fz (.bl true)) [.s false (.fz F),fI k,fI s, .s false (.fz (lI B)), .s false (.fz .non), .un]) (vH asg (wY t1 (wQ (wY (q:=true) (e:=[.s false (.fz F),fI k,fI s, .s false (.fz (lI B)), .s false (.fz .non), .un]) rfl (vQ1 (o:= .fz (.bl true)) (e:=[.s false (.fz F),fI k,fI s, .s false (.fz (lI B)), .s false (.fz .non), .un]) ?_ rfl))))) rfl
  refine yB (vM (h1:= .d (.bl true)) (zT (h1:= .d (.int ((B.map D.int).length:Nat))) (h2:= .d (.int 1)) (by rfl) (by rfl) rfl rfl rfl ?_ rfl) rfl) rfl
  rw [aY,bl];rfl
 ·obtain⟨p2,t,ot,q2,ep,ht,hn,hb⟩:=h.hangs g er eo
  have later:=vV9 h g er
  have er2:r=(pre ++ (s,os)::p2) ++ (t,ot)::q2:=by rw [er,ep];simp
  have nt:t∉(pre ++ (s,os)::p2).map (·.1):=by
   rw [er2,bK,aC] at nd
   have:=(cF.mp nd).2.2
   exact fun z=>this t z t (aI ..) rfl
  have ix:lk (numP 0 r) t=((k + 1 + p2.length:Nat):Int):=by
   rw [er2,qKj _ 0 nt,aP,aK]
   omega
  have mn:(os.map (lk (numP 0 r))).min?=some ((k + 1 + p2.length:Nat):Int):=by
   rw [List.min?_eq_some_iff]
   refine⟨bG.mpr ⟨t,ht,ix⟩,fun b hb' =>?_⟩
   obtain⟨o,ho,rfl⟩:=bG.mp hb'
   have lo' :=later o ho
   obtain⟨⟨o',vo⟩,hq,e0⟩:=bG.mp lo'
   dsimp only at e0
   subst e0
   rw [ep] at hq
   rcases bL.mp hq with hq | hq
   ·exact absurd ho (hn _ hq)
   ·rcases aB.mp hq with hq | hq
    ·cases hq;rw [ix];exact Int.le_refl _
    ·obtain⟨a,b,eb⟩:=List.append_of_mem hq
     have er3:r=(pre ++ (s,os)::p2 ++ (t,ot)::a) ++ (o',vo)::b:=by rw [er2,eb];simp
     have no:o' ∉(pre ++ (s,os)::p2 ++ (t,ot)::a).map (·.1):=by
      rw [er3,bK,aC] at nd
      have:=(cF.mp nd).2.2
      exact fun z=>this o' z o' (aI ..) rfl
     have:lk (numP 0 r) o' =((pre ++ (s,os)::p2 ++ (t,ot)::a).length:Int):=by
      conv=>lhs;rw [er3]
      rw [qKj _ 0 no]
      omega
     rw [this,aP,aP,aK]
     omega
  have hu' :u= .int ((k + 1 + p2.length:Nat):Int):=by
   rw [←hu]
   unfold upD
   rw [mn]
  generalize hm:k + 1 + p2.length=m at *
  subst hu'
  have lr:m < r.length:=by rw [er2,aP,aP,aK,aK];omega
  have at_m:(r.map (bagD (numP 0 r)))[((m:Nat):Int).toNat]?=some (bagD (numP 0 r) (t,ot)):=by
   rw [bP]
   have:r[((m:Nat):Int).toNat]?=some (t,ot):=by
    conv=>lhs;rw [er2]
    rw [cQ (by rw [aP,aK];omega)]
    have:((m:Nat):Int).toNat - (pre ++ (s,os)::p2).length=0:=by rw [aP,aK];omega
    rw [this];rfl
   rw [this];rfl
  have bt:∀y,y∈aO (ot ++ [t])↔y∈ot\/y=t:=fun y=>by rw [(cI _).mem_iff,bL,aS]
  obtain⟨e',he,y,rfl⟩:=forS_ok (g:=gN 5) (body:=B_law_hangs_1) (σ:=Unit) (fun _ e=>∃y,e=[.s false (.fz F),fI k,fI s, .s false (.fz (lI B)),fI m,y]) (fun _ _=>()) (ds:=B.map .int) (s:=()) (env:=[.s false (.fz F),fI k,fI s, .s false (.fz (lI B)),fI m, .un]) (by
   rintro _ d _ hd ⟨y,rfl⟩
   obtain⟨x,hx,rfl⟩:=bG.mp hd
   refine⟨[.s false (.fz F),fI k,fI s, .s false (.fz (lI B)),fI m,fI x],[.s false (.fz F),fI k,fI s, .s false (.fz (lI B)),fI m,fI x],rfl,xV (q:=false) (e:=[.s false (.fz F),fI k,fI s, .s false (.fz (lI B)),fI m,fI x]) (zW2 (qZs (x:=x) (y:=s) (ha:= .d (.int x)) (hb:= .d (.int s)) (by rfl) (by rfl) rfl rfl rfl) ?_) rfl,_,rfl⟩
   by_cases es:x=s
   ·rw [decide_eq_false (fun z=>z es)];rfl
   ·rw [decide_eq_true es]
    show asB _ _=_
    rw [qW6 (i:=0) (x:=x) (l:=aO (ot ++ [t])) (ha:= .d (.int x)) (hb:= .d (lI (aO (ot ++ [t])))) (by rfl) (v5 (h1:= .d (bagD (numP 0 r) (t,ot))) (h2:= .d (.int 1)) (y:= .int 1) (v5 (h1:= .d F) (h2:= .d (.int m)) (y:= .int m) (by rfl) (by rfl) rfl rfl (by rw [←hF];show(ixD _ _).map Hn.d=_;rw [qZx (by omega) at_m];rfl) rfl) (by rfl) rfl rfl rfl rfl) rfl rfl rfl]
    have:x∈aO (ot ++ [t]):=by
     have ho:=((bm x).mp hx).resolve_right es
     rw [bt]
     by_cases et:x=t
     ·exact .inr et
     ·exact .inl (hb x ho et)
    rw [decide_eq_false (fun z=>z this)]) ⟨_,rfl⟩
  refine zS (o:= .rt (.fz (.bl true)) [.s false (.fz F),fI k,fI s, .s false (.fz (lI B)),fI m,y]) (vH asg (wY t1 (wQ (wY (q:=false) (e:=[.s false (.fz F),fI k,fI s, .s false (.fz (lI B)),fI m, .un]) rfl (wQ (wY (q:=false) (e:=[.s false (.fz F),fI k,fI s, .s false (.fz (lI B)),fI m, .un]) ?_ (wQ (vH (jK (ds:=B.map .int) (e:=[.s false (.fz F),fI k,fI s, .s false (.fz (lI B)),fI m, .un]) (wX (d:=lI B) (e:=[.s false (.fz F),fI k,fI s, .s false (.fz (lI B)),fI m, .un]) rfl rfl rfl) he) rfl)))))))) rfl
  refine not_of (q:=true) (e:=[.s false (.fz F),fI k,fI s, .s false (.fz (lI B)),fI m, .un]) (jO (d:= .bl true) (e:=[.s false (.fz F),fI k,fI s, .s false (.fz (lI B)),fI m, .un]) (zYk (h1:= .d (.int k)) (h2:= .d (.int m)) (h3:= .d (.int ((r.map (bagD (numP 0 r))).length:Nat))) (x:= .int k) (y:= .int m) (w:= .int ((r.map (bagD (numP 0 r))).length:Nat)) (by rfl) (by rfl) (by rw [←hF];rfl) rfl rfl rfl ?_ rfl rfl ?_) rfl rfl) rfl
  ·show some (D.bl (decide ((k:Int) < (m:Int))))=_
   rw [decide_eq_true (by omega)]
  ·show some (D.bl (decide ((m:Int) < (((r.map (bagD (numP 0 r))).length:Nat):Int))))=_
   rw [decide_eq_true (by rw [aY];omega)]
theorem qXd:∀l:List Int,dtsOf (l.map .int)=some (l.map Dt.int)
 | []=>rfl
 | x::l=>by
   rw [aC,aC]
   unfold dtsOf
   rw [qXd l];rfl
theorem qYx:∀l:List Int,Dt.hgts (l.map Dt.int)=0
 | []=>by simp [Dt.hgts]
 | x::l=>by simp [Dt.hgts,Dt.hgt,qYx l]
theorem qWe (l m:List Int):eqB (lI l) (lI m)=some (decide (l=m)):=by
 have b:∀l m:List Int,Dt.beqs (l.map Dt.int) (m.map Dt.int)=decide (l=m):=fun l=>by
  induction l with
  | nil=>intro m;cases m <;> simp [Dt.beqs]
  | cons x l ih=>
    intro m
    cases m with
    | nil=>simp [Dt.beqs]
    | cons y m=>
      have h:Dt.beqs (Dt.int x::l.map Dt.int) (Dt.int y::m.map Dt.int)=(Dt.beq (.int x) (.int y) && Dt.beqs (l.map Dt.int) (m.map Dt.int)):=by simp [Dt.beqs]
      show Dt.beqs (Dt.int x::l.map Dt.int) (Dt.int y::m.map Dt.int)=_
      rw [h,ih,show Dt.beq (.int x) (.int y)=(x == y) by simp [Dt.beq]]
      by_cases e:x=y <;> simp [e]
 unfold eqB
 show((dtsOf (l.map D.int)).bind fun a=>(dtsOf (m.map D.int)).bind fun b=>if Dt.hgts a<=30 then some (Dt.beqs a b) else none)=_
 rw [qXd,qXd]
 show(if Dt.hgts (l.map Dt.int)<=30 then some (Dt.beqs (l.map Dt.int) (m.map Dt.int)) else none)=_
 rw [if_pos (by rw [qYx];omega),b]
theorem vYn (l m:List Int):eqD (lI l) (lI m)=some (.bl (decide (l=m))):=by
 unfold eqD
 rw [qWe];rfl
theorem fil_loop {s:Int} {B:List Int} {u0:D}:∀(l:List Int) (u:Slot),∃u',jM (gN 0) (asB (o2 niD (oN 0) (oIx (oN 1) (oC (.int 1))))) (oV (oN 0)) (l.map .int) [u, .s false (.fz (.tup [.int s,lI B,u0]))]= .ok ((l.filter fun x=>decide (x∉B)).map .int,[u', .s false (.fz (.tup [.int s,lI B,u0]))])
 | [],u=>⟨u,rfl⟩
 | x::l,u=>by
   obtain⟨u',h⟩:=fil_loop (s:=s) (B:=B) (u0:=u0) l (fI x)
   refine⟨u',?_⟩
   rw [aC,jM,dY]
   show(asB _ [fI x, .s false (.fz (.tup [.int s,lI B,u0]))]).ne.bind _=_
   rw [qW6 (i:=0) (x:=x) (l:=B) (ha:= .d (.int x)) (hb:= .d (lI B)) (by rfl) (by rfl) rfl rfl rfl]
   cases decide (x∉B) with
   | true=>
     show(jM _ _ _ (l.map .int) [fI x, .s false (.fz (.tup [.int s,lI B,u0]))]).bind _=_
     rw [h];rfl
   | false=>exact h
theorem vZ1 {C:List Int} {F:Slot} {s:Int} {B:List Int} {u0:D} (few:C.length < 1000):wP [.s false (.fz (lI C)),F, .s false (.fz (.tup [.int s,lI B,u0]))]=
  cond (decide (C.filter (fun x=>decide (x∉B))=[])) (.ok (.rt (.fz (.bl true)) [.s false (.fz (lI C)),F, .s false (.fz (.tup [.int s,lI B,u0]))])) (.ok (.nx [.s false (.fz (lI C)),F, .s false (.fz (.tup [.int s,lI B,u0]))])):=by
 obtain⟨u,hu⟩:=fil_loop (s:=s) (B:=B) (u0:=u0) C .un
 refine xV (q:=decide (C.filter (fun x=>decide (x∉B))=[])) (e:=[.s false (.fz (lI C)),F, .s false (.fz (.tup [.int s,lI B,u0]))]) (jO (d:= .bl (decide (C.filter (fun x=>decide (x∉B))=[]))) (e:=[.s false (.fz (lI C)),F, .s false (.fz (.tup [.int s,lI B,u0]))]) (vM (h1:= .d (.bl (decide (C.filter (fun x=>decide (x∉B))=[])))) (zT (h1:= .d (lI (C.filter fun x=>decide (x∉B)))) (h2:= .d (lI [])) (jC (xF (ds:=C.map .int) (vs:=(C.filter fun x=>decide (x∉B)).map .int) (e:=[.s false (.fz (lI C)),F, .s false (.fz (.tup [.int s,lI B,u0]))]) (q:=[u, .s false (.fz (.tup [.int s,lI B,u0]))]) (wX (d:=lI C) (e:=[.s false (.fz (lI C)),F, .s false (.fz (.tup [.int s,lI B,u0]))]) rfl rfl rfl) ?_ hu rfl) rfl) (by rfl) rfl rfl rfl (vYn _ []) rfl) rfl) rfl rfl) ?_
 ·show(true && decide ((C.map D.int).length<=lim))=true
  rw [decide_eq_true (by rw [aY];show _<=1000000;omega)];rfl
 ·cases decide (C.filter (fun x=>decide (x∉B))=[]) <;> rfl
theorem held_loop {C:List Int} {F:Slot} {ps:Ps} (few:C.length < 1000):∀(rs:Rn) (x2:Slot),(∃p∈rs,∀b∈C,b∈aO (p.2 ++ [p.1]))->∃y,forS (gN 2) wP (rs.map (bagD ps)) [.s false (.fz (lI C)),F,x2]= .ok (.rt (.fz (.bl true)) [.s false (.fz (lI C)),F,y])
 | [],x2,⟨p,hp,_⟩=>absurd hp aN
 | q::rs,x2,⟨p,hp,hc⟩=>by
   have st:=vZ1 (C:=C) (F:=F) (s:=q.1) (B:=aO (q.2 ++ [q.1])) (u0:=upD (q.2.map (lk ps))) few
   by_cases e:C.filter (fun x=>decide (x∉aO (q.2 ++ [q.1])))=[]
   ·rw [decide_eq_true e] at st
    exact⟨_,zQ9 rfl st rfl⟩
   ·rw [decide_eq_false e] at st
    have hp' :p∈rs:=by
     rcases aB.mp hp with z | z
     ·refine absurd ?_ e
      rw [←z,List.filter_eq_nil_iff]
      intro b hb
      simpa using hc b hb
     ·exact z
    obtain⟨y,hy⟩:=held_loop few rs (.s false (.fz (bagD ps q))) ⟨p,hp',hc⟩
    exact⟨y,jD rfl st hy⟩
theorem zQz {G:Gr} {r:Rn} (h:Run G r) (g:Gd G) {C C' :List Int} (c:Clq G C) (ne:C≠ []) (hC:∀y,y∈C' ↔y∈C) (few:C'.length < 1000):wJ [.s false (.fz (lI C')), .s false (.fz (fD r))]= .ok (.fz (.bl true),[.un, .un]):=by
 obtain⟨pre,s,os,post,er,hs,_,hb⟩:=h.held g c ne
 obtain⟨y,hy⟩:=held_loop (C:=C') (F:= .s false (.fz (fD r))) (ps:=numP 0 r) few r .un ⟨(s,os),by rw [er];simp,fun b hb' =>by
  rw [(cI _).mem_iff,bL,aS]
  by_cases e:b=s
  ·exact .inr e
  ·exact .inl (hb b ((hC b).mp hb') e)⟩
 exact zS (zZv (jK (ds:=r.map (bagD (numP 0 r))) (e:=[.s false (.fz (lI C')), .s false (.fz (fD r)), .un]) (wX (d:=fD r) (e:=[.s false (.fz (lI C')), .s false (.fz (fD r)), .un]) rfl rfl rfl) hy) rfl) rfl
theorem vW6 (l:List Int):upD l= .non\/∃m,upD l= .int m:=by
 unfold upD
 cases l.min? with
 | none=>exact .inl rfl
 | some m=>exact .inr ⟨m,rfl⟩
theorem zZ0 {F N K y:Slot} {s:Int} {B:List Int} {u:D}:bOr (bNot (asB (o1 (isiD "tuple") (oN 3)))) (bOr (asB (o2 neD (oL lenD [(oN 3)]) (oC (.int 3)))) (bOr (bNot (asB (.v (fzS (vQ jH [(.v (oV (oIx (oN 3) (oC (.int 0)))))]))))) (bNot (asB (o1 (isiD "list") (oIx (oN 3) (oC (.int 1)))))))) [F,N,K, .s false (.fz (.tup [.int s,lI B,u])),y]= .ok (false,[F,N,K, .s false (.fz (.tup [.int s,lI B,u])),y]):=by rfl
theorem zZz {F N K y:Slot} {s:Int} {B:List Int} {u:D} (hu:u= .non\/∃m,u= .int m):bAnd (asB (o2 notN (oIx (oN 3) (oC (.int 2))) (oC .non))) (bNot (asB (.v (fzS (vQ jH [(.v (oV (oIx (oN 3) (oC (.int 2)))))]))))) [F,N,K, .s false (.fz (.tup [.int s,lI B,u])),y]= .ok (false,[F,N,K, .s false (.fz (.tup [.int s,lI B,u])),y]):=by
 rcases hu with rfl | ⟨m,rfl⟩ <;> rfl
theorem zZy {F N K:Slot} {R:D} {x:Int}:B_law_rows_are_1 [F,N,K, .s false (.fz R),fI x]= .ok (.nx [F,N,K, .s false (.fz R),fI x]):=rfl
theorem row_body {F N y3 y4:Slot} {Fd:D} {k s:Int} {B:List Int} {u:D} (hF:F= .s false (.fz Fd)) (hu:u= .non\/∃m,u= .int m) (hx:ixD Fd (.int k)=some (.tup [.int s,lI B,u])):∃z,B_law_rows_are_2 [F,N,fI k,y3,y4]= .ok (.nx [F,N,fI k, .s false (.fz (.tup [.int s,lI B,u])),z]):=by
 subst hF
 obtain⟨e2,h2,z4,rfl⟩:=forS_ok (g:=gN 4) (body:=B_law_rows_are_1) (σ:=Unit) (fun _ e=>∃z,e=[.s false (.fz Fd),N,fI k, .s false (.fz (.tup [.int s,lI B,u])),z]) (fun _ _=>()) (ds:=B.map .int) (s:=()) (env:=[.s false (.fz Fd),N,fI k, .s false (.fz (.tup [.int s,lI B,u])),y4]) (by
  rintro _ d _ hd ⟨z,rfl⟩
  obtain⟨x,_,rfl⟩:=bG.mp hd
  exact⟨_,_,rfl,zZy,_,rfl⟩) ⟨_,rfl⟩
 refine⟨z4,qM (o:= .fz (.tup [.int s,lI B,u])) (e:=[.s false (.fz Fd),N,fI k,y3,y4]) (yB (vM (h1:= .d (.tup [.int s,lI B,u])) (v5 (h1:= .d Fd) (h2:= .d (.int k)) (y:= .int k) (by rfl) (by rfl) rfl rfl (by show(ixD _ _).map Hn.d=_;rw [hx];rfl) rfl) rfl) rfl) ?_⟩
 exact wY (q:=false) (e:=[.s false (.fz Fd),N,fI k, .s false (.fz (.tup [.int s,lI B,u])),y4]) zZ0 (wQ (wY (q:=false) (e:=[.s false (.fz Fd),N,fI k, .s false (.fz (.tup [.int s,lI B,u])),y4]) (zZz hu) (wQ (jK (ds:=B.map .int) (e:=[.s false (.fz Fd),N,fI k, .s false (.fz (.tup [.int s,lI B,u])),y4]) (wX (d:=lI B) (e:=[.s false (.fz Fd),N,fI k, .s false (.fz (.tup [.int s,lI B,u])),y4]) rfl rfl rfl) h2))))
theorem zVw {n:Nat} (h:n < 1000):rg1 [.int (n:Nat)]=some (rngD 0 n):=by
 show cond (in62 ((n:Nat):Int)) (some (rngD 0 ((n:Nat):Int).toNat)) none=_
 rw [show in62 ((n:Nat):Int)=true by unfold in62;rw [decide_eq_true (by omega),decide_eq_true (by omega)];rfl,show((n:Nat):Int).toNat=n by omega];rfl
theorem rows_go {F N:Slot} {Fd:D} {n:Nat} (hS:F= .s false (.fz Fd)) (hF:∀k,k < n->∃s B u,(u= .non\/∃m,u= .int m)/\ixD Fd (.int (k:Nat))=some (.tup [.int s,lI B,u])):∃y2 y3 y4,forS (gN 2) B_law_rows_are_2 (rngD 0 n) [F,N, .un, .un, .un]= .ok (.nx [F,N,y2,y3,y4]):=by
 obtain⟨e',he,y2,y3,y4,rfl⟩:=forS_ok (g:=gN 2) (body:=B_law_rows_are_2) (σ:=Unit) (fun _ e=>∃y2 y3 y4,e=[F,N,y2,y3,y4]) (fun _ _=>()) (ds:=rngD 0 n) (s:=()) (env:=[F,N, .un, .un, .un]) (by
  rintro _ d _ hd ⟨y2,y3,y4,rfl⟩
  unfold rngD at hd
  obtain⟨k,hk,rfl⟩:=bG.mp hd
  rw [List.mem_range] at hk
  obtain⟨s,B,u,hu,hx⟩:=hF k hk
  rw [show(0:Int) + (k:Int)=(k:Int) by omega]
  obtain⟨z,hz⟩:=row_body (N:=N) (y3:=y3) (y4:=y4) hS hu hx
  exact⟨_,_,rfl,hz,_,_,_,rfl⟩) ⟨_,_,_,rfl⟩
 exact⟨y2,y3,y4,he⟩
theorem zW1 (r:Rn) (k:Nat) (hk:k < r.length):(r.map (bagD (numP 0 r)))[((k:Nat):Int).toNat]?=some (.tup [.int r[k].1,lI (aO (r[k].2 ++ [r[k].1])),upD (r[k].2.map (lk (numP 0 r)))]):=by
  rw [bP,show((k:Nat):Int).toNat=k by omega,aF hk];rfl
theorem vVw (r:Rn):lenD [fD r]=some (.int (r.length:Nat)):=by
  show some (D.int ((r.map (bagD (numP 0 r))).length:Nat))=_
  rw [aY]
theorem vXm {F:D} {n:Int} {ds:List D} {y2 y3 y4:Slot} (he:forS (gN 2) B_law_rows_are_2 ds [.s false (.fz F),fI n, .un, .un, .un]= .ok (.nx [.s false (.fz F),fI n,y2,y3,y4])) (hl:lenD [F]=some (.int n)) (hi:isiD "list" F=some (.bl true)) (h62:rg1 [.int n]=some ds):zE [.s false (.fz F),fI n]= .ok (.fz (.bl true),[.un, .un]):=by
 have hne:asB (o2 neD (oL lenD [(oN 0)]) (oN 1)) [.s false (.fz F),fI n, .un, .un, .un]= .ok (false,[.s false (.fz F),fI n, .un, .un, .un]):=by
  rw [qZs (x:=n) (y:=n) (ha:= .d (.int n)) (hb:= .d (.int n)) (qQq (hs:=[.d F]) (xs:=[F]) (by rfl) rfl hl rfl) (by rfl) rfl rfl rfl,decide_eq_false (fun z=>z rfl)]
 exact zS (o:= .rt (.fz (.bl true)) [.s false (.fz F),fI n,y2,y3,y4]) (wY (q:=false) (e:=[.s false (.fz F),fI n, .un, .un, .un]) (qX7 (q:=false) (e:=[.s false (.fz F),fI n, .un, .un, .un]) (not_of (q:=true) (e:=[.s false (.fz F),fI n, .un, .un, .un]) (jO (d:= .bl true) (e:=[.s false (.fz F),fI n, .un, .un, .un]) (vM (h1:= .d (.bl true)) (zWr (h1:= .d F) (by rfl) rfl hi rfl) rfl) rfl rfl) rfl) hne) (wQ (vH (jK (ds:=ds) (e:=[.s false (.fz F),fI n, .un, .un, .un]) (vQl (xs:=[.int n]) (e:=[.s false (.fz F),fI n, .un, .un, .un]) (by rfl) h62 rfl) he) rfl))) rfl
theorem vKf (r:Rn) (few:r.length < 1000):zE [.s false (.fz (fD r)),fI (r.length:Nat)]= .ok (.fz (.bl true),[.un, .un]):=by
 obtain⟨y2,y3,y4,he⟩:=rows_go (N:=fI (r.length:Nat)) (n:=r.length) (F:= .s false (.fz (fD r))) rfl fun k hk=>⟨r[k].1,aO (r[k].2 ++ [r[k].1]),upD (r[k].2.map (lk (numP 0 r))),vW6 _,qZx (by omega) (zW1 r k hk)⟩
 exact vXm he (vVw r) rfl (zVw few)
def slD (a:Int):D:= .tup [.str "slot", .int a]
theorem eq_int (a b:Int):eqD (.int a) (.int b)=some (.bl (decide (a=b))):=by
 unfold eqD eqB
 show some (D.bl (Dt.beq (.int a) (.int b)))=_
 unfold Dt.beq
 by_cases h:a=b <;> simp [h]
theorem vWv {oa ob:Oe} {env:Ev} {x y:Int} {ha hb:Hn} (e1:evO oa env= .ok (ha,env)) (e2:evO ob env= .ok (hb,env)) (c:(ha.st || ob.isP)=true) (r1:rsv env ha=some (.int x)) (r2:rsv env hb=some (.int y)):asB (o2 eqD oa ob) env= .ok (decide (x=y),env):=
 jO (d:= .bl (decide (x=y))) (e:=env) (vM (h1:= .d (.bl (decide (x=y)))) (zT e1 e2 c r1 r2 (eq_int x y) rfl) rfl) rfl rfl
theorem md {x y:Int} (h:0 < y):i2g (fun _ j=>0 < j) (fun i j=>i % j) (.int x) (.int y)=some (.int (x % y)):=by
 show(if 0 < y then some (D.int (x % y)) else none)=_
 rw [if_pos h]
theorem qYc {oa ob:Oe} {env:Ev} {x y:Int} (e1:evO oa env= .ok (.d (.int x),env)) (e2:evO ob env= .ok (.d (.int y),env)) (h:0 < y):evO (oMod oa ob) env= .ok (.d (.int (x % y)),env):=zT e1 e2 rfl rfl rfl (md h) rfl
theorem mem_at {sp:List Int} {i:Int} (h0:0<=i) (h:i < sp.length):∃a∈sp,ixD (lI sp) (.int i)=some (.int a):=by
 have hl:i.toNat < sp.length:=by omega
 exact⟨sp[i.toNat],eY hl,qZx h0 (by rw [bP,aF hl];rfl)⟩
theorem qVn (sp:List Int):lenD [lI sp]=some (.int (sp.length:Nat)):=by
 show some (D.int ((sp.map D.int).length:Nat))=_
 rw [aY]
theorem pk_back {sp:List Int} {M x3 x4:Slot} {X:Oe} {x:Int} (ne:sp≠ []) (hX:evO X [M, .s false (.fz (lI sp)),fI ((sp.length:Nat) - 1),x3,x4]= .ok (.d (.int x),[M, .s false (.fz (lI sp)),fI ((sp.length:Nat) - 1),x3,x4])):
  ∃a∈sp,oV (oIx (oN 1) (oSub (oN 2) (oMod X (oL min2D [(oC (.int 4)),(oL lenD [(oN 1)])])))) [M, .s false (.fz (lI sp)),fI ((sp.length:Nat) - 1),x3,x4]= .ok (.int a,[M, .s false (.fz (lI sp)),fI ((sp.length:Nat) - 1),x3,x4]):=by
 have hn:0 < sp.length:=List.length_pos_iff.mpr ne
 generalize hmn:(if((sp.length:Nat):Int) < 4 then((sp.length:Nat):Int) else 4)=mn
 have h1:0 < mn/\mn<=(sp.length:Nat):=by rw [←hmn];split <;> omega
 have b1:=Int.emod_nonneg x (show mn≠0 by omega)
 have b2:=Int.emod_lt_of_pos x h1.1
 obtain⟨a,ha,e⟩:=mem_at (sp:=sp) (i:=(sp.length:Nat) - 1 - x % mn) (by omega) (by omega)
 refine⟨a,ha,vM (h1:= .d (.int a)) (v5 (h1:= .d (lI sp)) (h2:= .d (.int ((sp.length:Nat) - 1 - x % mn))) (y:= .int ((sp.length:Nat) - 1 - x % mn)) (e:=[M, .s false (.fz (lI sp)),fI ((sp.length:Nat) - 1),x3,x4]) (by rfl) (zT (h1:= .d (.int ((sp.length:Nat) - 1))) (e:=[M, .s false (.fz (lI sp)),fI ((sp.length:Nat) - 1),x3,x4]) (by rfl) (qYc hX (qQq (hs:=[.d (.int 4), .d (.int (sp.length:Nat))]) (xs:=[.int 4, .int (sp.length:Nat)]) (zY (h1:= .d (.int 4)) (by rfl) rfl (zY (qQq (hs:=[.d (lI sp)]) (xs:=[lI sp]) (by rfl) rfl (qVn sp) rfl) rfl rfl rfl) rfl) rfl (by rw [←hmn];rfl) rfl) h1.1) rfl rfl rfl rfl rfl) rfl rfl (by show(ixD _ _).map Hn.d=_;rw [e];rfl) rfl) rfl⟩
theorem qWq {env:Ev} {o:Oe} {a:Int} (h:oV o env= .ok (.int a,env)):owS (vX [(oV (oC (.str "slot"))),oV o]) env= .ok (.fz (slD a),env):=
 yB (qKd (ds:=[.str "slot", .int a]) (e:=env) (v8 (d:= .str "slot") (e:=env) (by rfl) (v8 h rfl rfl) rfl) rfl rfl) rfl
theorem picked_ok {m:Int} {sp:List Int} (ne:sp≠ []):∃a∈sp,∃b∈sp,zN [fI m, .s false (.fz (lI sp))]= .ok (.fz (.tup [slD a,slD b]),[.un, .un]):=by
 have hn:0 < sp.length:=List.length_pos_iff.mpr ne
 obtain⟨a,ha,ea⟩:=pk_back (sp:=sp) (M:=fI m) (x3:= .un) (x4:= .un) (X:=oN 0) (x:=m) ne (by rfl)
 obtain⟨b,hb,eb⟩:=pk_back (sp:=sp) (M:=fI m) (x3:= .s false (.fz (slD a))) (x4:= .un) (X:=oDiv (oN 0) (oC (.int 7))) (x:=m / 7) ne (by rfl)
 obtain⟨c,hc,ec⟩:=mem_at (sp:=sp) (i:=m / 93 % (sp.length:Nat)) (Int.emod_nonneg _ (by omega)) (Int.emod_lt_of_pos _ (by omega))
 have tst:asB (o2 eqD (oMod (oDiv (oN 0) (oC (.int 31))) (oC (.int 3))) (oC (.int 0))) [fI m, .s false (.fz (lI sp)),fI ((sp.length:Nat) - 1), .s false (.fz (slD a)), .s false (.fz (slD b))]= .ok (decide (m / 31 % 3=0),[fI m, .s false (.fz (lI sp)),fI ((sp.length:Nat) - 1), .s false (.fz (slD a)), .s false (.fz (slD b))]):=vWv (ha:= .d (.int (m / 31 % 3))) (hb:= .d (.int 0)) (by rfl) (by rfl) rfl rfl rfl
 have go:∀z,z∈sp->sIf (asB (o2 eqD (oMod (oDiv (oN 0) (oC (.int 31))) (oC (.int 3))) (oC (.int 0)))) (sSet 4 (owS (vX [(oV (oC (.str "slot"))),(oV (oIx (oN 1) (oMod (oDiv (oN 0) (oC (.int 93))) (oL lenD [(oN 1)]))))]))) sNil [fI m, .s false (.fz (lI sp)),fI ((sp.length:Nat) - 1), .s false (.fz (slD a)), .s false (.fz (slD b))]= .ok (.nx [fI m, .s false (.fz (lI sp)),fI ((sp.length:Nat) - 1), .s false (.fz (slD a)), .s false (.fz (slD z))])->
   ∃a∈sp,∃b∈sp,zN [fI m, .s false (.fz (lI sp))]= .ok (.fz (.tup [slD a,slD b]),[.un, .un]):=fun z hz h=>
  ⟨a,ha,z,hz,zS (o:= .rt (.fz (.tup [slD a,slD z])) [fI m, .s false (.fz (lI sp)),fI ((sp.length:Nat) - 1), .s false (.fz (slD a)), .s false (.fz (slD z))]) (qM (o:= .fz (.int ((sp.length:Nat) - 1))) (e:=[fI m, .s false (.fz (lI sp)), .un, .un, .un]) (yB (vM (h1:= .d (.int ((sp.length:Nat) - 1))) (zT (h1:= .d (.int (sp.length:Nat))) (h2:= .d (.int 1)) (qQq (hs:=[.d (lI sp)]) (xs:=[lI sp]) (by rfl) rfl (qVn sp) rfl) (by rfl) rfl rfl rfl rfl rfl) rfl) rfl)
    (qM (qWq ea) (qM (qWq eb) (vH h rfl)))) rfl⟩
 by_cases q:m / 31 % 3=0
 ·rw [decide_eq_true q] at tst
  exact go c hc (xV tst (vY7 (qWq (vM (h1:= .d (.int c)) (v5 (h1:= .d (lI sp)) (h2:= .d (.int (m / 93 % (sp.length:Nat)))) (y:= .int (m / 93 % (sp.length:Nat))) (by rfl) (qYc (x:=m / 93) (by rfl) (qQq (hs:=[.d (lI sp)]) (xs:=[lI sp]) (by rfl) rfl (qVn sp) rfl) (by omega)) rfl rfl (by show(ixD _ _).map Hn.d=_;rw [ec];rfl) rfl) rfl)) rfl))
 ·rw [decide_eq_false q] at tst
  exact go b hb (xV tst rfl)
inductive Sh where
 | op (a b:Int) | ite (a b c:Int) | bnd (f a b:Int) | num (k:Int) | slot (a:Int)
def shD:Sh->D
 | .op a b=> .tup [.str "op", .str "+",slD a,slD b]
 | .ite a b c=> .tup [.str "if",slD a,slD b,slD c]
 | .bnd f a b=> .tup [.str "bind", .int f,slD a, .tup [.str "op", .str "*",slD f,slD b]]
 | .num k=> .tup [.str "num", .int k]
 | .slot a=>slD a
def reads:Sh->List Int
 | .op a b=> [a,b]
 | .ite a b c=> [a,b,c]
 | .bnd _ a b=> [a,b]
 | .num _=> []
 | .slot a=> [a]
def shOk:Sh->Prop
 | .bnd f _ b=>b≠f
 | _=>True
theorem zW0 {oa ob:Oe} {env e e1:Ev} {xs ys:List D} (h1:evO oa env= .ok (.d (.nd .lst xs),e)) (h2:evO ob e= .ok (.d (.nd .lst ys),e1)) (c:xs.length + ys.length<=1000000):eCat oa ob env= .ok (.ow .lst ((xs ++ ys).map .fz),e1):=by
 show(evO oa env).bind _=_
 rw [h1]
 show(evO ob e).bind _=_
 rw [h2]
 show cond (decide (xs.length + ys.length<=lim)) (Res.ok (O.ow .lst ((xs ++ ys).map O.fz),e1)) Res.no=_
 rw [decide_eq_true c];rfl
theorem bnd_comp {f b:Int} {T:Slot} (hT:∀x,evO (oIx (oN 1) (oC (.int 1))) [fI x,T]= .ok (.d (.int f),[fI x,T])) (h:b≠f) {u:Slot}:∃u',jM (gN 0) (asB (o2 neD (oN 0) (oIx (oN 1) (oC (.int 1))))) (oV (oN 0)) [.int f, .int b] [u,T]= .ok ([.int b],[u',T]):=by
 refine⟨fI b,?_⟩
 have t:∀x,asB (o2 neD (oN 0) (oIx (oN 1) (oC (.int 1)))) [fI x,T]= .ok (decide (x≠f),[fI x,T]):=fun x=>qZs (x:=x) (y:=f) (ha:= .d (.int x)) (hb:= .d (.int f)) (by rfl) (hT x) rfl rfl rfl
 rw [jM,show gN 0 (.int f) [u,T]=some [fI f,T] from rfl,show opt (some [fI f,T])= .ok [fI f,T] from rfl,wE,t,decide_eq_false (fun z=>z rfl),show Res.ne (Res.ok (false,[fI f,T]))= .ok (false,[fI f,T]) from rfl,wE]
 dsimp only [cond]
 rw [jM,show gN 0 (.int b) [fI f,T]=some [fI b,T] from rfl,show opt (some [fI b,T])= .ok [fI b,T] from rfl,wE,t,decide_eq_true h,show Res.ne (Res.ok (true,[fI b,T]))= .ok (true,[fI b,T]) from rfl,wE]
 rfl
theorem zXf {a b:Int}:qK 8 [.s false (.fz (shD (.op a b)))]= .ok (.ow .lst [.fz (.int a), .fz (.int b)],[.un]):=by kernel_rfl
theorem zZ2 {a b c:Int}:qK 8 [.s false (.fz (shD (.ite a b c)))]= .ok (.ow .lst [.fz (.int a), .fz (.int b), .fz (.int c)],[.un]):=by kernel_rfl
theorem zZ1 {a:Int}:qK 8 [.s false (.fz (shD (.num a)))]= .ok (.ow .lst [],[.un]):=by kernel_rfl
theorem vKh {a:Int}:qK 8 [.s false (.fz (shD (.slot a)))]= .ok (.ow .lst [.fz (.int a)],[.un]):=by kernel_rfl
abbrev E1 (f a b:Int):Ev:=[.s false (.fz (shD (.bnd f a b))), .s false (.fz (.str "bind")), .un, .un]
theorem q1 {f a b:Int}:owS (oV (oIx (oN 0) (oC (.int 0)))) [.s false (.fz (shD (.bnd f a b))), .un, .un, .un]= .ok (.fz (.str "bind"),[.s false (.fz (shD (.bnd f a b))), .un, .un, .un]):=by kernel_rfl
theorem q2 {f a b:Int}:asB (o2 eqD (oN 1) (oC (.str "slot"))) (E1 f a b)= .ok (false,E1 f a b):=by kernel_rfl
theorem q3 {f a b:Int}:asB (o2 eqD (oN 1) (oC (.str "bind"))) (E1 f a b)= .ok (true,E1 f a b):=by kernel_rfl
theorem q4 {f a b:Int}:vQ (qK 7) [(.v (oV (oIx (oN 0) (oC (.int 2)))))] (E1 f a b)= .ok (.ow .lst [.fz (.int a)],E1 f a b):=by kernel_rfl
theorem q5 {f a b:Int}:vQ (qK 7) [(.v (oV (oIx (oN 0) (oC (.int 3)))))] (E1 f a b)= .ok (.ow .lst [.fz (.int f), .fz (.int b)],E1 f a b):=by kernel_rfl
theorem q6 {f a b:Int} (h:b≠f):fzS (compS 2 [(1,0)] [0] (iV (fzS (vQ (qK 7) [(.v (oV (oIx (oN 0) (oC (.int 3)))))]))) (gN 0) (asB (o2 neD (oN 0) (oIx (oN 1) (oC (.int 1))))) (oV (oN 0))) (E1 f a b)= .ok (.nd .lst [.int b],E1 f a b):=by
 obtain⟨u,hu⟩:=bnd_comp (f:=f) (b:=b) (T:= .s false (.fz (shD (.bnd f a b)))) (fun x=>by kernel_rfl) h (u:= .un)
 have c:(qYd [(1,0)] [0] 2 (E1 f a b).length && decide (([.int f, .int b]:List D).length<=lim))=true:=by kernel_rfl
 exact xF (ds:=[.int f, .int b]) (vs:=[.int b]) (e:=E1 f a b) (q:=[u, .s false (.fz (shD (.bnd f a b)))]) (wX (d:= .nd .lst [.int f, .int b]) (e:=E1 f a b) (jL q5 rfl) rfl rfl) c hu rfl
theorem q7 {f a b:Int} (h:b≠f):eCat (.v (fzS (vQ (qK 7) [(.v (oV (oIx (oN 0) (oC (.int 2)))))]))) (.v (fzS (compS 2 [(1,0)] [0] (iV (fzS (vQ (qK 7) [(.v (oV (oIx (oN 0) (oC (.int 3)))))]))) (gN 0) (asB (o2 neD (oN 0) (oIx (oN 1) (oC (.int 1))))) (oV (oN 0))))) (E1 f a b)= .ok (.ow .lst [.fz (.int a), .fz (.int b)],E1 f a b):=
 zW0 (xs:=[.int a]) (ys:=[.int b]) (e:=E1 f a b) (jC (d:= .nd .lst [.int a]) (e:=E1 f a b) (jL (o:= .ow .lst [.fz (.int a)]) (e:=E1 f a b) q4 rfl) rfl) (jC (d:= .nd .lst [.int b]) (e:=E1 f a b) (q6 h) rfl) (by simp)
theorem q8 (h:Nat):qK (h + 1)=fnS 1 3 (sSeq (sSet 1 (owS (oV (oIx (oN 0) (oC (.int 0))))))
  (sSeq (sIf (asB (o2 eqD (oN 1) (oC (.str "slot")))) (sRet (eLst [(oV (oIx (oN 0) (oC (.int 1))))])) sNil)
  (sSeq (sIf (asB (o2 eqD (oN 1) (oC (.str "bind")))) (sRet (eCat (.v (fzS (vQ (qK h) [(.v (oV (oIx (oN 0) (oC (.int 2)))))]))) (.v (fzS (compS 2 [(1,0)] [0] (iV (fzS (vQ (qK h) [(.v (oV (oIx (oN 0) (oC (.int 3)))))]))) (gN 0) (asB (o2 neD (oN 0) (oIx (oN 1) (oC (.int 1))))) (oV (oN 0))))))) sNil)
  (sSeq (sSet 2 (eLst []))
  (sSeq (sFor (iV (fzS (vQ yJ [(.v (oV (oN 0)))]))) (gN 3) (wO (qK h)))
  (sRet (eMv 2))))))):=rfl
theorem vKi {f a b:Int} (h:b≠f):fnS 1 3 (sSeq (sSet 1 (owS (oV (oIx (oN 0) (oC (.int 0))))))
  (sSeq (sIf (asB (o2 eqD (oN 1) (oC (.str "slot")))) (sRet (eLst [(oV (oIx (oN 0) (oC (.int 1))))])) sNil)
  (sSeq (sIf (asB (o2 eqD (oN 1) (oC (.str "bind")))) (sRet (eCat (.v (fzS (vQ (qK 7) [(.v (oV (oIx (oN 0) (oC (.int 2)))))]))) (.v (fzS (compS 2 [(1,0)] [0] (iV (fzS (vQ (qK 7) [(.v (oV (oIx (oN 0) (oC (.int 3)))))]))) (gN 0) (asB (o2 neD (oN 0) (oIx (oN 1) (oC (.int 1))))) (oV (oN 0))))))) sNil)
  (sSeq (sSet 2 (eLst []))
  (sSeq (sFor (iV (fzS (vQ yJ [(.v (oV (oN 0)))]))) (gN 3) (wO (qK 7)))
  (sRet (eMv 2))))))) [.s false (.fz (shD (.bnd f a b)))]= .ok (.ow .lst [.fz (.int a), .fz (.int b)],[.un]):=by
 with_reducible refine zS (o:= .rt (.ow .lst [.fz (.int a), .fz (.int b)]) (E1 f a b)) ?_ ?_
 ·show sSeq _ _ [.s false (.fz (shD (.bnd f a b))), .un, .un, .un]=_
  with_reducible refine qM (o:= .fz (.str "bind")) (e:=[.s false (.fz (shD (.bnd f a b))), .un, .un, .un]) q1 ?_
  show sSeq _ _ (E1 f a b)=_
  with_reducible refine wY (q:=false) (e:=E1 f a b) q2 ?_
  with_reducible refine qKp rfl ?_
  with_reducible refine wQ ?_
  with_reducible refine wY (q:=true) (e:=E1 f a b) q3 ?_
  with_reducible refine zWz rfl ?_
  with_reducible refine vQ1 (o:= .ow .lst [.fz (.int a), .fz (.int b)]) (e:=E1 f a b) ?_ ?_
  ·exact q7 h
  ·rfl
 ·rfl
theorem zZ3 {f a b:Int} (h:b≠f):qK 8 [.s false (.fz (shD (.bnd f a b)))]= .ok (.ow .lst [.fz (.int a), .fz (.int b)],[.un]):=by
 rw [q8 7]
 exact vKi h
theorem vKg:∀ {sh:Sh},shOk sh->∃r,qK 8 [.s false (.fz (shD sh))]= .ok (r,[.un])/\fzO r=lI (reads sh)
 | .op a b,_=>⟨_,zXf,rfl⟩
 | .ite a b c,_=>⟨_,zZ2,rfl⟩
 | .num k,_=>⟨_,zZ1,rfl⟩
 | .slot a,_=>⟨_,vKh,rfl⟩
 | .bnd f a b,h=>⟨_,zZ3 h,rfl⟩
abbrev LE (st gs:List O) (sp:List Int) (fr:Int) (x0 x5 x6 x7 x8 x9 x10 x11 x12 x13:Slot):Ev:=[x0, .s false (.ow .lst st), .s false (.ow .lst gs), .s false (rdO sp),fI fr,x5,x6,x7,x8,x9,x10,x11,x12,x13]
abbrev fD' (d:D):Slot:= .s false (.fz d)
abbrev rS (l:List Int):Slot:= .s false (rdO l)
section
variable {st gs:List O} {sp:List Int} {fr c m k a b t:Int} {x0 x5 x6 x7 x8 x9 x10 x11 x12 x13:Slot} {gl:List Int} {sh:Sh}
theorem l_pick (ne:sp≠ []):∃a∈sp,∃b∈sp,sAsg (fzS (vQ zN [(.v (oV (oDiv (oN 6) (oC (.int 8))))),(.b (pOf (oN 3)))])) (gT 2 (gCn (gN 7) (gCn (gN 8) gNl))) (LE st gs sp fr x0 x5 (fI m) x7 x8 x9 x10 x11 x12 x13)= .ok (.nx (LE st gs sp fr x0 x5 (fI m) (fD' (slD a)) (fD' (slD b)) x9 x10 x11 x12 x13)):=by
 obtain⟨a,ha,b,hb,e⟩:=picked_ok (m:=m / 8) ne
 have e' :zN [fI (m / 8), .s false (.fz (fzO (rdO sp)))]= .ok (.fz (.tup [slD a,slD b]),[.un, .un]):=by rw [show fzO (rdO sp)=lI sp from qZm sp];exact e
 exact⟨a,ha,b,hb,qKr (d:= .tup [slD a,slD b]) (e:=LE st gs sp fr x0 x5 (fI m) x7 x8 x9 x10 x11 x12 x13) (jL (o:= .fz (.tup [slD a,slD b])) (e:=LE st gs sp fr x0 x5 (fI m) x7 x8 x9 x10 x11 x12 x13) (vG (hs:=[.d (.int (m / 8)), .p 3 []]) (e:=LE st gs sp fr x0 x5 (fI m) x7 x8 x9 x10 x11 x12 x13) (by rfl) (vU (t0:=([rdO sp],[x0, .s false (.ow .lst st), .s false (.ow .lst gs), .un,fI fr,x5,fI m,x7,x8,x9,x10,x11,x12,x13])) (t:=([],[x0, .s false (.ow .lst st), .s false (.ow .lst gs), .un,fI fr,x5,fI m,x7,x8,x9,x10,x11,x12,x13])) (args:=[fI (m / 8), .s false (.fz (fzO (rdO sp)))]) (q:=(.fz (.tup [slD a,slD b]),[.un, .un])) (os:=[]) rfl rfl rfl e' rfl rfl rfl)) rfl) rfl rfl⟩
theorem l_third (ne:sp≠ []):∃t∈sp,owS (vX [(oV (oC (.str "slot"))),(oV (oIx (oN 3) (oMod (oDiv (oN 6) (oC (.int 11))) (oL lenD [(oN 3)]))))]) (LE st gs sp fr x0 x5 (fI m) x7 x8 x9 x10 x11 x12 x13)= .ok (.fz (slD t),LE st gs sp fr x0 x5 (fI m) x7 x8 x9 x10 x11 x12 x13):=by
 have hn:0 < sp.length:=List.length_pos_iff.mpr ne
 have h0:0<=m / 11 % (sp.length:Nat):=Int.emod_nonneg _ (by omega)
 have h1:m / 11 % (sp.length:Nat) < (sp.length:Nat):=Int.emod_lt_of_pos _ (by omega)
 have hl:(m / 11 % (sp.length:Nat)).toNat < sp.length:=by omega
 refine⟨sp[(m / 11 % (sp.length:Nat)).toNat],eY hl,qWq (vM (h1:= .d (.int sp[(m / 11 % (sp.length:Nat)).toNat])) (v5 (h1:= .p 3 []) (h2:= .d (.int (m / 11 % (sp.length:Nat)))) (y:= .int (m / 11 % (sp.length:Nat))) (e:=LE st gs sp fr x0 x5 (fI m) x7 x8 x9 x10 x11 x12 x13) (by rfl) (qYc (x:=m / 11) (by rfl) (qQq (hs:=[.p 3 []]) (xs:=[lI sp]) (by rfl) (by show some [fzO (rdO sp)]=_;rw [show fzO (rdO sp)=lI sp from qZm sp]) (qVn sp) rfl) (by omega)) rfl rfl ?_ rfl) rfl)⟩
 show(ixN ((sp.map D.int).map O.fz).length (m / 11 % (sp.length:Nat))).bind _=_
 rw [show ixN ((sp.map D.int).map O.fz).length (m / 11 % (sp.length:Nat))=some (m / 11 % (sp.length:Nat)).toNat by unfold ixN;rw [if_pos h0,if_pos (by rw [aY,aY];exact h1)]]
 show(((sp.map D.int).map O.fz)[(m / 11 % (sp.length:Nat)).toNat]?).bind _=_
 rw [bP,bP,aF hl];rfl
theorem zZb {l:List Int} {x:Int} (few:l.length < 1000):apF ((l.map D.int).map O.fz) (.fz (.int x))=some (.fz .non,((l ++ [x]).map D.int).map O.fz):=by
 unfold apF
 rw [decide_eq_true (by rw [aY,aY];show _<=1000000;omega),bK,bK];rfl
theorem qQx (v:Int):asB (o2 eqD (oN 10) (oC (.int v))) (LE st gs sp fr x0 x5 x6 x7 x8 x9 (fI k) x11 x12 x13)= .ok (decide (k=v),LE st gs sp fr x0 x5 x6 x7 x8 x9 (fI k) x11 x12 x13):=vWv (ha:= .d (.int k)) (hb:= .d (.int v)) (by rfl) (by rfl) rfl rfl rfl
theorem l_1:sIf (asB (o2 eqD (oN 10) (oC (.int 1)))) (sSeq (sSet 12 (owS (vX [(oV (oC (.str "if"))),(oV (oN 7)),(oV (oN 8)),(oV (oN 9))]))) (vL (eMu1 (pOf (oN 11)) (owS (oV (oIx (oN 9) (oC (.int 1))))) apF))) sNil (LE st gs sp fr x0 x5 x6 (fD' (slD a)) (fD' (slD b)) (fD' (slD t)) (fI k) (rS [a,b]) (fD' (shD (.op a b))) x13)=
  .ok (.nx (LE st gs sp fr x0 x5 x6 (fD' (slD a)) (fD' (slD b)) (fD' (slD t)) (fI k) (rS (if k=1 then [a,b,t] else [a,b])) (fD' (shD (if k=1 then .ite a b t else .op a b))) x13)):=by
 refine xV (qQx 1) ?_
 by_cases h:k=1
 ·rw [decide_eq_true h,if_pos h,if_pos h];rfl
 ·rw [decide_eq_false h,if_neg h,if_neg h];rfl
theorem l_2:sIf (asB (o2 eqD (oN 10) (oC (.int 2)))) (sSeq (sSet 12 (owS (vX [(oV (oC (.str "bind"))),(oV (oN 4)),(oV (oN 7)),(vX [(oV (oC (.str "op"))),(oV (oC (.str "*"))),(vX [(oV (oC (.str "slot"))),(oV (oN 4))]),(oV (oN 8))])]))) (sSet 4 (owS (oV (oAdd (oN 4) (oC (.int 1))))))) sNil (LE st gs sp fr x0 x5 x6 (fD' (slD a)) (fD' (slD b)) x9 (fI k) x11 (fD' (shD sh)) x13)=
  .ok (.nx (LE st gs sp (if k=2 then fr + 1 else fr) x0 x5 x6 (fD' (slD a)) (fD' (slD b)) x9 (fI k) x11 (fD' (shD (if k=2 then .bnd fr a b else sh))) x13)):=by
 refine xV (qQx 2) ?_
 by_cases h:k=2
 ·rw [decide_eq_true h,if_pos h,if_pos h];rfl
 ·rw [decide_eq_false h,if_neg h,if_neg h];rfl
theorem l_3:sIf (asB (o2 eqD (oN 10) (oC (.int 3)))) (sSeq (sSet 12 (owS (vX [(oV (oC (.str "num"))),(oV (oC (.int 2)))]))) (sSet 11 (eLst []))) sNil (LE st gs sp fr x0 x5 x6 x7 x8 x9 (fI k) (rS gl) (fD' (shD sh)) x13)=
  .ok (.nx (LE st gs sp fr x0 x5 x6 x7 x8 x9 (fI k) (rS (if k=3 then [] else gl)) (fD' (shD (if k=3 then .num 2 else sh))) x13)):=by
 refine xV (qQx 3) ?_
 by_cases h:k=3
 ·rw [decide_eq_true h,if_pos h,if_pos h];rfl
 ·rw [decide_eq_false h,if_neg h,if_neg h];rfl
theorem vJw {l:List O} {x:O} (few:l.length < 1000):apF l x=some (.fz .non,l ++ [x]):=by
 unfold apF
 rw [decide_eq_true (show _<=1000000 by omega)];rfl
theorem zX3 (few:st.length < 1000):vL (eMu1 (pOf (oN 1)) (owS (vX [(oV (o1 negD (oC (.int 1)))),(oV (oN 12))])) apF) (LE st gs sp fr x0 x5 x6 x7 x8 x9 x10 x11 (fD' (shD sh)) x13)= .ok (.nx (LE (st ++ [.fz (stp (-1) (shD sh))]) gs sp fr x0 x5 x6 x7 x8 x9 x10 x11 (fD' (shD sh)) x13)):=
 xR (o:= .fz .non) (e:=LE (st ++ [.fz (stp (-1) (shD sh))]) gs sp fr x0 x5 x6 x7 x8 x9 x10 x11 (fD' (shD sh)) x13) (xL (i:=1) (π:=[]) (x:= .fz (stp (-1) (shD sh))) (e:=LE st gs sp fr x0 x5 x6 x7 x8 x9 x10 x11 (fD' (shD sh)) x13) (os:=st) (os0:=st) (z:=(.fz .non,st ++ [.fz (stp (-1) (shD sh))])) rfl rfl rfl rfl rfl (vJw few) rfl) rfl
theorem zX4 (f1:st.length < 1000) (f2:gl.length < 1000) (f3:sp.length < 1000):sSeq (vL (eMu1 (pOf (oN 1)) (owS (vX [(oV (oN 4)),(oV (oN 12))])) apF)) (sSeq (vL (eMu1 (pOf (oN 11)) (owS (oV (oN 4))) apF)) (sSeq (vL (eMu1 (pOf (oN 3)) (owS (oV (oN 4))) apF)) (sSet 4 (owS (oV (oAdd (oN 4) (oC (.int 1)))))))) (LE st gs sp fr x0 x5 x6 x7 x8 x9 x10 (rS gl) (fD' (shD sh)) x13)=
  .ok (.nx (LE (st ++ [.fz (stp fr (shD sh))]) gs (sp ++ [fr]) (fr + 1) x0 x5 x6 x7 x8 x9 x10 (rS (gl ++ [fr])) (fD' (shD sh)) x13)):=by
 refine yN (o:= .fz .non) (e:=LE (st ++ [.fz (stp fr (shD sh))]) gs sp fr x0 x5 x6 x7 x8 x9 x10 (rS gl) (fD' (shD sh)) x13) (xL (i:=1) (π:=[]) (x:= .fz (stp fr (shD sh))) (e:=LE st gs sp fr x0 x5 x6 x7 x8 x9 x10 (rS gl) (fD' (shD sh)) x13) (os:=st) (os0:=st) (z:=(.fz .non,st ++ [.fz (stp fr (shD sh))])) rfl rfl rfl rfl rfl (vJw f1) rfl) ?_
 refine yN (o:= .fz .non) (e:=LE (st ++ [.fz (stp fr (shD sh))]) gs sp fr x0 x5 x6 x7 x8 x9 x10 (rS (gl ++ [fr])) (fD' (shD sh)) x13) (xL (i:=11) (π:=[]) (x:= .fz (.int fr)) (e:=LE (st ++ [.fz (stp fr (shD sh))]) gs sp fr x0 x5 x6 x7 x8 x9 x10 (rS gl) (fD' (shD sh)) x13) (os:=(gl.map D.int).map .fz) (os0:=(gl.map D.int).map .fz) (z:=(.fz .non,((gl ++ [fr]).map D.int).map .fz)) rfl rfl rfl rfl rfl (zZb f2) rfl) ?_
 refine yN (o:= .fz .non) (e:=LE (st ++ [.fz (stp fr (shD sh))]) gs (sp ++ [fr]) fr x0 x5 x6 x7 x8 x9 x10 (rS (gl ++ [fr])) (fD' (shD sh)) x13) (xL (i:=3) (π:=[]) (x:= .fz (.int fr)) (e:=LE (st ++ [.fz (stp fr (shD sh))]) gs sp fr x0 x5 x6 x7 x8 x9 x10 (rS (gl ++ [fr])) (fD' (shD sh)) x13) (os:=(sp.map D.int).map .fz) (os0:=(sp.map D.int).map .fz) (z:=(.fz .non,((sp ++ [fr]).map D.int).map .fz)) rfl rfl rfl rfl rfl (zZb f3) rfl) ?_
 rfl
theorem zX5 (f1:gs.length < 1000) (f2:gl.length < 64):vL (eMu1 (pOf (oN 2)) (eF sortSD [(oN 11)]) apF) (LE st gs sp fr x0 x5 x6 x7 x8 x9 x10 (rS gl) x12 x13)= .ok (.nx (LE st (gs ++ [rdO (aO (vZ gl))]) sp fr x0 x5 x6 x7 x8 x9 x10 (rS gl) x12 x13)):=by
 have so:sortSD [lI gl]=some ((aO (vZ gl)).map .int):=by
  unfold sortSD
  rw [show wB [lI gl]=some gl from zC _]
  have:=yS gl
  show cond (decide (gl.length<=2000) && decide ((vZ gl).length < 64)) _ _=_
  rw [decide_eq_true (by omega),decide_eq_true (by omega)];rfl
 have kf:vJs (rdO gl)=rdO gl:=by
  show O.ow .lst (((gl.map D.int).map O.fz).map fun o=> .fz (fzO o))=_
  rw [bH];rfl
 refine xR (o:= .fz .non) (e:=LE st (gs ++ [rdO (aO (vZ gl))]) sp fr x0 x5 x6 x7 x8 x9 x10 (rS gl) x12 x13) (xL (i:=2) (π:=[]) (x:=rdO (aO (vZ gl))) (e:=LE st gs sp fr x0 x5 x6 x7 x8 x9 x10 (rS gl) x12 x13) (os:=gs) (os0:=gs) (z:=(.fz .non,gs ++ [rdO (aO (vZ gl))])) rfl rfl (vQo (hs:=[.p 11 []]) (xs:=[lI gl]) (e:=LE st gs sp fr x0 x5 x6 x7 x8 x9 x10 (rS gl) x12 x13) (e1:=LE st gs sp fr x0 x5 x6 x7 x8 x9 x10 (rS gl) x12 x13) (by rfl) ?_ so rfl) rfl rfl (vJw f1) rfl) rfl
 show Res.ok ([fzO (rdO gl)],LE st gs sp fr x0 x5 x6 x7 x8 x9 x10 (.s false (vJs (rdO gl))) x12 x13)=_
 rw [kf,show fzO (rdO gl)=lI gl from qZm gl]
end
theorem l_end {st gs:List O} {sp:List Int} {fr k:Int} {x0 x5 x6 x7 x8 x9 x13:Slot} {gl:List Int} {sh:Sh} (f1:st.length < 1000) (f2:gl.length < 64) (f3:sp.length < 1000):∃own g sp' fr',sIf (bOr (asB (o2 eqD (oN 10) (oC (.int 0)))) (asB (o2 eqD (oN 10) (oC (.int 4))))) (vL (eMu1 (pOf (oN 1)) (owS (vX [(oV (o1 negD (oC (.int 1)))),(oV (oN 12))])) apF)) (sSeq (vL (eMu1 (pOf (oN 1)) (owS (vX [(oV (oN 4)),(oV (oN 12))])) apF)) (sSeq (vL (eMu1 (pOf (oN 11)) (owS (oV (oN 4))) apF)) (sSeq (vL (eMu1 (pOf (oN 3)) (owS (oV (oN 4))) apF)) (sSet 4 (owS (oV (oAdd (oN 4) (oC (.int 1))))))))) (LE st gs sp fr x0 x5 x6 x7 x8 x9 (fI k) (rS gl) (fD' (shD sh)) x13)=
   .ok (.nx (LE (st ++ [.fz (stp own (shD sh))]) gs sp' fr' x0 x5 x6 x7 x8 x9 (fI k) (rS g) (fD' (shD sh)) x13))/\((own= -1/\g=gl/\sp' =sp/\fr' =fr/\k≠3)\/(own=fr/\g=gl ++ [fr]/\sp' =sp ++ [fr]/\fr' =fr + 1)):=by
 by_cases h0:k=0\/k=4
 ·refine⟨-1,gl,sp,fr,xV (q:=true) (e:=LE st gs sp fr x0 x5 x6 x7 x8 x9 (fI k) (rS gl) (fD' (shD sh)) x13) (qX7 (qQx 0) ?_) (zX3 f1), .inl ⟨rfl,rfl,rfl,rfl,by omega⟩⟩
  by_cases h:k=0
  ·rw [decide_eq_true h];rfl
  ·rw [decide_eq_false h]
   show asB _ _=_
   rw [qQx 4,decide_eq_true (by omega)]
 ·refine⟨fr,gl ++ [fr],sp ++ [fr],fr + 1,xV (q:=false) (e:=LE st gs sp fr x0 x5 x6 x7 x8 x9 (fI k) (rS gl) (fD' (shD sh)) x13) (qX7 (qQx 0) ?_) (zX4 f1 (by omega) f3), .inr ⟨rfl,rfl,rfl,rfl⟩⟩
  rw [decide_eq_false (fun z=>h0 (.inl z))]
  show asB _ _=_
  rw [qQx 4,decide_eq_false (fun z=>h0 (.inr z))]
structure Nw (sp:List Int) (fr own:Int) (sh:Sh) (g sp' :List Int) (fr' :Int):Prop where
 rd:∀x∈reads sh,x∈sp
 ok:shOk sh
 gm:∀y,y∈g↔y∈wo own (reads sh)
 gn:g≠ []
 gl:g.length < 64
 ow:(own= -1/\sp' =sp/\fr<=fr')\/(fr<=own/\sp' =sp ++ [own]/\own < fr')
theorem link_body {st gs:List O} {sp:List Int} {fr c:Int} {x0 x6 x7 x8 x9 x10 x11 x12 x13:Slot} (ne:sp≠ []) (lt:∀x∈sp,x < fr) (f0:0<=fr) (f1:st.length < 1000) (f2:gs.length < 1000) (f3:sp.length < 1000):
  ∃own sh g sp' fr' y6 y7 y8 y9 y10 y11 y12,wS (LE st gs sp fr x0 (fI c) x6 x7 x8 x9 x10 x11 x12 x13)= .ok (.nx (LE (st ++ [.fz (stp own (shD sh))]) (gs ++ [rdO (aO (vZ g))]) sp' fr' x0 (fI c) y6 y7 y8 y9 y10 y11 y12 x13))/\Nw sp fr own sh g sp' fr' :=by
 obtain⟨a,ha,b,hb,e1⟩:=l_pick (st:=st) (gs:=gs) (fr:=fr) (m:=c * 48271 % 2147483647) (x0:=x0) (x5:=fI c) (x7:=x7) (x8:=x8) (x9:=x9) (x10:=x10) (x11:=x11) (x12:=x12) (x13:=x13) ne
 obtain⟨t,ht,e2⟩:=l_third (st:=st) (gs:=gs) (fr:=fr) (m:=c * 48271 % 2147483647) (x0:=x0) (x5:=fI c) (x7:=fD' (slD a)) (x8:=fD' (slD b)) (x9:=x9) (x10:=x10) (x11:=x11) (x12:=x12) (x13:=x13) ne
 generalize hm:c * 48271 % 2147483647=m at *
 generalize hk:m % 8=k
 have L1:=l_1 (st:=st) (gs:=gs) (sp:=sp) (fr:=fr) (k:=k) (a:=a) (b:=b) (t:=t) (x0:=x0) (x5:=fI c) (x6:=fI m) (x13:=x13)
 have L2:=l_2 (st:=st) (gs:=gs) (sp:=sp) (fr:=fr) (k:=k) (a:=a) (b:=b) (sh:=if k=1 then .ite a b t else .op a b) (x0:=x0) (x5:=fI c) (x6:=fI m) (x9:=fD' (slD t)) (x11:=rS (if k=1 then [a,b,t] else [a,b])) (x13:=x13)
 generalize hfr:(if k=2 then fr + 1 else fr)=fr2 at *
 have L3:=l_3 (st:=st) (gs:=gs) (sp:=sp) (fr:=fr2) (k:=k) (gl:=if k=1 then [a,b,t] else [a,b]) (sh:=if k=2 then .bnd fr a b else if k=1 then .ite a b t else .op a b) (x0:=x0) (x5:=fI c) (x6:=fI m) (x7:=fD' (slD a)) (x8:=fD' (slD b)) (x9:=fD' (slD t)) (x13:=x13)
 generalize hgl:(if k=3 then [] else if k=1 then [a,b,t] else [a,b])=gl at *
 generalize hsh:(if k=3 then Sh.num 2 else if k=2 then .bnd fr a b else if k=1 then .ite a b t else .op a b)=sh at *
 have lg:gl.length < 64:=by rw [←hgl];split <;> try split
                            all_goals simp
 obtain⟨own,g,sp',fr',L4,o4⟩:=l_end (st:=st) (gs:=gs) (sp:=sp) (fr:=fr2) (k:=k) (gl:=gl) (sh:=sh) (x0:=x0) (x5:=fI c) (x6:=fI m) (x7:=fD' (slD a)) (x8:=fD' (slD b)) (x9:=fD' (slD t)) (x13:=x13) f1 lg f3
 have fr2b:fr<=fr2:=by rw [←hfr];split <;> omega
 have gmem:∀y,y∈gl↔y∈reads sh:=fun y=>by
  rw [←hgl,←hsh]
  by_cases h3:k=3
  ·simp [h3,reads]
  ·by_cases h2:k=2
   ·simp [h2,reads]
   ·by_cases h1:k=1
    ·simp [h1,reads]
    ·simp [h1,h2,h3,reads]
 have lg2:g.length < 64:=by
  rcases o4 with⟨_,z,_⟩ | ⟨_,z,_⟩
  ·rw [z];exact lg
  ·rw [z,aP]
   have:gl.length<=3:=by rw [←hgl];split <;> try split
                         all_goals simp
   simp;omega
 have L5:=zX5 (st:=st ++ [.fz (stp own (shD sh))]) (gs:=gs) (sp:=sp') (fr:=fr') (gl:=g) (x0:=x0) (x5:=fI c) (x6:=fI m) (x7:=fD' (slD a)) (x8:=fD' (slD b)) (x9:=fD' (slD t)) (x10:=fI k) (x12:=fD' (shD sh)) (x13:=x13) f2 lg2
 refine⟨own,sh,g,sp',fr',fI m,fD' (slD a),fD' (slD b),fD' (slD t),fI k,rS g,fD' (shD sh),?_,?_⟩
 ·refine qM (o:= .fz (.int m)) (e:=LE st gs sp fr x0 (fI c) x6 x7 x8 x9 x10 x11 x12 x13) (yB (vM (h1:= .d (.int m)) (by rw [←hm];exact qYc (x:=c * 48271) (zT (h1:= .d (.int c)) (h2:= .d (.int 48271)) (by rfl) (by rfl) rfl rfl rfl (by show(if IntMulOk c 48271 then some (D.int (c * 48271)) else none)=_;rw [if_pos (IntMulOk.of_right (by decide +kernel))]) rfl) (by rfl) (by decide)) rfl) rfl) (vH e1 (qM e2 ?_))
  refine qM (o:= .fz (.int k)) (e:=LE st gs sp fr x0 (fI c) (fI m) (fD' (slD a)) (fD' (slD b)) (fD' (slD t)) x10 x11 x12 x13) (by rw [←hk];rfl) ?_
  refine qM (o:=rdO [a,b]) (e:=LE st gs sp fr x0 (fI c) (fI m) (fD' (slD a)) (fD' (slD b)) (fD' (slD t)) (fI k) x11 x12 x13) rfl ?_
  refine qM (o:= .fz (shD (.op a b))) (e:=LE st gs sp fr x0 (fI c) (fI m) (fD' (slD a)) (fD' (slD b)) (fD' (slD t)) (fI k) (rS [a,b]) x12 x13) rfl ?_
  exact vH L1 (vH L2 (vH L3 (vH L4 L5)))
 ·have rdm:∀x∈reads sh,x∈sp:=fun x hx=>by
   rw [←gmem,←hgl] at hx
   split at hx
   ·exact absurd hx aN
   ·split at hx
    ·rcases aB.mp hx with z | z
     ·rw [z];exact ha
     ·rcases aB.mp z with z | z
      ·rw [z];exact hb
      ·rw [aS.mp z];exact ht
    ·rcases aB.mp hx with z | z
     ·rw [z];exact ha
     ·rw [aS.mp z];exact hb
  have gn:k≠3->gl≠ []:=fun z=>by rw [←hgl,if_neg z];split <;> simp
  refine⟨rdm,?_,fun y=>?_,?_,lg2,?_⟩
  ·rw [←hsh]
   split
   ·trivial
   ·split
    ·have:=lt b hb
     show b≠fr
     omega
    ·split <;> trivial
  ·rcases o4 with⟨z1,z2,_⟩ | ⟨z1,z2,_⟩
   ·rw [z1,z2];exact gmem y
   ·rw [z1,z2]
    unfold wo
    rw [if_neg (by omega),bL,bL,gmem]
  ·rcases o4 with⟨_,z2,_,_,z5⟩ | ⟨_,z2,_⟩
   ·rw [z2];exact gn z5
   ·rw [z2];simp
  ·rcases o4 with⟨z1,_,z3,z4,_⟩ | ⟨z1,_,z3,z4⟩
   ·exact .inl ⟨z1,z3,by omega⟩
   ·exact .inr ⟨by omega,by rw [z1];exact z3,by omega⟩
theorem qWy {p:Int×List Int}:∀ {r:List (Int×List Int)} {K:List Int},Wg K r->(∀x∈p.2,x∈K ++ owns r)->(p.1= -1\/p.1∉K ++ owns r)->Wg K (r ++ [p])
 | [],K,_,h1,h2=>by
   rw [show owns []=[] from rfl,bR] at h1 h2
   refine⟨h1,?_⟩
   by_cases e:p.1= -1
   ·exact .inl ⟨e,trivial⟩
   ·exact .inr ⟨e,h2.resolve_left e,trivial⟩
 | q::r,K,⟨w1,w2⟩,h1,h2=>by
   refine⟨w1,?_⟩
   have o:owns (q::r)=(if q.1= -1 then [] else [q.1]) ++ owns r:=by
    unfold owns
    rw [aC,dY]
    by_cases e:q.1= -1
    ·simp [e]
    ·rw [if_neg e,if_pos (by simpa using e)];rfl
   rw [o,←cA] at h1 h2
   rcases w2 with⟨e,w⟩ | ⟨e,n,w⟩
   ·rw [if_pos e,bR] at h1 h2
    exact .inl ⟨e,qWy w h1 h2⟩
   ·rw [if_neg e] at h1 h2
    exact .inr ⟨e,n,qWy w h1 h2⟩
theorem vZf (r:List (Int×List Int)) (p:Int×List Int):owns (r ++ [p])=owns r ++ (if p.1= -1 then [] else [p.1]):=by
 unfold owns
 rw [bK,List.filter_append]
 congr 1
 by_cases e:p.1= -1
 ·simp [e]
 ·simp [e]
abbrev Lp:=List (Int×Sh)
def lp (L:Lp):List (Int×List Int):=L.map fun p=>(p.1,reads p.2)
structure Pg (L:Lp) (grs:List (List Int)) (sp:List Int) (fr:Int):Prop where
 wg:Wg [] (lp L)
 ow:owns (lp L)=sp
 inc:sp.Pairwise (· < ·)
 lt:∀x∈sp,0<=x/\x < fr
 ne:sp≠ []
 f0:0<=fr
 ok:∀p∈L,shOk p.2
 gr:∀g∈grs,g.length < 64/\∃p∈L,(∀y,y∈g↔y∈wo p.1 (reads p.2))/\wo p.1 (reads p.2)≠ []
theorem Pg.next {L:Lp} {grs:List (List Int)} {sp sp' g g' :List Int} {fr fr' own:Int} {sh:Sh} (P:Pg L grs sp fr) (N:Nw sp fr own sh g sp' fr') (hg:∀y,y∈g' ↔y∈g) (lg:g'.length < 64):Pg (L ++ [(own,sh)]) (grs ++ [g']) sp' fr' :=by
 have e:lp (L ++ [(own,sh)])=lp L ++ [(own,reads sh)]:=by unfold lp;rw [bK];rfl
 have no:own= -1\/own∉sp:=by
  rcases N.ow with⟨z,_⟩ | ⟨z,_⟩
  ·exact .inl z
  ·exact .inr fun y=>by have:=(P.lt own y).2;omega
 have ng:wo own (reads sh)≠ []:=fun z=>by
  obtain⟨y,hy⟩:=List.exists_mem_of_ne_nil g N.gn
  have:=(N.gm y).mp hy
  rw [z] at this
  exact absurd this aN
 refine⟨?_,?_,?_,fun x hx=>?_,?_,?_,fun p hp=>?_,fun q hq=>?_⟩
 ·rw [e]
  exact qWy P.wg (fun x hx=>by rw [List.nil_append,P.ow];exact N.rd x hx) (by rw [List.nil_append,P.ow];exact no)
 ·rw [e,vZf,P.ow]
  rcases N.ow with⟨z,z2,_⟩ | ⟨z,z2,_⟩
  ·rw [if_pos z,bR,z2]
  ·rw [if_neg (by have:=P.f0;show¬own= -1;omega),z2]
 ·rcases N.ow with⟨_,z2,_⟩ | ⟨z,z2,_⟩
  ·rw [z2];exact P.inc
  ·rw [z2,List.pairwise_append]
   exact⟨P.inc,cN _ _,fun a ha b hb=>by rw [aS.mp hb];have:=(P.lt a ha).2;omega⟩
 ·rcases N.ow with⟨_,z2,z3⟩ | ⟨z,z2,z3⟩
  ·rw [z2] at hx;have:=P.lt x hx;omega
  ·rw [z2] at hx
   rcases bL.mp hx with h | h
   ·have:=P.lt x h;omega
   ·rw [aS.mp h];have:=P.f0;omega
 ·rcases N.ow with⟨_,z2,_⟩ | ⟨_,z2,_⟩
  ·rw [z2];exact P.ne
  ·rw [z2];simp
 ·have:=P.f0
  rcases N.ow with⟨_,_,z3⟩ | ⟨_,_,z3⟩ <;> omega
 ·rcases bL.mp hp with h | h
  ·exact P.ok p h
  ·rw [aS.mp h];exact N.ok
 ·rcases bL.mp hq with h | h
  ·obtain⟨h1,p,h2,h3⟩:=P.gr q h
   exact⟨h1,p,dU _ h2,h3⟩
  ·rw [aS.mp h]
   exact⟨lg,(own,sh),bB _ (aS.mpr rfl),fun y=>(hg y).trans (N.gm y),ng⟩
theorem vY8 (g:List Int) (y:Int):y∈aO (vZ g)↔y∈g:=by rw [(cI _).mem_iff,qQl]
theorem link_loop {x0 x13:Slot}:∀(cs:List Int) (L:Lp) (grs:List (List Int)) (gs:List O) (sp:List Int) (fr:Int) (x5 x6 x7 x8 x9 x10 x11 x12:Slot),Pg L grs sp fr->gs.map fzO=grs.map lI->L.length + cs.length < 900->gs.length + cs.length < 900->sp.length + cs.length < 900->
  ∃L' grs' gs' sp' fr' y5 y6 y7 y8 y9 y10 y11 y12,Pg L' grs' sp' fr' /\gs'.map fzO=grs'.map lI/\L'.length=L.length + cs.length/\gs'.length=gs.length + cs.length/\sp'.length<=sp.length + cs.length/\forS (gN 5) wS (cs.map .int) (LE (L.map fun p=> .fz (stp p.1 (shD p.2))) gs sp fr x0 x5 x6 x7 x8 x9 x10 x11 x12 x13)= .ok (.nx (LE (L'.map fun p=> .fz (stp p.1 (shD p.2))) gs' sp' fr' x0 y5 y6 y7 y8 y9 y10 y11 y12 x13))
 | [],L,grs,gs,sp,fr,x5,x6,x7,x8,x9,x10,x11,x12,P,hg,_,_,_=>⟨L,grs,gs,sp,fr,x5,x6,x7,x8,x9,x10,x11,x12,P,hg,rfl,rfl,aG _,rfl⟩
 | c::cs,L,grs,gs,sp,fr,x5,x6,x7,x8,x9,x10,x11,x12,P,hg,f1,f2,f3=>by
   rw [aK] at f1 f2 f3
   obtain⟨own,sh,g,sp',fr',y6,y7,y8,y9,y10,y11,y12,e,N⟩:=link_body (st:=L.map fun p=> .fz (stp p.1 (shD p.2))) (gs:=gs) (c:=c) (x0:=x0) (x6:=x6) (x7:=x7) (x8:=x8) (x9:=x9) (x10:=x10) (x11:=x11) (x12:=x12) (x13:=x13) P.ne (fun x hx=>(P.lt x hx).2) P.f0 (by rw [aY];omega) (by omega) (by omega)
   have lg:(aO (vZ g)).length < 64:=by
    rw [(cI _).length_eq]
    have:=yS g
    have:=N.gl
    omega
   have P' :=P.next N (vY8 g) lg
   have l3:sp'.length<=sp.length + 1:=by
    rcases N.ow with⟨_,z,_⟩ | ⟨_,z,_⟩ <;> rw [z] <;> simp
   obtain⟨L2,grs2,gs2,sp2,fr2,z5,z6,z7,z8,z9,z10,z11,z12,a1,a2,a3,a4,a5,a6⟩:=link_loop (x0:=x0) (x13:=x13) cs (L ++ [(own,sh)]) (grs ++ [aO (vZ g)]) (gs ++ [rdO (aO (vZ g))]) sp' fr' (fI c) y6 y7 y8 y9 y10 y11 y12 P' (by rw [bK,bK,hg];exact congrArg _ (congrArg (·:: []) (qZm _))) (by rw [aP];simp;omega) (by rw [aP];simp;omega) (by omega)
   refine⟨L2,grs2,gs2,sp2,fr2,z5,z6,z7,z8,z9,z10,z11,z12,a1,a2,by rw [a3,aP,aK];simp;omega,by rw [a4,aP,aK];simp;omega,by rw [aK];omega,?_⟩
   rw [bK] at a6
   exact jD rfl e a6
abbrev stD (p:Int×Sh):D:=stp p.1 (shD p.2)
theorem vJv {ob:Oe} {env e1:Ev} {i:Nat} {xs ys:List D} (h1:evO (oN i) env= .ok (.p i [],env)) (h2:evO ob env= .ok (.d (.nd .lst ys),env)) (h3:rsvB env (.p i [])= .ok (.nd .lst xs,e1)) (c:xs.length + ys.length<=1000000):eCat (oN i) ob env= .ok (.ow .lst ((xs ++ ys).map .fz),e1):=by
 show(evO (oN i) env).bind _=_
 rw [h1]
 show(evO ob env).bind _=_
 rw [h2]
 show((rsvB env (.p i [])).bind _).bind _=_
 rw [h3]
 show cond (decide (xs.length + ys.length<=lim)) (Res.ok (O.ow .lst ((xs ++ ys).map O.fz),e1)) Res.no=_
 rw [decide_eq_true c];rfl
theorem vZr (cs:List Int) (few:cs.length<=40):∃L grs sp fr last t init,Pg L grs sp fr/\L=init ++ [(last,t)]/\(∃s0,sp=s0 ++ [last])/\L.length < 45/\sp.length < 45/\j3 [.s false (.fz (lI cs))]= .ok (.fz (.tup [.nd .lst (L.map stD), .nd .lst (grs.map lI),lI sp]),[.un]):=by
 have P0:Pg [(0, .num 1)] [[0]] [0] 1:=by
  refine⟨⟨fun x hx=>absurd hx aN, .inr ⟨by decide,aN,trivial⟩⟩,rfl,cN _ _,fun x hx=>by rw [aS.mp hx];omega,by simp,by omega,fun p hp=>by rw [aS.mp hp];trivial,fun g hg=>?_⟩
  rw [aS.mp hg]
  exact⟨by decide,(0, .num 1),aS.mpr rfl,fun y=>Iff.rfl,by decide⟩
 obtain⟨L,grs,gs,sp,fr,y5,y6,y7,y8,y9,y10,y11,y12,P,hg,l1,l2,l3,e⟩:=link_loop (x0:= .s false (.fz (lI cs))) (x13:= .un) cs [(0, .num 1)] [[0]] [.fz (lI [0])] [0] 1 .un .un .un .un .un .un .un .un P0 rfl (by simp;omega) (by simp;omega) (by simp;omega)
 have hn:0 < sp.length:=List.length_pos_iff.mpr P.ne
 have h0:0<=cs.sum % (sp.length:Nat):=Int.emod_nonneg _ (by omega)
 have h1:cs.sum % (sp.length:Nat) < (sp.length:Nat):=Int.emod_lt_of_pos _ (by omega)
 have hl:(cs.sum % (sp.length:Nat)).toNat < sp.length:=by omega
 generalize ha:sp[(cs.sum % (sp.length:Nat)).toNat]=a
 have am:a∈sp:=by rw [←ha];exact eY hl
 have N:Nw sp fr fr (.slot a) [a,fr] (sp ++ [fr]) (fr + 1):=⟨fun x hx=>by rw [aS.mp hx];exact am,trivial,fun y=>by
  unfold wo
  rw [if_neg (by have:=P.f0;omega)]
  exact Iff.rfl,by simp,by simp, .inr ⟨Int.le_refl _,rfl,by omega⟩⟩
 have P' :=P.next N (fun y=>Iff.rfl) (show [a,fr].length < 64 by simp)
 refine⟨L ++ [(fr,Sh.slot a)],grs ++ [[a,fr]],sp ++ [fr],fr + 1,fr, .slot a,L,P',rfl,⟨sp,rfl⟩,by rw [aP,l1];simp;omega,by rw [aP];simp at l3⊢;omega,?_⟩
 have sl:L.length < 45:=by rw [l1];simp;omega
 have sg:gs.length < 45:=by rw [l2];simp;omega
 have ss:sp.length < 45:=by simp at l3;omega
 have kS:∀l:List D,(l.map O.fz).map (fun o=>O.fz (fzO o))=l.map O.fz:=fun l=>by rw [bH];rfl
 have lg:grs.length=gs.length:=by have:=congrArg List.length hg;rw [aY,aY] at this;exact this.symm
 have eL:(L.map fun p=>O.fz (stp p.1 (shD p.2)))=(L.map stD).map O.fz:=by rw [bH];rfl
 rw [eL] at e
 refine zS (o:= .rt (.fz (.tup [.nd .lst ((L ++ [(fr,Sh.slot a)]).map stD), .nd .lst ((grs ++ [[a,fr]]).map lI),lI (sp ++ [fr])])) (LE ((L.map stD).map O.fz) ((grs.map lI).map O.fz) sp fr (.s false (.fz (lI cs))) y5 y6 y7 y8 y9 y10 y11 y12 (fI a))) ?_ rfl
 refine qM (o:= .ow .lst [.fz (stD (0,Sh.num 1))]) (e:=[.s false (.fz (lI cs)), .un, .un, .un, .un, .un, .un, .un, .un, .un, .un, .un, .un, .un]) rfl ?_
 refine qM (o:= .ow .lst [.fz (lI [0])]) (e:=[.s false (.fz (lI cs)), .s false (.ow .lst [.fz (stD (0,Sh.num 1))]), .un, .un, .un, .un, .un, .un, .un, .un, .un, .un, .un, .un]) rfl ?_
 refine qM (o:=rdO [0]) (e:=[.s false (.fz (lI cs)), .s false (.ow .lst [.fz (stD (0,Sh.num 1))]), .s false (.ow .lst [.fz (lI [0])]), .un, .un, .un, .un, .un, .un, .un, .un, .un, .un, .un]) rfl ?_
 refine qM (o:= .fz (.int 1)) (e:=[.s false (.fz (lI cs)), .s false (.ow .lst [.fz (stD (0,Sh.num 1))]), .s false (.ow .lst [.fz (lI [0])]),rS [0], .un, .un, .un, .un, .un, .un, .un, .un, .un, .un]) rfl ?_
 refine vH (jK (ds:=cs.map .int) (e:=LE [.fz (stD (0,Sh.num 1))] [.fz (lI [0])] [0] 1 (.s false (.fz (lI cs))) .un .un .un .un .un .un .un .un .un) (wX (d:=lI cs) (e:=LE [.fz (stD (0,Sh.num 1))] [.fz (lI [0])] [0] 1 (.s false (.fz (lI cs))) .un .un .un .un .un .un .un .un .un) rfl rfl rfl) e) ?_
 refine qM (o:= .fz (.int a)) (e:=LE ((L.map stD).map O.fz) gs sp fr (.s false (.fz (lI cs))) y5 y6 y7 y8 y9 y10 y11 y12 .un) (yB (vM (h1:= .d (.int a)) (v5 (h1:= .p 3 []) (h2:= .d (.int (cs.sum % (sp.length:Nat)))) (y:= .int (cs.sum % (sp.length:Nat))) (e:=LE ((L.map stD).map O.fz) gs sp fr (.s false (.fz (lI cs))) y5 y6 y7 y8 y9 y10 y11 y12 .un) (by rfl) (qYc (x:=cs.sum) (qQq (hs:=[.d (lI cs)]) (xs:=[lI cs]) (by rfl) rfl (by unfold sumD;rw [show wB [lI cs]=some cs from zC _];rfl) rfl) (qQq (hs:=[.p 3 []]) (xs:=[lI sp]) (by rfl) (by show some [fzO (rdO sp)]=_;rw [show fzO (rdO sp)=lI sp from qZm sp]) (qVn sp) rfl) (by omega)) rfl rfl ?_ rfl) rfl) rfl) ?_
 ·show(ixN ((sp.map D.int).map O.fz).length (cs.sum % (sp.length:Nat))).bind _=_
  rw [show ixN ((sp.map D.int).map O.fz).length (cs.sum % (sp.length:Nat))=some (cs.sum % (sp.length:Nat)).toNat by unfold ixN;rw [if_pos h0,if_pos (by rw [aY,aY];exact h1)]]
  show(((sp.map D.int).map O.fz)[(cs.sum % (sp.length:Nat)).toNat]?).bind _=_
  rw [bP,bP,aF hl,ha];rfl
 have c1:=vJv (i:=1) (ob:= .v (fzS (eLst [(vX [(oV (oN 4)),(vX [(oV (oC (.str "slot"))),(oV (oN 13))])])]))) (env:=LE ((L.map stD).map O.fz) gs sp fr (.s false (.fz (lI cs))) y5 y6 y7 y8 y9 y10 y11 y12 (fI a)) (e1:=LE ((L.map stD).map O.fz) gs sp fr (.s false (.fz (lI cs))) y5 y6 y7 y8 y9 y10 y11 y12 (fI a)) (xs:=L.map stD) (ys:=[stD (fr,Sh.slot a)]) (by rfl) (by rfl) (by
   show Res.ok (fzO (.ow .lst ((L.map stD).map O.fz)),LE (((L.map stD).map O.fz).map fun o=>O.fz (fzO o)) gs sp fr (.s false (.fz (lI cs))) y5 y6 y7 y8 y9 y10 y11 y12 (fI a))=_
   rw [kS,jX]) (by rw [aY];simp;omega)
 have c2:=vJv (i:=2) (ob:= .v (fzS (eLst [(fzS (eLst [(oV (oN 13)),(oV (oN 4))]))]))) (env:=LE ((L.map stD).map O.fz) gs sp fr (.s false (.fz (lI cs))) y5 y6 y7 y8 y9 y10 y11 y12 (fI a)) (e1:=LE ((L.map stD).map O.fz) ((grs.map lI).map O.fz) sp fr (.s false (.fz (lI cs))) y5 y6 y7 y8 y9 y10 y11 y12 (fI a)) (xs:=grs.map lI) (ys:=[lI [a,fr]]) (by rfl) (by rfl) (by
   show Res.ok (D.nd .lst (fzOs gs),LE ((L.map stD).map O.fz) (gs.map fun o=>O.fz (fzO o)) sp fr (.s false (.fz (lI cs))) y5 y6 y7 y8 y9 y10 y11 y12 (fI a))=_
   rw [xC,hg,show gs.map (fun o=>O.fz (fzO o))=(gs.map fzO).map O.fz by rw [bH];rfl,hg]) (by rw [aY,lg];simp;omega)
 have c3:=vJv (i:=3) (ob:= .v (fzS (eLst [(oV (oN 4))]))) (env:=LE ((L.map stD).map O.fz) ((grs.map lI).map O.fz) sp fr (.s false (.fz (lI cs))) y5 y6 y7 y8 y9 y10 y11 y12 (fI a)) (e1:=LE ((L.map stD).map O.fz) ((grs.map lI).map O.fz) sp fr (.s false (.fz (lI cs))) y5 y6 y7 y8 y9 y10 y11 y12 (fI a)) (xs:=sp.map D.int) (ys:=[.int fr]) (by rfl) (by rfl) (by
   show Res.ok (fzO (.ow .lst ((sp.map D.int).map O.fz)),[_,_,_,Slot.s false (.ow .lst (((sp.map D.int).map O.fz).map fun o=>O.fz (fzO o))),_,_,_,_,_,_,_,_,_,_])=_
   rw [kS,jX];rfl) (by rw [aY];simp;omega)
 refine qWs (yB (qKd (ds:=[.nd .lst ((L ++ [(fr,Sh.slot a)]).map stD), .nd .lst ((grs ++ [[a,fr]]).map lI),lI (sp ++ [fr])]) (e:=LE ((L.map stD).map O.fz) ((grs.map lI).map O.fz) sp fr (.s false (.fz (lI cs))) y5 y6 y7 y8 y9 y10 y11 y12 (fI a)) (v8 (jL c1 (by rw [jX,bK];rfl)) (v8 (jL c2 (by rw [jX,bK];rfl)) (v8 (jL c3 (by rw [jX,show sp.map D.int ++ [D.int fr]=(sp ++ [fr]).map D.int by simp])) rfl rfl) rfl) rfl) rfl rfl) rfl) rfl
theorem zYj (ns:List Int):cutL (ns.map D.int) none (some 40)=(ns.take 40).map D.int:=by
 unfold cutL
 rw [show HT.sIx (ns.map D.int).length 0 none=0 from rfl,List.drop_zero,Nat.sub_zero,show HT.sIx (ns.map D.int).length (ns.map D.int).length (some 40)=min 40 (ns.map D.int).length from HT.vKe _ _ 40,List.map_take]
 by_cases h:40<=(ns.map D.int).length
 ·rw [Nat.min_eq_left h]
 ·rw [Nat.min_eq_right (by omega),List.take_of_length_le (aG _),List.take_of_length_le (by omega)]
theorem made (ss:List D) (n:Int):j5 [.s true (.ow (.obj 1 []) []),fD' (.nd .lst ss),fD' (.nd .lst []),fI n]= .ok (.fz .non,[.s true (.ow (.obj 1 ["steps","draws","slots"]) [.ow .lst (ss.map .fz), .ow .lst [], .fz (.int n)]), .un, .un, .un]):=by kernel_rfl
theorem zYd:∀sh:Sh,∃x,dtOf (shD sh)=some x/\x.hgt<=4
 | .op a b=>⟨_,rfl,by simp [Dt.hgt,Dt.hgts]⟩
 | .ite a b c=>⟨_,rfl,by simp [Dt.hgt,Dt.hgts]⟩
 | .bnd f a b=>⟨_,rfl,by simp [Dt.hgt,Dt.hgts]⟩
 | .num k=>⟨_,rfl,by simp [Dt.hgt,Dt.hgts]⟩
 | .slot a=>⟨_,rfl,by simp [Dt.hgt,Dt.hgts]⟩
theorem vWy:∀L:Lp,∃xs,dtsOf (L.map stD)=some xs/\Dt.hgts xs<=5
 | []=>⟨[],rfl,by simp [Dt.hgts]⟩
 | p::L=>by
   obtain⟨xs,h1,h2⟩:=vWy L
   obtain⟨x,h3,h4⟩:=zYd p.2
   refine⟨.tup [.int p.1,x]::xs,?_,?_⟩
   ·rw [aC]
    unfold dtsOf
    rw [h1,show dtOf (stD p)=some (.tup [.int p.1,x]) by show(match dtsOf [D.int p.1,shD p.2] with | some xs=>some (Dt.tup xs) | none=>none)=_;rw [show dtsOf [D.int p.1,shD p.2]=some [.int p.1,x] by show(match dtOf (D.int p.1),dtsOf [shD p.2] with | some x,some xs=>some (x::xs) | _,_=>none)=_;rw [show dtsOf [shD p.2]=some [x] by show(match dtOf (shD p.2),dtsOf [] with | some x,some xs=>some (x::xs) | _,_=>none)=_;rw [h3];rfl];rfl]]
   ·simp only [Dt.hgts,Dt.hgt];omega
theorem zVa (L:Lp):eqD (.nd .lst (L.map stD)) (.nd .lst (L.map stD))=some (.bl true):=by
 obtain⟨xs,h1,h2⟩:=vWy L
 unfold eqD eqB
 show((dtsOf (L.map stD)).bind fun a=>(dtsOf (L.map stD)).bind fun b=>if Dt.hgts a<=30 then some (Dt.beqs a b) else none).map D.bl=_
 rw [h1]
 show(if Dt.hgts xs<=30 then some (Dt.beqs xs xs) else none).map D.bl=_
 rw [if_pos (by omega),(Dt.beqs_iff xs xs).mpr rfl];rfl
structure Told (ns:List Int) (L:Lp) (grs:List (List Int)) (sp:List Int) (last:Int) (r:Rn):Prop where
 lk:j3 [.s false (.fz (lI (ns.take 40)))]= .ok (.fz (.tup [.nd .lst (L.map stD), .nd .lst (grs.map lI),lI sp]),[.un])
 bg:qZz [.s false (.fz (oneD (L.map stD) (.nd .lst []) (.int (last + 1))))]= .ok (.ow .lst (r.map fun p=> .fz (bagD (numP 0 r) p)),[.un])
 sp0:∃s0,sp=s0 ++ [last]
 rl:∃pre os,r=pre ++ [(last,os)]
 le:r.length=sp.length
 fw:sp.length < 45
 so:aO (r.map (·.1))=sp
 ha:∀k,k < r.length->xX [.s false (.fz (fD r)),fI k]= .ok (.fz (.bl true),[.un, .un])
 he:∀g∈grs,wJ [.s false (.fz (lI g)), .s false (.fz (fD r))]= .ok (.fz (.bl true),[.un, .un])
theorem told (ns:List Int):∃L grs sp last r,Told ns L grs sp last r:=by
 obtain⟨L,grs,sp,fr,last,t,init,P,eL,⟨s0,es⟩,sl,ss,hlk⟩:=vZr (ns.take 40) (by rw [dX];omega)
 have zl:(L.map fun p=>((p.1,shD p.2,reads p.2):S3)).map (fun z=>stp z.1 z.2.1)=L.map stD:=by rw [bH];rfl
 have zp:(L.map fun p=>((p.1,shD p.2,reads p.2):S3)).map pr=lp L:=by rw [bH];rfl
 obtain⟨G,g,kk,clq,hnb⟩:=graph_ok (zs:=L.map fun p=>((p.1,shD p.2,reads p.2):S3)) (a:= .nd .lst []) (b:= .int (last + 1)) (by rw [zp];exact P.wg) (fun z hz=>by
  obtain⟨p,hp,rfl⟩:=bG.mp hz
  refine⟨?_,vKg (P.ok p hp)⟩
  show(reads p.2).length < 64
  cases p.2 <;> simp [reads]) (by rw [aY];omega)
 rw [zl] at hnb
 rw [zp,P.ow] at kk
 have lg:G.length=sp.length:=by rw [←kk];unfold ks;rw [aY]
 have eS:L.map stD=init.map stD ++ [.tup [.int last,shD t]]:=by rw [eL,bK];rfl
 rw [eS] at hnb
 obtain⟨r,run,⟨pre,os,er⟩,htk⟩:=vXb (by omega) g (by rw [kk,es];simp) hnb
 have sl2:=run.slots g
 have lr:r.length=sp.length:=by have:=sl2.length_eq;rw [aY,kk] at this;exact this
 have hb:=zVj htk (sl2.nodup_iff.mpr g.kn) (by omega) fun p hp=>by
  obtain⟨h1,h2,h3⟩:=vQ2 run g p hp
  refine⟨?_,fun o ho=>sl2.mem_iff.mpr (h3 o ho)⟩
  have:=yF h1 h3
  rw [kk] at this
  omega
 rw [←eS] at hb
 refine⟨L,grs,sp,last,r,⟨hlk,hb,⟨s0,es⟩,⟨pre,os,er⟩,lr,ss,(PySem.W.eq_sortI (by rw [←kk];exact sl2.symm) (P.inc.imp fun h=>Int.le_of_lt h)).symm,fun k hk=>vYj run g (by omega) hk,fun q hq=>?_⟩⟩
 obtain⟨h1,p,h2,h3,h4⟩:=P.gr q hq
 exact zQz run g (clq (p.1,shD p.2,reads p.2) (bG.mpr ⟨p,h2,rfl⟩)) h4 h3 (by omega)
theorem zQ6 (r:Rn):fzO (.ow .lst (r.map fun p=> .fz (bagD (numP 0 r) p)))=fD r:=by
 show D.nd .lst (fzOs (r.map fun p=> .fz (bagD (numP 0 r) p)))=_
 rw [xC,bH];rfl
theorem fst_loop {ps:Ps}:∀(r:Rn) (u:Slot),∃u',jM (gN 0) bTrue (oV (oIx (oN 0) (oC (.int 0)))) (r.map (bagD ps)) [u]= .ok ((r.map (·.1)).map .int,[u'])
 | [],u=>⟨u,rfl⟩
 | p::r,u=>by
   obtain⟨u',h⟩:=fst_loop (ps:=ps) r (fD' (bagD ps p))
   refine⟨u',?_⟩
   show(jM (gN 0) bTrue (oV (oIx (oN 0) (oC (.int 0)))) (r.map (bagD ps)) [fD' (bagD ps p)]).bind _=_
   rw [h];rfl
abbrev rf (r:Rn):List Int:=r.map (·.1)
abbrev W8 (S:Slot) (St:List D) (Gr:D) (sp:List Int) (a b c d:Slot):Ev:=[S,fD' (.nd .lst St),fD' Gr,fD' (lI sp),a,b,c,d]
abbrev onD (St:List D) (l:Int):D:=oneD St (.nd .lst []) (.int (l + 1))
abbrev o1' (St:List D) (l:Int):Slot:=fD' (onD St l)
abbrev obO (St:List D) (l:Int):O:= .ow (.obj 1 ["steps","draws","slots"]) [.ow .lst (St.map .fz), .ow .lst [], .fz (.int (l + 1))]
abbrev bgO (r:Rn):O:= .ow .lst (r.map fun p=> .fz (bagD (numP 0 r) p))
theorem vX9:∀ns:List Int,ns.length<=63->∃e,qYe [.s false (.fz (.nd .lst (ns.map D.int)))]= .ok (.fz (.bl true),e):=fun ns _=>by
 obtain⟨L,grs,sp,last,r,T⟩:=told ns
 obtain⟨s0,es⟩:=T.sp0
 obtain⟨pre,os,er⟩:=T.rl
 have few:=T.fw
 have le:=T.le
 have eb:∀ps,r.map (bagD ps)=pre.map (bagD ps) ++ [bagD ps (last,os)]:=fun ps=>by rw [er,bK];rfl
 have hr:=vKf r (by omega)
 rw [le] at hr
 obtain⟨u1,hu1⟩:=fst_loop (ps:=numP 0 r) r .un
 have hneg:ixD (lI sp) (.int (-1))=some (.int last):=by rw [es,show lI (s0 ++ [last])= .nd .lst (s0.map D.int ++ [D.int last]) by simp];exact neg1 _ _
 have hneg2:ixD (fD r) (.int (-1))=some (bagD (numP 0 r) (last,os)):=by show ixD (.nd .lst (r.map (bagD (numP 0 r)))) _=_;rw [eb];exact neg1 _ _
 have hso:sortID [lI (rf r)]=some (sp.map .int):=by
  unfold sortID
  rw [show wB [lI (rf r)]=some (rf r) from zC _]
  show cond (decide ((rf r).length < 64)) (some ((aO (rf r)).map D.int)) none=_
  rw [decide_eq_true (by rw [aY];omega),T.so];rfl
 have hpick:sAsg (fzS (vQ j3 [(.v (fzS (eSlL (oN 0) none (some (oV (oC (.int 40)))))))])) (gT 3 (gCn (gN 1) (gCn (gN 2) (gCn (gN 3) gNl)))) [fD' (lI ns), .un, .un, .un, .un, .un, .un, .un]= .ok (.nx [fD' (lI ns),fD' (.nd .lst (L.map stD)),fD' (.nd .lst (grs.map lI)),fD' (lI sp), .un, .un, .un, .un]):=by
  refine qKr (d:= .tup [.nd .lst (L.map stD), .nd .lst (grs.map lI),lI sp]) (e:=[fD' (lI ns), .un, .un, .un, .un, .un, .un, .un]) (jL (o:= .fz (.tup [.nd .lst (L.map stD), .nd .lst (grs.map lI),lI sp])) (e:=[fD' (lI ns), .un, .un, .un, .un, .un, .un, .un]) (vG (hs:=[.d (lI (ns.take 40))]) (e:=[fD' (lI ns), .un, .un, .un, .un, .un, .un, .un]) (qKl (d:=lI (ns.take 40)) (e:=[fD' (lI ns), .un, .un, .un, .un, .un, .un, .un]) (jL (o:= .ow .lst ((cutL (ns.map D.int) none (some 40)).map .fz)) (e:=[fD' (lI ns), .un, .un, .un, .un, .un, .un, .un]) (by rfl) (by rw [jX,zYj])) rfl rfl) (vU (t0:=([],[fD' (lI ns), .un, .un, .un, .un, .un, .un, .un])) (t:=([],[fD' (lI ns), .un, .un, .un, .un, .un, .un, .un])) (args:=[.s false (.fz (lI (ns.take 40)))]) (q:=(.fz (.tup [.nd .lst (L.map stD), .nd .lst (grs.map lI),lI sp]),[.un])) (os:=[]) rfl rfl rfl T.lk rfl rfl rfl)) rfl) rfl rfl
 have eSelf:=zVa L
 have hBg:=T.bg
 generalize hS:fD' (lI ns)=S at hpick
 generalize hSt:L.map stD=St at *
 generalize hGr:D.nd .lst (grs.map lI)=Gr at hpick
 have fo:fzO (obO St last)=(onD St last):=by
  show D.nd _ [fzO (.ow .lst (St.map .fz)),_,_]=_
  rw [jX];rfl
 have lastI:∀x4 x5 x6 x7:Slot,evO (oIx (oN 3) (o1 negD (oC (.int 1)))) (W8 S St Gr sp x4 x5 x6 x7)= .ok (.d (.int last),(W8 S St Gr sp x4 x5 x6 x7)):=fun x4 x5 x6 x7=>v5 (h1:= .d (lI sp)) (h2:= .d (.int (-1))) (y:= .int (-1)) (by rfl) (by rfl) rfl rfl (by show(ixD _ _).map Hn.d=_;rw [hneg];rfl) rfl
 have hmake:qJx 1 j5 [(.v (oV (oN 1))),(.v (fzS (eLst []))),(.v (oV (oAdd (oIx (oN 3) (o1 negD (oC (.int 1)))) (oC (.int 1)))))] (W8 S St Gr sp .un .un .un .un)= .ok ((obO St last),(W8 S St Gr sp .un .un .un .un)):=
  zQk (q:=(.fz .non,[])) (hs:=[.d (.nd .lst St), .d (.nd .lst []), .d (.int (last + 1))]) (e:=(W8 S St Gr sp .un .un .un .un)) (e1:=(W8 S St Gr sp .un .un .un .un) ++ [.s false (obO St last)]) (qWx (d:= .nd .lst St) rfl (qKl (d:= .nd .lst []) (e:=(W8 S St Gr sp .un .un .un .un)) rfl (qWx (d:= .int (last + 1)) (vM (h1:= .d (.int (last + 1))) (zT (h1:= .d (.int last)) (h2:= .d (.int 1)) (lastI _ _ _ _) (by rfl) rfl rfl rfl rfl rfl) rfl) rfl rfl) rfl) rfl) (vU (t0:=([],(W8 S St Gr sp .un .un .un .un) ++ [.s false (.ow (.obj 1 []) [])])) (t:=([.ow (.obj 1 []) []],(W8 S St Gr sp .un .un .un .un) ++ [.un])) (args:=[.s true (.ow (.obj 1 []) []),fD' (.nd .lst St),fD' (.nd .lst []),fI (last + 1)]) (q:=(.fz .non,[.s true (obO St last), .un, .un, .un])) (os:=[(obO St last)]) rfl rfl rfl (made St (last + 1)) rfl rfl rfl) rfl rfl
 have hbag:vQ qZz [(.v (oV (oN 4)))] (W8 S St Gr sp (.s false (obO St last)) .un .un .un)= .ok ((bgO r),(W8 S St Gr sp (o1' St last) .un .un .un)):=
  vG (hs:=[.d (onD St last)]) (e:=(W8 S St Gr sp (o1' St last) .un .un .un)) (vQn (d:=(onD St last)) (e:=(W8 S St Gr sp (o1' St last) .un .un .un)) (by show Res.ok (fzO (obO St last),(W8 S St Gr sp (.s false (.fz (fzO (obO St last)))) .un .un .un))=_;rw [fo]) rfl rfl) (vU (t0:=([],(W8 S St Gr sp (o1' St last) .un .un .un))) (t:=([],(W8 S St Gr sp (o1' St last) .un .un .un))) (args:=[.s false (.fz (onD St last))]) (q:=((bgO r),[.un])) (os:=[]) rfl rfl rfl hBg rfl rfl rfl)
 have t4:bOr (bNot (asB (.v (fzS (vQ zE [(.v (oV (oN 5))),(.v (oV (oL lenD [(oN 3)])))]))))) (asB (o2 neD (oIx (oIx (oN 5) (o1 negD (oC (.int 1)))) (oC (.int 0))) (oIx (oN 3) (o1 negD (oC (.int 1)))))) (W8 S St Gr sp (o1' St last) (.s false (bgO r)) .un .un)= .ok (false,(W8 S St Gr sp (o1' St last) (fD' (fD r)) .un .un)):=by
  refine qX7 (q:=false) (e:=(W8 S St Gr sp (o1' St last) (fD' (fD r)) .un .un)) (not_of (q:=true) (e:=(W8 S St Gr sp (o1' St last) (fD' (fD r)) .un .un)) (jO (d:= .bl true) (e:=(W8 S St Gr sp (o1' St last) (fD' (fD r)) .un .un)) (vM (h1:= .d (.bl true)) (jC (d:= .bl true) (e:=(W8 S St Gr sp (o1' St last) (fD' (fD r)) .un .un)) (jL (o:= .fz (.bl true)) (e:=(W8 S St Gr sp (o1' St last) (fD' (fD r)) .un .un)) (vG (hs:=[.d (fD r), .d (.int (sp.length:Nat))]) (e:=(W8 S St Gr sp (o1' St last) (fD' (fD r)) .un .un)) (vQn (d:=fD r) (e:=(W8 S St Gr sp (o1' St last) (fD' (fD r)) .un .un)) (by show Res.ok (fzO (bgO r),(W8 S St Gr sp (o1' St last) (.s false (.fz (fzO (bgO r)))) .un .un))=_;rw [zQ6]) (qWx (d:= .int (sp.length:Nat)) (vM (h1:= .d (.int (sp.length:Nat))) (qQq (hs:=[.d (lI sp)]) (xs:=[lI sp]) (by rfl) rfl (qVn sp) rfl) rfl) rfl rfl) rfl) (vU (t0:=([],(W8 S St Gr sp (o1' St last) (fD' (fD r)) .un .un))) (t:=([],(W8 S St Gr sp (o1' St last) (fD' (fD r)) .un .un))) (args:=[.s false (.fz (fD r)),fI (sp.length:Nat)]) (q:=(.fz (.bl true),[.un, .un])) (os:=[]) rfl rfl rfl hr rfl rfl rfl)) rfl) rfl) rfl) rfl rfl) rfl) ?_
  show asB _ _=_
  rw [qZs (x:=last) (y:=last) (ha:= .d (.int last)) (hb:= .d (.int last)) (v5 (h1:= .d (bagD (numP 0 r) (last,os))) (h2:= .d (.int 0)) (y:= .int 0) (v5 (h1:= .d (fD r)) (h2:= .d (.int (-1))) (y:= .int (-1)) (by rfl) (by rfl) rfl rfl (by show(ixD _ _).map Hn.d=_;rw [hneg2];rfl) rfl) (by rfl) rfl rfl rfl rfl) (lastI _ _ _ _) rfl rfl rfl,decide_eq_false (fun z=>z rfl)]
 have t5:asB (o2 neD (.v (fzS (eF sortID [(.v (fzS (compS 1 [] [0] (iV (oV (oN 5))) (gN 0) bTrue (oV (oIx (oN 0) (oC (.int 0)))))))]))) (oN 3)) (W8 S St Gr sp (o1' St last) (fD' (fD r)) .un .un)= .ok (false,(W8 S St Gr sp (o1' St last) (fD' (fD r)) .un .un)):=by
  refine jO (d:= .bl false) (e:=(W8 S St Gr sp (o1' St last) (fD' (fD r)) .un .un)) (vM (h1:= .d (.bl false)) (zT (h1:= .d (lI sp)) (h2:= .d (lI sp)) (jC (d:=lI sp) (e:=(W8 S St Gr sp (o1' St last) (fD' (fD r)) .un .un)) (vVj (hs:=[.d (lI (rf r))]) (xs:=[lI (rf r)]) (e:=(W8 S St Gr sp (o1' St last) (fD' (fD r)) .un .un)) (zY (jC (d:=lI (rf r)) (e:=(W8 S St Gr sp (o1' St last) (fD' (fD r)) .un .un)) (xF (ds:=r.map (bagD (numP 0 r))) (vs:=(rf r).map .int) (e:=(W8 S St Gr sp (o1' St last) (fD' (fD r)) .un .un)) (q:=[u1]) (wX (d:=fD r) (e:=(W8 S St Gr sp (o1' St last) (fD' (fD r)) .un .un)) rfl rfl rfl) ?_ hu1 rfl) rfl) rfl rfl rfl) rfl hso rfl) rfl) (by rfl) rfl rfl rfl (by unfold neD;rw [qWe,decide_eq_true rfl];rfl) rfl) rfl) rfl rfl
  show(true && decide ((r.map (bagD (numP 0 r))).length<=lim))=true
  rw [decide_eq_true (by rw [aY];show _<=1000000;omega)];rfl
 obtain⟨e6,h6,y6,rfl⟩:=forS_ok (g:=gN 6) (body:=B_law_1) (σ:=Unit) (fun _ e=>∃y,e=(W8 S St Gr sp (o1' St last) (fD' (fD r)) y .un)) (fun _ _=>()) (ds:=rngD 0 r.length) (s:=()) (env:=(W8 S St Gr sp (o1' St last) (fD' (fD r)) .un .un)) (by
  rintro _ d _ hd ⟨y,rfl⟩
  unfold rngD at hd
  obtain⟨k,hk,rfl⟩:=bG.mp hd
  rw [List.mem_range] at hk
  rw [show(0:Int) + (k:Int)=(k:Int) by omega]
  exact⟨(W8 S St Gr sp (o1' St last) (fD' (fD r)) (fI k) .un),(W8 S St Gr sp (o1' St last) (fD' (fD r)) (fI k) .un),rfl,xV (q:=false) (e:=(W8 S St Gr sp (o1' St last) (fD' (fD r)) (fI k) .un)) (not_of (q:=true) (e:=(W8 S St Gr sp (o1' St last) (fD' (fD r)) (fI k) .un)) (jO (d:= .bl true) (e:=(W8 S St Gr sp (o1' St last) (fD' (fD r)) (fI k) .un)) (vM (h1:= .d (.bl true)) (jC (d:= .bl true) (e:=(W8 S St Gr sp (o1' St last) (fD' (fD r)) (fI k) .un)) (jL (o:= .fz (.bl true)) (e:=(W8 S St Gr sp (o1' St last) (fD' (fD r)) (fI k) .un)) (vG (hs:=[.d (fD r), .d (.int k)]) (e:=(W8 S St Gr sp (o1' St last) (fD' (fD r)) (fI k) .un)) rfl (vU (t0:=([],(W8 S St Gr sp (o1' St last) (fD' (fD r)) (fI k) .un))) (t:=([],(W8 S St Gr sp (o1' St last) (fD' (fD r)) (fI k) .un))) (args:=[.s false (.fz (fD r)),fI k]) (q:=(.fz (.bl true),[.un, .un])) (os:=[]) rfl rfl rfl (T.ha k hk) rfl rfl rfl)) rfl) rfl) rfl) rfl rfl) rfl) rfl,_,rfl⟩) ⟨_,rfl⟩
 obtain⟨e7,h7,y7,rfl⟩:=forS_ok (g:=gN 7) (body:=B_law_2) (σ:=Unit) (fun _ e=>∃y,e=(W8 S St Gr sp (o1' St last) (fD' (fD r)) y6 y)) (fun _ _=>()) (ds:=grs.map lI) (s:=()) (env:=(W8 S St Gr sp (o1' St last) (fD' (fD r)) y6 .un)) (by
  rintro _ d _ hd ⟨y,rfl⟩
  obtain⟨g,hg,rfl⟩:=bG.mp hd
  exact⟨(W8 S St Gr sp (o1' St last) (fD' (fD r)) y6 (fD' (lI g))),(W8 S St Gr sp (o1' St last) (fD' (fD r)) y6 (fD' (lI g))),rfl,xV (q:=false) (e:=(W8 S St Gr sp (o1' St last) (fD' (fD r)) y6 (fD' (lI g)))) (not_of (q:=true) (e:=(W8 S St Gr sp (o1' St last) (fD' (fD r)) y6 (fD' (lI g)))) (jO (d:= .bl true) (e:=(W8 S St Gr sp (o1' St last) (fD' (fD r)) y6 (fD' (lI g)))) (vM (h1:= .d (.bl true)) (jC (d:= .bl true) (e:=(W8 S St Gr sp (o1' St last) (fD' (fD r)) y6 (fD' (lI g)))) (jL (o:= .fz (.bl true)) (e:=(W8 S St Gr sp (o1' St last) (fD' (fD r)) y6 (fD' (lI g)))) (vG (hs:=[.d (lI g), .d (fD r)]) (e:=(W8 S St Gr sp (o1' St last) (fD' (fD r)) y6 (fD' (lI g)))) rfl (vU (t0:=([],(W8 S St Gr sp (o1' St last) (fD' (fD r)) y6 (fD' (lI g))))) (t:=([],(W8 S St Gr sp (o1' St last) (fD' (fD r)) y6 (fD' (lI g))))) (args:=[.s false (.fz (lI g)), .s false (.fz (fD r))]) (q:=(.fz (.bl true),[.un, .un])) (os:=[]) rfl rfl rfl (T.he g hg) rfl rfl rfl)) rfl) rfl) rfl) rfl rfl) rfl) rfl,_,rfl⟩) ⟨_,rfl⟩
 have h8:sFor (iL rg1 [(oV (oL lenD [(oN 5)]))]) (gN 6) B_law_1 (W8 S St Gr sp (o1' St last) (fD' (fD r)) .un .un)= .ok (.nx (W8 S St Gr sp (o1' St last) (fD' (fD r)) y6 .un)):=jK (ds:=rngD 0 r.length) (e:=(W8 S St Gr sp (o1' St last) (fD' (fD r)) .un .un)) (vQl (xs:=[.int (r.length:Nat)]) (e:=(W8 S St Gr sp (o1' St last) (fD' (fD r)) .un .un)) (v8 (d:= .int (r.length:Nat)) (e:=(W8 S St Gr sp (o1' St last) (fD' (fD r)) .un .un)) (vM (h1:= .d (.int (r.length:Nat))) (qQq (hs:=[.d (fD r)]) (xs:=[fD r]) (by rfl) rfl (vVw r) rfl) rfl) rfl rfl) (zVw (by omega)) rfl) h6
 have h9:sFor (iV (oV (oN 2))) (gN 7) B_law_2 (W8 S St Gr sp (o1' St last) (fD' (fD r)) y6 .un)= .ok (.nx (W8 S St Gr sp (o1' St last) (fD' (fD r)) y6 y7)):=jK (ds:=grs.map lI) (e:=(W8 S St Gr sp (o1' St last) (fD' (fD r)) y6 .un)) (wX (d:=Gr) (e:=(W8 S St Gr sp (o1' St last) (fD' (fD r)) y6 .un)) rfl (by rw [←hGr];rfl) rfl) h7
 have h10:sRet (owS (oV (o2 eqD (oFld [1] "steps" (oN 4)) (oN 1)))) (W8 S St Gr sp (o1' St last) (fD' (fD r)) y6 y7)= .ok (.rt (.fz (.bl true)) (W8 S St Gr sp (o1' St last) (fD' (fD r)) y6 y7)):=qWs (yB (vM (h1:= .d (.bl true)) (zT (h1:= .d (.nd .lst St)) (h2:= .d (.nd .lst St)) (e:=(W8 S St Gr sp (o1' St last) (fD' (fD r)) y6 y7)) (by rfl) (by rfl) rfl rfl rfl eSelf rfl) rfl) rfl) rfl
 refine⟨outs 1 (W8 S St Gr sp (o1' St last) (fD' (fD r)) y6 y7),?_⟩
 show qYe [fD' (lI ns)]=_
 rw [hS]
 unfold qYe
 with_reducible refine zS (o:= .rt (.fz (.bl true)) (W8 S St Gr sp (o1' St last) (fD' (fD r)) y6 y7)) ?_ ?_
 ·show sSeq _ _ [S, .un, .un, .un, .un, .un, .un, .un]=_
  with_reducible refine vH hpick ?_
  with_reducible refine qM hmake ?_
  show sSeq _ _ (W8 S St Gr sp (.s false (obO St last)) .un .un .un)=_
  with_reducible refine qM hbag ?_
  show sSeq _ _ (W8 S St Gr sp (o1' St last) (.s false (bgO r)) .un .un)=_
  with_reducible refine wY t4 ?_
  with_reducible refine qKp rfl ?_
  with_reducible refine wQ ?_
  with_reducible refine wY t5 ?_
  with_reducible refine qKp rfl ?_
  with_reducible refine wQ ?_
  with_reducible refine vH h8 ?_
  with_reducible refine vH h9 ?_
  exact h10
 ·rfl
end EG
namespace X65
open PySem L2 DX PyProof.Rows
def top (i:Nat):Stmt:=PySem.Challenge.pw_flipwright_k65_whole_tree_of_bags.main.body.getD i (.Pass ⟨0,0,0,0⟩)
abbrev zV:Stmt:=zQw (top 1) 0
theorem qV9:FnScope ["self","steps","draws","slots"] ["self","steps","draws","slots"] (qJ zV):=⟨rfl,rfl,rfl,by decide +kernel,rfl,by decide +kernel,by decide +kernel⟩
abbrev j9:Stmt:=top 2
theorem qV3:FnScope ["term","kind"] ["term"] (qJ j9):=⟨rfl,rfl,rfl,by decide +kernel,rfl,by decide +kernel,by decide +kernel⟩
abbrev zH:Stmt:=top 4
theorem wV:FnScope ["term","kind","found","part"] ["term"] (qJ zH):=⟨rfl,rfl,rfl,by decide +kernel,rfl,by decide +kernel,by decide +kernel⟩
abbrev qQi:Stmt:=top 5
theorem yO:FnScope ["one","places","found","place","step"] ["one"] (qJ qQi):=⟨rfl,rfl,rfl,by decide +kernel,rfl,by decide +kernel,by decide +kernel⟩
abbrev v9:Stmt:=top 6
theorem wK:FnScope ["one","found","places"] ["one"] (qJ v9):=⟨rfl,rfl,rfl,by decide +kernel,rfl,by decide +kernel,by decide +kernel⟩
abbrev j8:Stmt:=top 8
theorem qY3:FnScope ["step","slots"] ["step","slots"] (qJ j8):=⟨rfl,rfl,rfl,by decide +kernel,rfl,by decide +kernel,by decide +kernel⟩
abbrev vP:Stmt:=top 10
theorem jB:FnScope ["around","slots","slot","other"] ["around","slots"] (qJ vP):=⟨rfl,rfl,rfl,by decide +kernel,rfl,by decide +kernel,by decide +kernel⟩
abbrev zI:Stmt:=top 11
theorem wZ:FnScope ["one","around","step","slots"] ["one"] (qJ zI):=⟨rfl,rfl,rfl,by decide +kernel,rfl,by decide +kernel,by decide +kernel⟩
abbrev zB:Stmt:=top 12
theorem qV4:FnScope ["around","last","waiting"] ["around","last"] (qJ zB):=⟨rfl,rfl,rfl,by decide +kernel,rfl,by decide +kernel,by decide +kernel⟩
abbrev jE:Stmt:=top 13
theorem zG:FnScope ["one","around","found","slot","others","other"] ["one"] (qJ jE):=⟨rfl,rfl,rfl,by decide +kernel,rfl,by decide +kernel,by decide +kernel⟩
abbrev qVk:Stmt:=top 14
theorem wC:FnScope ["one","found","numbers","slot","others","told","up"] ["one"] (qJ qVk):=⟨rfl,rfl,rfl,by decide +kernel,rfl,by decide +kernel,by decide +kernel⟩
abbrev jF:Stmt:=top 16
theorem qXp:FnScope ["_law_found"] ["_law_found"] (qJ jF):=⟨rfl,rfl,rfl,by decide +kernel,rfl,by decide +kernel,by decide +kernel⟩
abbrev zL:Stmt:=top 17
theorem jJ:FnScope ["_law_mixed_up","_law_spots","_law_last","_law_one","_law_other"] ["_law_mixed_up","_law_spots"] (qJ zL):=⟨rfl,rfl,rfl,by decide +kernel,rfl,by decide +kernel,by decide +kernel⟩
abbrev zM:Stmt:=top 18
theorem qC:FnScope ["_law_cells","_law_steps","_law_linked_here","_law_spots","_law_free","_law_cell","_law_mixed_up","_law_one","_law_other","_law_third","_law_kind","_law_group","_law_made","_law_asked"] ["_law_cells"] (qJ zM):=⟨rfl,rfl,rfl,by decide +kernel,rfl,by decide +kernel,by decide +kernel⟩
abbrev zQ:Stmt:=top 19
theorem jY:FnScope ["_law_found","_law_many","_law_k","_law_row","_law_slot"] ["_law_found","_law_many"] (qJ zQ):=⟨rfl,rfl,rfl,by decide +kernel,rfl,by decide +kernel,by decide +kernel⟩
abbrev jG:Stmt:=top 20
theorem jT:FnScope ["_law_found","_law_k","_law_slot","_law_bag","_law_up","_law_other"] ["_law_found","_law_k"] (qJ jG):=⟨rfl,rfl,rfl,by decide +kernel,rfl,by decide +kernel,by decide +kernel⟩
abbrev zK:Stmt:=top 21
theorem qQg:FnScope ["_law_group","_law_found","_law_row"] ["_law_group","_law_found"] (qJ zK):=⟨rfl,rfl,rfl,by decide +kernel,rfl,by decide +kernel,by decide +kernel⟩
abbrev qJv:Stmt:=top 22
theorem yE:FnScope ["_law_script","_law_steps","_law_linked_here","_law_spots","_law_one","_law_found","_law_k","_law_group"] ["_law_script"] (qJ qJv):=⟨rfl,rfl,rfl,by decide +kernel,rfl,by decide +kernel,by decide +kernel⟩
structure Fs (K:aQ) (mg:Str->Option Value) (c:Nat->aZ) where
 Opened__init_f:aZ
 Opened__init_d:bW
 Opened__init_A:MethAt K "__init__" "Opened.__init__" zV ["self","steps","draws","slots"] Opened__init_f Opened__init_d
 parts_of_f:aZ
 parts_of_d:bW
 parts_of_A:FnAt K mg "parts_of" j9 ["term"] parts_of_f parts_of_d
 slots_read_f:aZ
 slots_read_d:bW
 slots_read_A:FnAt K mg "slots_read" zH ["term"] slots_read_f slots_read_d
 leans_f:aZ
 leans_d:bW
 leans_A:FnAt K mg "leans" qQi ["one"] leans_f leans_d
 leaned_slots_f:aZ
 leaned_slots_d:bW
 leaned_slots_A:FnAt K mg "leaned_slots" v9 ["one"] leaned_slots_f leaned_slots_d
 with_own_f:aZ
 with_own_d:bW
 with_own_A:FnAt K mg "with_own" j8 ["step","slots"] with_own_f with_own_d
 make_neighbours_f:aZ
 make_neighbours_d:bW
 make_neighbours_A:FnAt K mg "make_neighbours" vP ["around","slots"] make_neighbours_f make_neighbours_d
 neighbours_f:aZ
 neighbours_d:bW
 neighbours_A:FnAt K mg "neighbours" zI ["one"] neighbours_f neighbours_d
 next_out_f:aZ
 next_out_d:bW
 next_out_A:FnAt K mg "next_out" zB ["around","last"] next_out_f next_out_d
 next_out_C:aZ
 next_out_FC:FunC K "next_out" zB next_out_f next_out_d next_out_C
 next_out_M:Mks K mg next_out_C (c 77)
 lamL:c 78=63
 lamC:c 79=28
 taken_out_f:aZ
 taken_out_d:bW
 taken_out_A:FnAt K mg "taken_out" jE ["one"] taken_out_f taken_out_d
 bags_f:aZ
 bags_d:bW
 bags_A:FnAt K mg "bags" qVk ["one"] bags_f bags_d
 law_whole_f:aZ
 law_whole_d:bW
 law_whole_A:FnAt K mg "_law_whole" jF ["_law_found"] law_whole_f law_whole_d
 law_picked_f:aZ
 law_picked_d:bW
 law_picked_A:FnAt K mg "_law_picked" zL ["_law_mixed_up","_law_spots"] law_picked_f law_picked_d
 law_linked_f:aZ
 law_linked_d:bW
 law_linked_A:FnAt K mg "_law_linked" zM ["_law_cells"] law_linked_f law_linked_d
 law_rows_are_f:aZ
 law_rows_are_d:bW
 law_rows_are_A:FnAt K mg "_law_rows_are" zQ ["_law_found","_law_many"] law_rows_are_f law_rows_are_d
 law_hangs_f:aZ
 law_hangs_d:bW
 law_hangs_A:FnAt K mg "_law_hangs" jG ["_law_found","_law_k"] law_hangs_f law_hangs_d
 law_held_by_f:aZ
 law_held_by_d:bW
 law_held_by_A:FnAt K mg "_law_held_by" zK ["_law_group","_law_found"] law_held_by_f law_held_by_d
 law_f:aZ
 law_d:bW
 law_A:FnAt K mg "law" qJv ["_law_script"] law_f law_d
 Opened_c:Cls K (c 1)
 Opened_mk:Mk K (c 1) Opened__init_f
 Opened_mg:mg "Opened"=some (.ref (c 1))
 f_Opened_draws:qQs K c [1] "draws"
 f_Opened_slots:qQs K c [1] "slots"
 f_Opened_steps:qQs K c [1] "steps"
structure Tx (K:aQ) (mg:Str->Option Value) (c:Nat->aZ) where
 bool_:mg "bool"=none
 enumerate_:mg "enumerate"=none
 int_:mg "int"=none
 isinstance_:mg "isinstance"=none
 len_:mg "len"=none
 list_:mg "list"=none
 min_:mg "min"=none
 range_:mg "range"=none
 set_:mg "set"=none
 sorted_:mg "sorted"=none
 sum_:mg "sum"=none
 tuple_:mg "tuple"=none
 zip_:mg "zip"=none
set_option maxHeartbeats 4000000 in
theorem qJn {P:aH} {w:bJ} {K:aQ} {c:Nat->aZ} {mg:Str->Option Value} {base:Heap} (S:Fs K mg c) (T:Tx K mg c):FnOk P w K mg base (CXd P w) 1 S.Opened__init_f S.Opened__init_d ["self","steps","draws","slots"] (spD K c 4 j5):=fnD S.Opened__init_A.F qV9 fun cdv Ar outer s H E hr=>(qV (qKg S.f_Opened_steps (qQ (pv 0)) (qKo rfl T.list_ (qQ (pv 1))))
   (qV (qKg S.f_Opened_draws (qQ (pv 0)) (xJ rfl (Nc:=["draw"]) (cs:=[]) (qKq rfl (by decide +kernel) (by decide +kernel) (by decide +kernel)) (v7 (OD.val (qQ (pv 2)))) (fun _ _ _ _=>(qF (i:=0) (show List.Nodup (["draw"]:List Str) by decide +kernel) rfl (Or.inl rfl))) (fun _ _ _ _=>qQh) (fun _ _ _ _=>(ev_e (qKo rfl T.list_ (qQ (pv 0)))))))
   (qX (qKg S.f_Opened_slots (qQ (pv 0)) (OD.ow (qQ (pv 3)))))))
set_option maxHeartbeats 4000000 in
theorem qK9 {P:aH} {w:bJ} {K:aQ} {c:Nat->aZ} {mg:Str->Option Value} {base:Heap} (S:Fs K mg c) (T:Tx K mg c):FnOk P w K mg base (CXd P w) 1 S.parts_of_f S.parts_of_d ["term"] (spD K c 1 yJ):=fnD S.parts_of_A.F qV3 fun cdv Ar outer s H E hr=>(qV (qI (i:=1) qV3.nd rfl (Or.inl rfl) (OD.ow (o_ix hr (qQ (pv 0)) qY)))
   (qV (v3 (t_eq hr (qQ (pv 1)) vF) (qX (qO (vC (qZ (OD.val (o_ix hr (qQ (pv 0)) qY)) (qZ (OD.val (o_ix hr (qQ (pv 0)) qY)) (qZ (OD.val (o_ix hr (qQ (pv 0)) qY)) qE)))))) qS)
   (qV (v3 (t_in hr (qQ (pv 1)) (od_v (vI (qZ (OD.val vF) (qZ (OD.val vF) qE))))) (qX (qO (vC (qZ (OD.val (o_ix hr (qQ (pv 0)) qY)) (qZ (OD.val (o_ix hr (qQ (pv 0)) qY)) qE))))) qS)
   (qV (v3 (t_in hr (qQ (pv 1)) (od_v (vI (qZ (OD.val vF) (qZ (OD.val vF) qE))))) (qX (qO (vC (qZ (OD.val (o_ix hr (qQ (pv 0)) qY)) qE)))) qS)
   (qV (v3 (t_eq hr (qQ (pv 1)) vF) (qX (qO (xJ rfl (Nc:=["name","part"]) (cs:=[]) (qKq rfl (by decide +kernel) (by decide +kernel) (by decide +kernel)) (v7 (OD.val (o_ix hr (qQ (pv 0)) qY))) (fun _ _ _ _=>(yH rfl (vK (qF (i:=0) (show List.Nodup (["name","part"]:List Str) by decide +kernel) rfl (Or.inl rfl)) (vK (qF (i:=1) (show List.Nodup (["name","part"]:List Str) by decide +kernel) rfl (Or.inl rfl)) xZ)))) (fun _ _ _ _=>qQh) (fun _ _ _ _=>(OD.val (qQ (pv 1))))))) qS)
   (qV (v3 (t_eq hr (qQ (pv 1)) vF) (qX (qO (qKo rfl T.list_ (o_ix hr (qQ (pv 0)) qY)))) qS)
   (qX (qO (vC qE)))))))))
set_option maxHeartbeats 4000000 in
theorem qVh {P:aH} {w:bJ} {K:aQ} {c:Nat->aZ} {mg:Str->Option Value} {base:Heap} (S:Fs K mg c) (T:Tx K mg c):∀h:Nat,FnOk P w K mg base (CXd P w) (1 * h + 2) S.slots_read_f S.slots_read_d ["term"] (spD K c 1 (qK h))
 | 0=>fnNo
 | h + 1=>by
   have ih:=qVh (P:=P) (w:=w) (base:=base) S T h
   exact FnOk.lv (by omega) (fnD (k:=1 * h + 2) S.slots_read_A.F wV fun cdv Ar outer s H E hr=>(qV (qI (i:=1) wV.nd rfl (Or.inl rfl) (OD.ow (o_ix hr (qQ (pv 0)) qY)))
    (qV (v3 (t_eq hr (qQ (pv 1)) vF) (qX (qO (vC (qZ (OD.val (o_ix hr (qQ (pv 0)) qY)) qE)))) qS)
    (qV (v3 (t_eq hr (qQ (pv 1)) vF) (qX (qO (qVo (od_e (vY (as:=[(.v (oV (oIx (oN 0) (oC (.int 2)))))]) ih (hr.mono (by omega)) rfl S.slots_read_A.m S.slots_read_A.F.kp S.slots_read_A.b qR (qD (od_v (OD.val (o_ix hr (qQ (pv 0)) qY))) vV))) (od_e (xJ rfl (Nc:=["slot","term"]) (cs:=[(1,0)]) (qJ4 (cl:=[("term",_)]) [(1,0)] [(".0", .local),("slot", .local),("term", .cell)] ["term"] rfl rfl rfl rfl (by decide +kernel) (by decide +kernel) ⟨rfl,trivial⟩ (by decide +kernel) ⟨⟨_,rfl,rfl,rfl,rfl⟩,trivial⟩) (v7 (ev_e (vY (as:=[(.v (oV (oIx (oN 0) (oC (.int 3)))))]) ih (hr.mono (by omega)) rfl S.slots_read_A.m S.slots_read_A.F.kp S.slots_read_A.b qR (qD (od_v (OD.val (o_ix hr (qQ (pv 0)) qY))) vV)))) (fun _ _ _ _=>(qF (i:=0) (show List.Nodup (["slot","term"]:List Str) by decide +kernel) rfl (Or.inl rfl))) (fun _ _ _ _=>(qW0 (t_ne hr (qQ (pv 0)) (o_ix hr (qQ (pv 1)) qY)))) (fun _ _ _ _=>(OD.val (qQ (pv 0))))))))) qS)
    (qV (qI (i:=2) wV.nd rfl (Or.inl rfl) (vC qE))
    (qV (zO bI rfl (v7 (ev_e (vY (as:=[(.v (oV (oN 0)))]) (qK9 S T) (hr.mono (by omega)) rfl S.parts_of_A.m S.parts_of_A.F.kp S.parts_of_A.b qR (qD (od_v (OD.val (qQ (pv 0)))) vV)))) (qF (i:=3) wV.nd rfl (Or.inl rfl)) (qX (zP (vYt (qQ (pv 2)) (vY (as:=[(.v (oV (oN 3)))]) ih (hr.mono (by omega)) rfl S.slots_read_A.m S.slots_read_A.F.kp S.slots_read_A.b qR (qD (od_v (OD.val (qQ (pv 3)))) vV))))))
    (qX (qO (qJ0 (pv 2))))))))))
set_option maxHeartbeats 4000000 in
theorem zVg {P:aH} {w:bJ} {K:aQ} {c:Nat->aZ} {mg:Str->Option Value} {base:Heap} (S:Fs K mg c) (T:Tx K mg c):FnOk P w K mg base (CXd P w) 11 S.leans_f S.leans_d ["one"] (spD K c 1 qXk):=fnD S.leans_A.F yO fun cdv Ar outer s H E hr=>(qV (qI (i:=1) yO.nd rfl (Or.inr rfl) qZf)
   (qV (qI (i:=2) yO.nd rfl (Or.inl rfl) (vC qE))
   (qV (zO bI rfl (zQx rfl T.enumerate_ (qZ (OD.val (qZr S.f_Opened_steps (qQ (pv 0)))) qE)) (yH rfl (vK (qF (i:=3) yO.nd rfl (Or.inl rfl)) (vK (qF (i:=4) yO.nd rfl (Or.inl rfl)) xZ))) (qV (zP (jZ (qQ (pv 2)) (vVt rfl rfl T.set_ rfl T.sorted_ (od_e (xJ rfl (Nc:=["slot","places"]) (cs:=[(1,1)]) (qJ4 (cl:=[("places",_)]) [(1,1)] [(".0", .local),("slot", .local),("places", .cell)] ["places"] rfl rfl rfl rfl (by decide +kernel) (by decide +kernel) ⟨rfl,trivial⟩ (by decide +kernel) ⟨⟨_,rfl,rfl,rfl,rfl⟩,trivial⟩) (v7 (ev_e (vY (as:=[(.v (oV (oIx (oN 4) (oC (.int 1)))))]) (qVh S T 8) (hr.mono (by decide)) rfl S.slots_read_A.m S.slots_read_A.F.kp S.slots_read_A.b qR (qD (od_v (OD.val (o_ix hr (qQ (pv 4)) qY))) vV)))) (fun _ _ _ _=>(qF (i:=0) (show List.Nodup (["slot","places"]:List Str) by decide +kernel) rfl (Or.inl rfl))) (fun _ _ _ _=>qQh) (fun _ _ _ _=>(OD.val (o_ix hr (qQ (pv 1)) (qQ (pv 0))))))))))
   (qX (v3 (t_ne hr (o_ix hr (qQ (pv 4)) qY) (qVx qY)) (qX (qWr (qZk hr) (qQ (pv 1)) (o_ix hr (qQ (pv 4)) qY) (OD.ow (qQ (pv 3))))) qS))))
   (qX (qO (qJ0 (pv 2)))))))
set_option maxHeartbeats 4000000 in
theorem qJl {P:aH} {w:bJ} {K:aQ} {c:Nat->aZ} {mg:Str->Option Value} {base:Heap} (S:Fs K mg c) (T:Tx K mg c):FnOk P w K mg base (CXd P w) 12 S.leaned_slots_f S.leaned_slots_d ["one"] (spD K c 1 j4):=fnD S.leaned_slots_A.F wK fun cdv Ar outer s H E hr=>(qV (qI (i:=1) wK.nd rfl (Or.inl rfl) (vC qE))
   (qV (zO bI rfl (v7 (ev_e (vY (as:=[(.v (oV (oN 0)))]) (zVg S T) (hr.mono (by decide)) rfl S.leans_A.m S.leans_A.F.kp S.leans_A.b qR (qD (od_v (OD.val (qQ (pv 0)))) vV)))) (qF (i:=2) wK.nd rfl (Or.inl rfl)) (qX (zP (jZ (qQ (pv 1)) (xJ rfl (Nc:=["place","one"]) (cs:=[(1,0)]) (qJ4 (cl:=[("one",_)]) [(1,0)] [(".0", .local),("place", .local),("one", .cell)] ["one"] rfl rfl rfl rfl (by decide +kernel) (by decide +kernel) ⟨rfl,trivial⟩ (by decide +kernel) ⟨⟨_,rfl,rfl,rfl,rfl⟩,trivial⟩) (v7 (OD.val (qQ (pv 2)))) (fun _ _ _ _=>(qF (i:=0) (show List.Nodup (["place","one"]:List Str) by decide +kernel) rfl (Or.inl rfl))) (fun _ _ _ _=>qQh) (fun _ _ _ _=>(OD.val (o_ix hr (o_ix hr (qZr S.f_Opened_steps (qQ (pv 1))) (qQ (pv 0))) qY))))))))
   (qX (qO (qJ0 (pv 1))))))
set_option maxHeartbeats 4000000 in
theorem qK8 {P:aH} {w:bJ} {K:aQ} {c:Nat->aZ} {mg:Str->Option Value} {base:Heap} (S:Fs K mg c) (T:Tx K mg c):FnOk P w K mg base (CXd P w) 1 S.with_own_f S.with_own_d ["step","slots"] (spD K c 2 yZ):=fnD S.with_own_A.F qY3 fun cdv Ar outer s H E hr=>(qX (qO (vYp (t_eq hr (o_ix hr (qQ (pv 0)) qY) (qVx qY)) (OD.ow (qQ (pv 1))) (qVo (qQ (pv 1)) (od_e (vC (qZ (OD.val (o_ix hr (qQ (pv 0)) qY)) qE)))))))
set_option maxHeartbeats 4000000 in
theorem xY {P:aH} {w:bJ} {K:aQ} {c:Nat->aZ} {mg:Str->Option Value} {base:Heap} (S:Fs K mg c) (T:Tx K mg c):FnOk P w K mg base (CXd P w) 1 S.make_neighbours_f S.make_neighbours_d ["around","slots"] (spD K c 2 zU):=fnD S.make_neighbours_A.F jB fun cdv Ar outer s H E hr=>(qX (zO bI rfl (v7 (OD.val (qQ (pv 1)))) (qF (i:=2) jB.nd rfl (Or.inl rfl)) (qX (zO bI rfl (v7 (OD.val (qQ (pv 1)))) (qF (i:=3) jB.nd rfl (Or.inl rfl)) (qX (v3 (t_ne hr (qQ (pv 3)) (qQ (pv 2))) (qX (qWr (qZk hr) (o_ix hr (qQ (pv 0)) (qQ (pv 2))) (qQ (pv 3)) (OD.ow wU))) qS))))))
set_option maxHeartbeats 4000000 in
theorem qXu {P:aH} {w:bJ} {K:aQ} {c:Nat->aZ} {mg:Str->Option Value} {base:Heap} (S:Fs K mg c) (T:Tx K mg c):FnOk P w K mg base (CXd P w) 13 S.neighbours_f S.neighbours_d ["one"] (spD K c 1 j0):=fnD S.neighbours_A.F wZ fun cdv Ar outer s H E hr=>(qV (qI (i:=1) wZ.nd rfl (Or.inl rfl) qZf)
   (qV (zO bI rfl (zWn rfl T.zip_ (qZ (OD.val (qZr S.f_Opened_steps (qQ (pv 0)))) (qZ (ev_e (vY (as:=[(.v (oV (oN 0)))]) (qJl S T) (hr.mono (by decide)) rfl S.leaned_slots_A.m S.leaned_slots_A.F.kp S.leaned_slots_A.b qR (qD (od_v (OD.val (qQ (pv 0)))) vV))) qE))) (yH rfl (vK (qF (i:=2) wZ.nd rfl (Or.inl rfl)) (vK (qF (i:=3) wZ.nd rfl (Or.inl rfl)) xZ))) (qV (v3 (t_ne hr (o_ix hr (qQ (pv 2)) qY) (qVx qY)) (qX (qWr (qZk hr) (qQ (pv 1)) (o_ix hr (qQ (pv 2)) qY) qZf)) qS)
   (qX (zP (vY (as:=[(.io 1),(.v (fzS (vQ yZ [(.v (oV (oN 2))),(.v (oV (oN 3)))])))]) (xY S T) (hr.mono (by decide)) rfl S.make_neighbours_A.m S.make_neighbours_A.F.kp S.make_neighbours_A.b qR (qD (zV6 (pv 1)) (qD (od_v (ev_e (vY (as:=[(.v (oV (oN 2))),(.v (oV (oN 3)))]) (qK8 S T) (hr.mono (by decide)) rfl S.with_own_A.m S.with_own_A.F.kp S.with_own_A.b qR (qD (od_v (OD.val (qQ (pv 2)))) (qD (od_v (OD.val (qQ (pv 3)))) vV))))) vV)))))))
   (qX (qO (qJ0 (pv 1))))))
set_option maxHeartbeats 4000000 in
theorem vQa {P:aH} {w:bJ} {K:aQ} {c:Nat->aZ} {mg:Str->Option Value} {base:Heap} (S:Fs K mg c) (T:Tx K mg c):FnOk P w K mg base (CXd P w) 4 S.next_out_f S.next_out_d ["around","last"] (spD K c 2 qQ2):=by
 refine FnOk.imp (sp:=zVu (c 77) (c 78) (c 79)) (FunC.okD (k:=3) S.next_out_FC qV4 (fun vs H Q E h=>?_) fun Ar outer s H vs Q E hr h=>?_) fun vs H Q E h=>vX5 S.next_out_M.h0 h
 ·obtain⟨a,kvs,n,g,rfl,_⟩:=h;rfl
 obtain⟨a,kvs,n,g,rfl,h1,h2,h3,h4,h5,q⟩:=h
 rw [S.lamL,S.lamC] at h4
 refine⟨_,qYl (vKp (ia:=0) (il:=1) (i:=2) rfl qV4.nd rfl (Or.inl rfl) (qJ4 (cl:=[("last",_)]) [(1,1)] [(".0", .local),("slot", .local),("last", .cell)] ["last"] rfl rfl rfl rfl (by decide +kernel) (by decide +kernel) ⟨rfl,trivial⟩ (by decide +kernel) ⟨⟨_,rfl,rfl,rfl,rfl⟩,trivial⟩) (pv 0)
   (fun _ _ _ _=>vQ8 (i:=0) (show List.Nodup (["slot","last"]:List Str) by decide +kernel) rfl (Or.inl rfl)) (fun _ _ _ _=>qW0 (t_ne hr (qQ (pv 0)) (qQ (pv 1)))) (fun _ _ _ _=>pv 0))
  (vQ7 (vWd (vK3 (k:=0) (y:="around") (z:="slot") (Pt:=c 77) (qual:=lamQ) (iw:=2) (il:=1) (ja:=0) hr rfl rfl T.min_ Boot.«min» (pv 2) (pv 1) rfl rfl rfl rfl S.next_out_M.hhd S.next_out_M.hP S.next_out_M.hB
   ⟨rfl,rfl,rfl,by decide +kernel,rfl,by decide +kernel,by decide +kernel,zQ7 (cs:=["around"]) (by decide +kernel),(fun x m=>by cases aS.mp (show x∈ [("around":Str)] from m);rfl),cN ..⟩ rfl rfl rfl rfl rfl (fun _ _ _ _=>rfl)
   (fun f c1 s' H' hr' =>vWg (jR (yR qWj rfl T.len_ Boot.«len» (jR (zV2 (vVe (dN (Nat.add_le_add_left (show 1<=64 by decide) _) hr'.units)) (pv 1) (pv 0) (fun _ _=>rfl)) xI)) (jR (pv 0) xI)))))),?_⟩
 refine⟨a,kvs,n,rfl,h1,rfl,h2,h3,fun D H1 hD sm eD=>⟨D,_,n, .ref a,g,rfl,rfl,rfl,eD,sm _ _ h4,fun H2 m hm nr Q2 k2=>?_,fun H2 m sm2 em=>q m H2 (sm.trans sm2) em⟩⟩
 obtain⟨b,ls,e1,e2,e3⟩:=h5 m (cL.mp hm).1
 have near:∀ {x:aZ} {l:List (Key×V)},H x=some (.dK l)->H2 x=some (.dK l):=fun {x l} e=>nr x _ (fun z=>by rw [z,h4] at e;cases e) (fun z=>nomatch z) (sm _ _ e)
 refine⟨.ref a,rfl, .int m,rfl,a, .ref b,rfl,(by show DGet H2 a (kV (.inl m)) (some (.ref b));rw [←e1];exact DGet.k (near h1)),b,ls,rfl,near e2, .int m,rfl,(show 2<=bX by decide),fun p hp=>?_⟩
 refine k2 _ _ (.upd hp) ⟨p,rfl,SqT.of ?_⟩
 rw [e3]
 exact upd_same
set_option maxHeartbeats 4000000 in
theorem qY8 {P:aH} {w:bJ} {K:aQ} {c:Nat->aZ} {mg:Str->Option Value} {base:Heap} (S:Fs K mg c) (T:Tx K mg c):FnOk P w K mg base (CXd P w) 14 S.taken_out_f S.taken_out_d ["one"] (spD K c 1 xW):=fnD S.taken_out_A.F zG fun cdv Ar outer s H E hr=>(qV (qI (i:=1) zG.nd rfl (Or.inl rfl) (vY (as:=[(.v (oV (oN 0)))]) (qXu S T) (hr.mono (by decide)) rfl S.neighbours_A.m S.neighbours_A.F.kp S.neighbours_A.b qR (qD (od_v (OD.val (qQ (pv 0)))) vV)))
   (qV (qI (i:=2) zG.nd rfl (Or.inl rfl) (vC qE))
   (qV (vXk 100000 bI (t_gt (wG rfl T.len_ (qQ (pv 1))) qY) (qV (qI (i:=3) zG.nd rfl (Or.inl rfl) (vY (as:=[(.b (pOf (oN 1))),(.v (oV (oIx (oIx (oFld [1] "steps" (oN 0)) (o1 negD (oC (.int 1)))) (oC (.int 0)))))]) (vQa S T) (hr.mono (by decide)) rfl S.next_out_A.m S.next_out_A.F.kp S.next_out_A.b qR (qD (zV7 (qQ (pv 1))) (qD (od_v (OD.val (o_ix hr (o_ix hr (qZr S.f_Opened_steps (qQ (pv 0))) (qVx qY)) qY))) vV))))
   (qV (qI (i:=4) zG.nd rfl (Or.inl rfl) (zVf rfl T.list_ (od_e (vW2 (qQ (pv 1)) (qQ (pv 3)) ⟨rfl,rfl,rfl,rfl⟩))))
   (qV (zO bI rfl (v7 (OD.val (qQ (pv 4)))) (qF (i:=5) zG.nd rfl (Or.inl rfl)) (qX (zP (vW2 (o_ix hr (qQ (pv 1)) (qQ (pv 5))) (qQ (pv 3)) ⟨rfl,rfl,rfl,rfl⟩))))
   (qV (zP (vY (as:=[(.io 1),(.v (oV (oN 4)))]) (xY S T) (hr.mono (by decide)) rfl S.make_neighbours_A.m S.make_neighbours_A.F.kp S.make_neighbours_A.b qR (qD (zV6 (pv 1)) (qD (od_v (OD.val (qQ (pv 4)))) vV))))
   (qX (zP (jZ (qQ (pv 2)) (ed_v (vI (qZ (OD.val (qQ (pv 3))) (qZ (OD.val (qQ (pv 4))) qE))))))))))))
   (qX (qO (qJ0 (pv 2)))))))
set_option maxHeartbeats 4000000 in
theorem zWx {P:aH} {w:bJ} {K:aQ} {c:Nat->aZ} {mg:Str->Option Value} {base:Heap} (S:Fs K mg c) (T:Tx K mg c):FnOk P w K mg base (CXd P w) 15 S.bags_f S.bags_d ["one"] (spD K c 1 qZz):=fnD S.bags_A.F wC fun cdv Ar outer s H E hr=>(qV (qI (i:=1) wC.nd rfl (Or.inl rfl) (vY (as:=[(.v (oV (oN 0)))]) (qY8 S T) (hr.mono (by decide)) rfl S.taken_out_A.m S.taken_out_A.F.kp S.taken_out_A.b qR (qD (od_v (OD.val (qQ (pv 0)))) vV)))
   (qV (qI (i:=2) wC.nd rfl (Or.inr rfl) qZf)
   (qV (zO bI rfl (v7 (OD.val (qQ (pv 1)))) (yH rfl (vK (qF (i:=3) wC.nd rfl (Or.inl rfl)) (vK (qF (i:=4) wC.nd rfl (Or.inl rfl)) xZ))) (qX (qWr (qZk hr) (qQ (pv 2)) (qQ (pv 3)) (OD.ow (wG rfl T.len_ (qQ (pv 2)))))))
   (qV (qI (i:=5) wC.nd rfl (Or.inl rfl) (vC qE))
   (qV (zO bI rfl (v7 (OD.val (qQ (pv 1)))) (yH rfl (vK (qF (i:=3) wC.nd rfl (Or.inl rfl)) (vK (qF (i:=4) wC.nd rfl (Or.inl rfl)) xZ))) (qV (qI (i:=6) wC.nd rfl (Or.inl rfl) (ed_v (zZk rfl rfl T.min_ (od_e (xJ rfl (Nc:=["other","numbers"]) (cs:=[(1,2)]) (qJ4 (cl:=[("numbers",_)]) [(1,2)] [(".0", .local),("other", .local),("numbers", .cell)] ["numbers"] rfl rfl rfl rfl (by decide +kernel) (by decide +kernel) ⟨rfl,trivial⟩ (by decide +kernel) ⟨⟨_,rfl,rfl,rfl,rfl⟩,trivial⟩) (v7 (OD.val (qQ (pv 4)))) (fun _ _ _ _=>(qF (i:=0) (show List.Nodup (["other","numbers"]:List Str) by decide +kernel) rfl (Or.inl rfl))) (fun _ _ _ _=>qQh) (fun _ _ _ _=>(OD.val (o_ix hr (qQ (pv 1)) (qQ (pv 0))))))))))
   (qX (zP (jZ (qQ (pv 5)) (ed_v (vI (qZ (OD.val (qQ (pv 3))) (qZ (ev_e (qWh rfl T.sorted_ (od_e (qVo (qQ (pv 4)) (od_e (vC (qZ (OD.val (qQ (pv 3))) qE))))))) (qZ (OD.val (qQ (pv 6))) qE))))))))))
   (qX (qO (qJ0 (pv 5)))))))))
set_option maxHeartbeats 4000000 in
theorem qQe {P:aH} {w:bJ} {K:aQ} {c:Nat->aZ} {mg:Str->Option Value} {base:Heap} (S:Fs K mg c) (T:Tx K mg c):FnOk P w K mg base (CXd P w) 1 S.law_whole_f S.law_whole_d ["_law_found"] (spD K c 1 jH):=fnD S.law_whole_A.F qXp fun cdv Ar outer s H E hr=>(qX (qO (OD.ow (zJ5 (qZq (n:="int") (by decide) rfl T.isinstance_ Boot.«isinstance» rfl T.int_ Boot.«int» (qQ (pv 0))) (zJ2 (zJ3 (qZq (n:="bool") (by decide) rfl T.isinstance_ Boot.«isinstance» rfl T.bool_ Boot.«bool» (qQ (pv 0)))))))))
set_option maxHeartbeats 4000000 in
theorem qXv {P:aH} {w:bJ} {K:aQ} {c:Nat->aZ} {mg:Str->Option Value} {base:Heap} (S:Fs K mg c) (T:Tx K mg c):FnOk P w K mg base (CXd P w) 1 S.law_picked_f S.law_picked_d ["_law_mixed_up","_law_spots"] (spD K c 2 zN):=fnD S.law_picked_A.F jJ fun cdv Ar outer s H E hr=>(qV (qI (i:=2) jJ.nd rfl (Or.inl rfl) (OD.ow (vJn (wG rfl T.len_ (qQ (pv 1))) qY)))
   (qV (qI (i:=3) jJ.nd rfl (Or.inl rfl) (ed_v (vI (qZ (OD.val vF) (qZ (OD.val (o_ix hr (qQ (pv 1)) (vJn (qQ (pv 2)) (qVy (qQ (pv 0)) (vWj rfl rfl T.min_ qY (wG rfl T.len_ (qQ (pv 1)))))))) qE)))))
   (qV (qI (i:=4) jJ.nd rfl (Or.inl rfl) (ed_v (vI (qZ (OD.val vF) (qZ (OD.val (o_ix hr (qQ (pv 1)) (vJn (qQ (pv 2)) (qVy (qYa (qQ (pv 0)) qY) (vWj rfl rfl T.min_ qY (wG rfl T.len_ (qQ (pv 1)))))))) qE)))))
   (qV (v3 (t_eq hr (qVy (qYa (qQ (pv 0)) qY) qY) qY) (qX (qI (i:=4) jJ.nd rfl (Or.inl rfl) (ed_v (vI (qZ (OD.val vF) (qZ (OD.val (o_ix hr (qQ (pv 1)) (qVy (qYa (qQ (pv 0)) qY) (wG rfl T.len_ (qQ (pv 1)))))) qE)))))) qS)
   (qX (qO (ed_v (vI (qZ (OD.val (qQ (pv 3))) (qZ (OD.val (qQ (pv 4))) qE))))))))))
set_option maxHeartbeats 4000000 in
theorem qXw {P:aH} {w:bJ} {K:aQ} {c:Nat->aZ} {mg:Str->Option Value} {base:Heap} (S:Fs K mg c) (T:Tx K mg c):FnOk P w K mg base (CXd P w) 2 S.law_linked_f S.law_linked_d ["_law_cells"] (spD K c 1 j3):=fnD S.law_linked_A.F qC fun cdv Ar outer s H E hr=>(qV (qI (i:=1) qC.nd rfl (Or.inl rfl) (vC (qZ (vI (qZ (OD.val qY) (qZ (vI (qZ (OD.val vF) (qZ (OD.val qY) qE))) qE))) qE)))
   (qV (qI (i:=2) qC.nd rfl (Or.inl rfl) (vC (qZ (ev_e (vC (qZ (OD.val qY) qE))) qE)))
   (qV (qI (i:=3) qC.nd rfl (Or.inl rfl) (vC (qZ (OD.val qY) qE)))
   (qV (qI (i:=4) qC.nd rfl (Or.inl rfl) (OD.ow qY))
   (qV (zO bI rfl (v7 (OD.val (qQ (pv 0)))) (qF (i:=5) qC.nd rfl (Or.inl rfl)) (qV (qI (i:=6) qC.nd rfl (Or.inl rfl) (OD.ow (qVy (zXv (qQ (pv 5)) qY) qY)))
   (qV (qKf (ev_e (vY (as:=[(.v (oV (oDiv (oN 6) (oC (.int 8))))),(.b (pOf (oN 3)))]) (qXv S T) (hr.mono (by decide)) rfl S.law_picked_A.m S.law_picked_A.F.kp S.law_picked_A.b qR (qD (od_v (OD.val (qYa (qQ (pv 6)) qY))) (qD (zV7 (qQ (pv 3))) vV)))) (yH rfl (vK (qF (i:=7) qC.nd rfl (Or.inl rfl)) (vK (qF (i:=8) qC.nd rfl (Or.inl rfl)) xZ))))
   (qV (qI (i:=9) qC.nd rfl (Or.inl rfl) (ed_v (vI (qZ (OD.val vF) (qZ (OD.val (o_ix hr (qQ (pv 3)) (qVy (qYa (qQ (pv 6)) qY) (wG rfl T.len_ (qQ (pv 3)))))) qE)))))
   (qV (qI (i:=10) qC.nd rfl (Or.inl rfl) (OD.ow (qVy (qQ (pv 6)) qY)))
   (qV (qI (i:=11) qC.nd rfl (Or.inl rfl) (vC (qZ (OD.val (o_ix hr (qQ (pv 7)) qY)) (qZ (OD.val (o_ix hr (qQ (pv 8)) qY)) qE))))
   (qV (qI (i:=12) qC.nd rfl (Or.inl rfl) (ed_v (vI (qZ (OD.val vF) (qZ (OD.val vF) (qZ (OD.val (qQ (pv 7))) (qZ (OD.val (qQ (pv 8))) qE)))))))
   (qV (v3 (t_eq hr (qQ (pv 10)) qY) (qV (qI (i:=12) qC.nd rfl (Or.inl rfl) (ed_v (vI (qZ (OD.val vF) (qZ (OD.val (qQ (pv 7))) (qZ (OD.val (qQ (pv 8))) (qZ (OD.val (qQ (pv 9))) qE)))))))
   (qX (zP (jZ (qQ (pv 11)) (OD.ow (o_ix hr (qQ (pv 9)) qY)))))) qS)
   (qV (v3 (t_eq hr (qQ (pv 10)) qY) (qV (qI (i:=12) qC.nd rfl (Or.inl rfl) (ed_v (vI (qZ (OD.val vF) (qZ (OD.val (qQ (pv 4))) (qZ (OD.val (qQ (pv 7))) (qZ (vI (qZ (OD.val vF) (qZ (OD.val vF) (qZ (vI (qZ (OD.val vF) (qZ (OD.val (qQ (pv 4))) qE))) (qZ (OD.val (qQ (pv 8))) qE))))) qE)))))))
   (qX (qI (i:=4) qC.nd rfl (Or.inl rfl) (OD.ow (vJo (qQ (pv 4)) qY))))) qS)
   (qV (v3 (t_eq hr (qQ (pv 10)) qY) (qV (qI (i:=12) qC.nd rfl (Or.inl rfl) (ed_v (vI (qZ (OD.val vF) (qZ (OD.val qY) qE)))))
   (qX (qI (i:=11) qC.nd rfl (Or.inl rfl) (vC qE)))) qS)
   (qV (v3 (td_w (qZh (t_eq hr (qQ (pv 10)) qY) (qZo (t_eq hr (qQ (pv 10)) qY)))) (qX (zP (jZ (qQ (pv 1)) (ed_v (vI (qZ (OD.val (qVx qY)) (qZ (OD.val (qQ (pv 12))) qE))))))) (qV (zP (jZ (qQ (pv 1)) (ed_v (vI (qZ (OD.val (qQ (pv 4))) (qZ (OD.val (qQ (pv 12))) qE))))))
   (qV (zP (jZ (qQ (pv 11)) (OD.ow (qQ (pv 4)))))
   (qV (zP (jZ (qQ (pv 3)) (OD.ow (qQ (pv 4)))))
   (qX (qI (i:=4) qC.nd rfl (Or.inl rfl) (OD.ow (vJo (qQ (pv 4)) qY))))))))
   (qX (zP (jZ (qQ (pv 2)) (vVt rfl rfl T.set_ rfl T.sorted_ (qQ (pv 11)))))))))))))))))
   (qV (qI (i:=13) qC.nd rfl (Or.inl rfl) (OD.ow (o_ix hr (qQ (pv 3)) (qVy (zXu rfl rfl T.sum_ (qQ (pv 0))) (wG rfl T.len_ (qQ (pv 3)))))))
   (qX (qO (ed_v (vI (qZ (ev_e (qVo (qQ (pv 1)) (od_e (vC (qZ (vI (qZ (OD.val (qQ (pv 4))) (qZ (vI (qZ (OD.val vF) (qZ (OD.val (qQ (pv 13))) qE))) qE))) qE))))) (qZ (ev_e (qVo (qQ (pv 2)) (od_e (vC (qZ (ev_e (vC (qZ (OD.val (qQ (pv 13))) (qZ (OD.val (qQ (pv 4))) qE)))) qE))))) (qZ (ev_e (qVo (qQ (pv 3)) (od_e (vC (qZ (OD.val (qQ (pv 4))) qE))))) qE)))))))))))))
set_option maxHeartbeats 4000000 in
theorem qJm {P:aH} {w:bJ} {K:aQ} {c:Nat->aZ} {mg:Str->Option Value} {base:Heap} (S:Fs K mg c) (T:Tx K mg c):FnOk P w K mg base (CXd P w) 2 S.law_rows_are_f S.law_rows_are_d ["_law_found","_law_many"] (spD K c 2 zE):=fnD S.law_rows_are_A.F jY fun cdv Ar outer s H E hr=>(qV (v3 (td_w (qZh (xK (xH (qZq (n:="list") (by decide) rfl T.isinstance_ Boot.«isinstance» rfl T.list_ Boot.«list» (qQ (pv 0))))) (qZo (t_ne hr (wG rfl T.len_ (qQ (pv 0))) (qQ (pv 1)))))) (qX (qO (OD.ow wU))) qS)
   (qV (zO bI rfl (qWd rfl T.range_ (qZ (OD.val (qQ (pv 1))) qE)) (qF (i:=2) jY.nd rfl (Or.inl rfl)) (qV (qI (i:=3) jY.nd rfl (Or.inl rfl) (OD.ow (o_ix hr (qQ (pv 0)) (qQ (pv 2)))))
   (qV (v3 (td_w (qZh (xK (xH (qZq (n:="tuple") (by decide) rfl T.isinstance_ Boot.«isinstance» rfl T.tuple_ Boot.«tuple» (qQ (pv 3))))) (qZh (t_ne hr (wG rfl T.len_ (qQ (pv 3))) qY) (qZh (xK (xH (od_e (vY (as:=[(.v (oV (oIx (oN 3) (oC (.int 0)))))]) (qQe S T) (hr.mono (by decide)) rfl S.law_whole_A.m S.law_whole_A.F.kp S.law_whole_A.b qR (qD (od_v (OD.val (o_ix hr (qQ (pv 3)) qY))) vV))))) (qZo (xK (xH (qZq (n:="list") (by decide) rfl T.isinstance_ Boot.«isinstance» rfl T.list_ Boot.«list» (o_ix hr (qQ (pv 3)) qY))))))))) (qX (qO (OD.ow wU))) qS)
   (qV (v3 (td_w (vJz (zZo (o_ix hr (qQ (pv 3)) qY) vWi) (vQr (xK (xH (od_e (vY (as:=[(.v (oV (oIx (oN 3) (oC (.int 2)))))]) (qQe S T) (hr.mono (by decide)) rfl S.law_whole_A.m S.law_whole_A.F.kp S.law_whole_A.b qR (qD (od_v (OD.val (o_ix hr (qQ (pv 3)) qY))) vV)))))))) (qX (qO (OD.ow wU))) qS)
   (qX (zO bI rfl (v7 (OD.val (o_ix hr (qQ (pv 3)) qY))) (qF (i:=4) jY.nd rfl (Or.inl rfl)) (qX (v3 (xK (xH (od_e (vY (as:=[(.v (oV (oN 4)))]) (qQe S T) (hr.mono (by decide)) rfl S.law_whole_A.m S.law_whole_A.F.kp S.law_whole_A.b qR (qD (od_v (OD.val (qQ (pv 4)))) vV))))) (qX (qO (OD.ow wU))) qS))))))))
   (qX (qO (OD.ow wU)))))
set_option maxHeartbeats 4000000 in
theorem qY9 {P:aH} {w:bJ} {K:aQ} {c:Nat->aZ} {mg:Str->Option Value} {base:Heap} (S:Fs K mg c) (T:Tx K mg c):FnOk P w K mg base (CXd P w) 1 S.law_hangs_f S.law_hangs_d ["_law_found","_law_k"] (spD K c 2 xX):=fnD S.law_hangs_A.F jT fun cdv Ar outer s H E hr=>(qV (qKf (OD.val (o_ix hr (qQ (pv 0)) (qQ (pv 1)))) (yH rfl (vK (qF (i:=2) jT.nd rfl (Or.inl rfl)) (vK (qF (i:=3) jT.nd rfl (Or.inl rfl)) (vK (qF (i:=4) jT.nd rfl (Or.inl rfl)) xZ)))))
   (qV (v3 (td_w (qZh (qW1 hr (qQ (pv 2)) (qQ (pv 3))) (qZo (t_ne hr (wG rfl T.len_ (qQ (pv 3))) (od_v (zZl rfl rfl T.set_ rfl T.len_ (qQ (pv 3)))))))) (qX (qO (OD.ow wU))) qS)
   (qV (v3 (zW3 (qQ (pv 4)) vWi) (qX (qO (OD.ow (o_eq hr (wG rfl T.len_ (qQ (pv 3))) qY)))) qS)
   (qV (v3 (xK (vXa zV5 (vJm _) zV5 (vJm _) (qQ (pv 1)) (qQ (pv 4)) (wG rfl T.len_ (qQ (pv 0))))) (qX (qO (OD.ow wU))) qS)
   (qV (zO bI rfl (v7 (OD.val (qQ (pv 3)))) (qF (i:=5) jT.nd rfl (Or.inl rfl)) (qX (v3 (td_w (vJz (t_ne hr (qQ (pv 5)) (qQ (pv 2))) (vQr (qW1 hr (qQ (pv 5)) (o_ix hr (o_ix hr (qQ (pv 0)) (qQ (pv 4))) qY))))) (qX (qO (OD.ow wU))) qS)))
   (qX (qO (OD.ow wU))))))))
set_option maxHeartbeats 4000000 in
theorem qJt {P:aH} {w:bJ} {K:aQ} {c:Nat->aZ} {mg:Str->Option Value} {base:Heap} (S:Fs K mg c) (T:Tx K mg c):FnOk P w K mg base (CXd P w) 1 S.law_held_by_f S.law_held_by_d ["_law_group","_law_found"] (spD K c 2 wJ):=fnD S.law_held_by_A.F qQg fun cdv Ar outer s H E hr=>(qV (zO bI rfl (v7 (OD.val (qQ (pv 1)))) (qF (i:=2) qQg.nd rfl (Or.inr rfl)) (qX (v3 (t_eq hr (od_e (xJ rfl (Nc:=["_law_slot","_law_row"]) (cs:=[(1,2)]) (qJ4 (cl:=[("_law_row",_)]) [(1,2)] [(".0", .local),("_law_slot", .local),("_law_row", .cell)] ["_law_row"] rfl rfl rfl rfl (by decide +kernel) (by decide +kernel) ⟨rfl,trivial⟩ (by decide +kernel) ⟨⟨_,rfl,rfl,rfl,rfl⟩,trivial⟩) (v7 (OD.val (qQ (pv 0)))) (fun _ _ _ _=>(qF (i:=0) (show List.Nodup (["_law_slot","_law_row"]:List Str) by decide +kernel) rfl (Or.inl rfl))) (fun _ _ _ _=>(qW0 (qW1 hr (qQ (pv 0)) (o_ix hr (qQ (pv 1)) qY)))) (fun _ _ _ _=>(OD.val (qQ (pv 0)))))) (od_e (vC qE))) (qX (qO (OD.ow wU))) qS)))
   (qX (qO (OD.ow wU))))
set_option maxHeartbeats 4000000 in
theorem zYi {P:aH} {w:bJ} {K:aQ} {c:Nat->aZ} {mg:Str->Option Value} {base:Heap} (S:Fs K mg c) (T:Tx K mg c):FnOk P w K mg base (CXd P w) 17 S.law_f S.law_d ["_law_script"] (spD K c 1 qYe):=fnD S.law_A.F yE fun cdv Ar outer s H E hr=>(qV (qKf (ev_e (vY (as:=[(.v (fzS (eSlL (oN 0) none (some (oV (oC (.int 40)))))))]) (qXw S T) (hr.mono (by decide)) rfl S.law_linked_A.m S.law_linked_A.F.kp S.law_linked_A.b qR (qD (od_v (ev_e (vYo (qQ (pv 0)) zQc (zQb (OD.val qY))))) vV))) (yH rfl (vK (qF (i:=1) yE.nd rfl (Or.inl rfl)) (vK (qF (i:=2) yE.nd rfl (Or.inl rfl)) (vK (qF (i:=3) yE.nd rfl (Or.inl rfl)) xZ)))))
   (qV (qI (i:=4) yE.nd rfl (Or.inl rfl) (zVc (C:=1) (as:=[(.v (oV (oN 1))),(.v (fzS (eLst []))),(.v (oV (oAdd (oIx (oN 3) (o1 negD (oC (.int 1)))) (oC (.int 1)))))]) S.Opened_mk (qJn S T) (hr.mono (by decide)) rfl S.Opened_mg S.Opened__init_A.b qR (qD (od_v (OD.val (qQ (pv 1)))) (qD (od_v (ev_e (vC qE))) (qD (od_v (OD.val (vJo (o_ix hr (qQ (pv 3)) (qVx qY)) qY))) vV)))))
   (qV (qI (i:=5) yE.nd rfl (Or.inl rfl) (vY (as:=[(.v (oV (oN 4)))]) (zWx S T) (hr.mono (by decide)) rfl S.bags_A.m S.bags_A.F.kp S.bags_A.b qR (qD (od_v (OD.val (qQ (pv 4)))) vV)))
   (qV (v3 (td_w (qZh (xK (xH (od_e (vY (as:=[(.v (oV (oN 5))),(.v (oV (oL lenD [(oN 3)])))]) (qJm S T) (hr.mono (by decide)) rfl S.law_rows_are_A.m S.law_rows_are_A.F.kp S.law_rows_are_A.b qR (qD (od_v (OD.val (qQ (pv 5)))) (qD (od_v (OD.val (wG rfl T.len_ (qQ (pv 3))))) vV)))))) (qZo (t_ne hr (o_ix hr (o_ix hr (qQ (pv 5)) (qVx qY)) qY) (o_ix hr (qQ (pv 3)) (qVx qY)))))) (qX (qO (OD.ow wU))) qS)
   (qV (v3 (t_ne hr (od_e (qWh rfl T.sorted_ (od_e (xJ rfl (Nc:=["_law_row"]) (cs:=[]) (qKq rfl (by decide +kernel) (by decide +kernel) (by decide +kernel)) (v7 (OD.val (qQ (pv 5)))) (fun _ _ _ _=>(qF (i:=0) (show List.Nodup (["_law_row"]:List Str) by decide +kernel) rfl (Or.inl rfl))) (fun _ _ _ _=>qQh) (fun _ _ _ _=>(OD.val (o_ix hr (qQ (pv 0)) qY))))))) (qQ (pv 3))) (qX (qO (OD.ow wU))) qS)
   (qV (zO bI rfl (qWd rfl T.range_ (qZ (OD.val (wG rfl T.len_ (qQ (pv 5)))) qE)) (qF (i:=6) yE.nd rfl (Or.inl rfl)) (qX (v3 (xK (xH (od_e (vY (as:=[(.v (oV (oN 5))),(.v (oV (oN 6)))]) (qY9 S T) (hr.mono (by decide)) rfl S.law_hangs_A.m S.law_hangs_A.F.kp S.law_hangs_A.b qR (qD (od_v (OD.val (qQ (pv 5)))) (qD (od_v (OD.val (qQ (pv 6)))) vV)))))) (qX (qO (OD.ow wU))) qS)))
   (qV (zO bI rfl (v7 (OD.val (qQ (pv 2)))) (qF (i:=7) yE.nd rfl (Or.inl rfl)) (qX (v3 (xK (xH (od_e (vY (as:=[(.v (oV (oN 7))),(.v (oV (oN 5)))]) (qJt S T) (hr.mono (by decide)) rfl S.law_held_by_A.m S.law_held_by_A.F.kp S.law_held_by_A.b qR (qD (od_v (OD.val (qQ (pv 7)))) (qD (od_v (OD.val (qQ (pv 5)))) vV)))))) (qX (qO (OD.ow wU))) qS)))
   (qX (qO (OD.ow (o_eq hr (qZr S.f_Opened_steps (qQ (pv 4))) (qQ (pv 1)))))))))))))
end X65
namespace L2
open PySem PySem.Spec PyProof.Rows
section
variable {P:aH} {w:bJ} {K:aQ} {mg:Str->Option Value} {base:Heap}
def zZh (Pt:aZ) (l0 c0:Nat) (q:Str) (H:Hp):Prop:=H Pt=some (.tab l0 c0 q)/\∀b,b≠Pt->H b=none\/∃o xs,H b=some (.frz o (.lst xs))
theorem vZu {CX:CXT} {l0 c0:Nat} {qn:Str} {mb:Str->Option Value} {k:Nat} {fa a c Pt:aZ} {fd:bW} {x:Str} {sp:Sp} {s₁:aJ} {vs:List Value} {ns:List Int}
  (KX:K.In s₁.heap) (tA:s₁.heap.TableAt c Pt #[]) (hKP:K.lookup Pt=none) (hne:Pt≠cStatics) (hns:s₁.heap.Ns cK mg) (hb:s₁.heap.Ns builtinsNs mb) (hbb:∀x:Str,x≠"__name__"->mb x=cO x) (hlim:s₁.heap.NoLimit) (hg:s₁.gens=#[])
  (ha:s₁.heap.get? a=some {cls:= .type "list",data:= .seq vs.toArray}) (hi:IntsAre vs ns) (hl:ns.length<=bX) (hr:Room k callerA)
  (F:∀base:Heap,K.In base->base.Ns cK mg->FnOk P w K mg base CX k fa fd [x] sp) (hbind:∀(s:aJ) (u:Value),BindsTo s fd ⟨[u],[]⟩ [(x,u)])
  (hsp:∀H:Hp,zZh Pt l0 c0 qn H->SqL K H a (ns.map V.int)->sp [.ref a] H (fun v H' =>v= .bl true/\H' Pt=some (.tab l0 c0 qn)) fun _ _ _=>False) (hCX:∀H e s',CX [] H s₁ (fun _ _ _=>False) e s' ->False):
  codeAny (model P w) callerA (.call (.ref fa) ⟨[.ref a],[]⟩) (fun r s' =>r= .ok (.ret (.bool true))/\OldK s₁.heap s'.heap/\s'.os=s₁.os/\AllBare s'.gens) s₁:=by
 have rv:=qQj hi
 have lenV:=hi.length
 have naP:a≠Pt:=fun z=>by
  have:=tA.2
  rw [←z,ha] at this
  cases this
 have core:∀H:Hp,zZh Pt l0 c0 qn H->SqL K H a (ns.map V.int)->HOk P w H s₁.heap->(∀b,b≠Pt->H b≠none->b=a)->(H a≠none->K.lookup a=none)->
   codeAny (model P w) callerA (.call (.ref fa) ⟨[.ref a],[]⟩) (fun r s' =>r= .ok (.ret (.bool true))/\OldK s₁.heap s'.heap/\s'.os=s₁.os/\AllBare s'.gens) s₁:=by
  intro H hO hS hok hA hK
  have base_of:∀ {b:aZ} {o:Obj},s₁.heap.get? b=some o->H b=none->(hidT s₁.heap H).get? b=some o:=fun e n=>vYh e n
  have noA:∀ {b:aZ} {o:Obj} {es:Array DictEntry} {ep:Nat},s₁.heap.get? b=some o->o.data= .dict es ep->H b=none:=fun {b o es ep} e d=>by
   cases q:H b with
   | none=>rfl
   | some u=>
     by_cases z:b=Pt
     ·subst z
      rw [tA.2] at e
      cases e
      cases d
     ·have e' :b=a:=hA b z (by rw [q];simp)
      subst e'
      rw [ha] at e;cases e
      have d' :Data.seq vs.toArray _=Data.dict es ep:=d
      cases d'
  have nsK:∀ {b:aZ} {m:Str->Option Value},s₁.heap.Ns b m->(hidT s₁.heap H).Ns b m:=fun {b m} ⟨o,es,ep,e,d,r⟩=>⟨o,es,ep,base_of e (noA e d),d,r⟩
  have hKb:K.In (hidT s₁.heap H):=fun b o e=>base_of (KX b o e) (by
   cases q:H b with
   | none=>rfl
   | some u=>
     by_cases z:b=Pt
     ·subst z
      rw [hKP] at e
      cases e
     ·have e' :b=a:=hA b z (by rw [q];simp)
      subst e'
      rw [hK (by rw [q];simp)] at e;cases e)
  have hM:Mod K mg (hidT s₁.heap H):=⟨hKb,nsK hns,⟨mb,nsK hb,hbb⟩,let ⟨mc,h1,h2⟩:=hlim;⟨mc,nsK h1,h2⟩⟩
  have e0:Env0 P w K mg (hidT s₁.heap H) callerA [] s₁ H:=⟨rfl,hM,fun b o e=>zQh e,Nat.le_of_eq (vZ0 _ _),trivial,fun b hb=>absurd (show b∈([]:List aZ) from hb) (by simp),hok, .of_eq hg⟩
  refine codeAny_mono ((F _ hKb (nsK hns)).run callerA [] s₁ H ⟨[.ref a],[]⟩ [.ref a] [.ref a] _ _ hr e0 (hbind s₁ (.ref a)) (.cons rfl .nil) (hsp H hO hS)) fun r s' h=>?_
  cases r with
  | error e=>exact(hCX H e s' h).elim
  | ok fl=>
    cases fl with
    | next=>exact False.elim h
    | brk=>exact False.elim h
    | cont=>exact False.elim h
    | ret u=>
      obtain⟨v,H',os,bare,un,hok',r',q⟩:=h
      obtain⟨q',qt⟩:=(q:v= .bl true/\H' Pt=some (.tab l0 c0 qn))
      subst q'
      obtain rfl:u=Value.bool true:=r'
      have keep:∀b o,b≠Pt->s₁.heap.get? b=some o->s'.heap.get? b=some o:=fun b o nb e=>by
       cases q:H b with
       | none=>exact un.keep b o e q (by intro z;exact absurd (show b∈([]:List aZ) from z) (by simp)) (by simp)
       | some u=>
         rcases hO.2 b nb with z | ⟨ob,xs,z⟩
         ·rw [q] at z;cases z
         ·have z2:=un.frzs b ob _ z
          obtain⟨e1,_⟩:=hok b _ z
          obtain⟨e2,_⟩:=hok' b _ z2
          rw [e] at e1;cases e1
          exact e2
      obtain⟨more,gP,_⟩:=(show vJ P w H' s'.heap Pt (.tab l0 c0 qn) from hok' Pt _ qt)
      rw [show more=#[] ++ more by simp] at gP
      obtain⟨⟨oc,vc,h1,h2,h3,h4⟩,h5⟩:=id tA
      have ncP:c≠Pt:=fun z=>by
       rw [z,h5] at h1
       cases h1
       cases h2
      refine⟨rfl,OldK.step_table (OldK.refl _) tA tA ⟨⟨oc,vc,keep c oc ncP h1,h2,h3,h4⟩,gP⟩ (fun b o nb e=>keep b o nb e) hne,os,bare⟩
 cases hk:K.lookup a with
 | some o=>
   have e:=KX a o hk
   rw [ha] at e
   cases e
   refine core (fun b=>if b=Pt then some (.tab l0 c0 qn) else none) ⟨if_pos rfl,fun b nb=> .inl (if_neg nb)⟩ (.inr ⟨_,vs.toArray,_,hk,rfl,rfl,rfl,by rw [bQ,lenV];exact hl,by simpa using rv⟩) (fun b u z=>?_) (fun b nb z=>absurd (if_neg nb) z) fun z=>absurd (if_neg naP) z
   by_cases hb:b=Pt
   ·have z' :=(if_pos hb).symm.trans z
    cases z'
    subst hb
    exact⟨#[],tA.2, .inl rfl⟩
   ·have z' :=(if_neg hb).symm.trans z
    cases z'
 | none=>
   refine core (fun b=>if b=Pt then some (.tab l0 c0 qn) else if b=a then some (.frz {cls:= .type "list",data:= .seq vs.toArray} (.lst (ns.map V.int))) else none) ⟨if_pos rfl,fun b nb=>?_⟩ (.inl (.inr ⟨{cls:= .type "list",data:= .seq vs.toArray},by show(if a=Pt then _ else _)=_;rw [if_neg naP,if_pos rfl]⟩)) (fun b u z=>?_) (fun b nb z=>?_) fun _=>hk
   ·by_cases hb:b=a
    ·exact .inr ⟨_,_,(if_neg nb).trans (if_pos hb)⟩
    ·exact .inl ((if_neg nb).trans (if_neg hb))
   ·by_cases hP:b=Pt
    ·have z' :=(if_pos hP).symm.trans z
     cases z'
     subst hP
     exact⟨#[],tA.2, .inl rfl⟩
    ·have z0:=(if_neg hP).symm.trans z
     by_cases hb:b=a
     ·have z' :=(if_pos hb).symm.trans z0
      cases z'
      subst hb
      exact⟨ha,by rw [aY];exact hl,vs,_,rv,ha⟩
     ·have z' :=(if_neg hb).symm.trans z0
      cases z'
   ·by_cases hb:b=a
    ·exact hb
    ·exact absurd (by show(if b=Pt then _ else _)=none;rw [if_neg nb,if_neg hb]) z
end
end L2
namespace DX
open PySem L2 PyProof.Rows
theorem zJ9 {K:aQ} {mg:Str->Option Value} {c Pt bm:aZ} {o ob:Obj} (l:K.lookup c=some o) (g:mg "__builtins__"=some (.ref bm)) (lb:K.lookup bm=some ob)
  (hs:∃vs file tf flags tg inF text tt,o.cls= .type "code"/\o.data= .fields vs/\vs[11]?=some (.ref Pt)/\vs.getD 11 .none= .ref Pt/\vs.getD 18 .none= .str file tf/\vs.getD 7 .none= .int flags tg/\vs.getD 9 .none= .bool inF/\vs.getD 10 .none= .int text tt/\c≠Pt)
  (hb:cK≠Pt/\bm≠builtinsNs/\bm≠cK/\bm≠Pt/\ob.cls= .type "module"/\ob.dict=some builtinsNs/\ob.data= .plain) (h0:Pt≠0):Mks K mg c Pt:=
 ⟨fun h KX=>let ⟨vs,file,tf,flags,tg,inF,text,tt,h1,h2,h3,h4,h5,h6,h7,h8,h9⟩:=hs;⟨o,vs,file,tf,flags,tg,inF,text,tt,KX _ _ l,h1,h2,h3,h4,h5,h6,h7,h8,h9⟩,hb.1,
  fun h KX=>⟨bm,ob,g,hb.2.1,hb.2.2.1,hb.2.2.2.1,KX _ _ lb,hb.2.2.2.2.1,hb.2.2.2.2.2.1,hb.2.2.2.2.2.2⟩,h0⟩
theorem vY4 {K:aQ} {a:aZ} {o:Obj} {h:Heap} (x:PySem.W.Frag.In ((a,o)::K) h) (n:K.lookup a=none):K.In h:=fun b u e=>x b u (by
 rw [bC]
 have ne:(b == a)=false:=by
  rw [beq_eq_false_iff_ne]
  intro z
  rw [z,n] at e
  cases e
 rw [ne]
 exact e)
theorem zQ0 {K:aQ} {a:aZ} {o:Obj} {h:Heap} (x:PySem.W.Frag.In ((a,o)::K) h):h.get? a=some o:=x a o (by rw [bC,beq_self_eq_true])
theorem zZj {l:PySem.W.OpenLaw} {q:aH} {loose:List Str} {XP:(Str->Option Value)->Heap->Prop} {YP:bJ->Heap->Prop} {d:DefRec} {K:Params->aQ} {F:Fn} {k l0 c0:Nat} {x:Str} {cc Pt:aZ}
  (hn:l.most=some 63) (hdf:d.params.defaults=[]) (hr:Room k callerA) (hY:∀(w:bJ) (h:Heap),YP w h->(K w.params).In h/\h.TableAt cc Pt #[]) (hKP:∀w:bJ,(K w.params).lookup Pt=none) (hne:Pt≠cStatics) (h0:Pt≠0)
  (law:∀ns:List Int,ns.length<=63->∃e,F [.s false (.fz (.nd .lst (ns.map D.int)))]= .ok (.fz (.bl true),e))
  (hF:∀(w:bJ) (mg:Str->Option Value) (fa:aZ) (h:Heap),(K w.params).In h->h.Ns cK mg->mg d.name=some (.ref fa)->
   ∃(c:Nat->aZ) (fd:bW),(c 77=Pt/\c 78=l0/\c 79=c0)/\(∀(s:aJ) (u:Value),BindsTo s fd ⟨[u],[]⟩ [(x,u)])/\
    ∀base:Heap,(K w.params).In base->base.Ns cK mg->FnOk l.prog w (K w.params) mg base (CXd l.prog w) k fa fd [x] (spD (K w.params) c 1 F)):
  PySem.W.WalkO q loose XP YP l.row.toRowW d [] (fun f vs=>PySem.call f vs):=by
 refine Att.qX2 hn hdf fun w s₀ s₁ mg mb fa a vs ns G Y hmg hobj hints hlen hbits hg=>?_
 obtain⟨KX,tA⟩:=hY w _ Y
 obtain⟨c,fd,⟨h77,h78,h79⟩,hb,hF⟩:=hF w mg fa _ KX G.T.g hmg
 refine vZu (l0:=l0) (c0:=c0) (qn:=lamQ) KX tA (hKP w) hne G.T.g G.T.b G.T.builtins G.T.nolimit hg hobj hints (bT hlen (by decide)) hr hF hb (fun H hO hS=>?_) fun H e s' h=>?_
 ·obtain⟨e,he⟩:=law ns hlen
  have h0:hide (hd2 (fun _=>0) fun _=>0) H=H:=by funext a;unfold hide;rw [if_pos (by rfl)]
  have at_:DAt (K w.params) c (hide (hd2 (fun _=>0) fun _=>0) H) (.ref a) (.nd .lst (ns.map D.int)):=by
   rw [h0]
   exact .nd (k:= .lst) (vs:=ns.map V.int) hS (by rw [aY,aY]) (vVo ns).r
  have tab:TabF c (hide (hd2 (fun _=>0) fun _=>0) H):=fun _=>by rw [h0,h77,h78,h79];exact hO.1
  refine⟨[.s false (.fz (.nd .lst (ns.map D.int)))],fun _=>0,fun _=>0,rfl,⟨zVv tab (us:=[.ref a]) (xs:=[.nd .lst (ns.map D.int)]) (.cons at_ .nil),fun a=>by show 0 + 0<=1;omega,fun a z=>absurd rfl z⟩,?_⟩
  rw [he]
  intro v H' W' Z g
  refine⟨?_,qG _ _ (g.st.same _ _ (by rw [h0];exact hO.1))⟩
  have:=(OAt.fz.mp g.at_).1
  cases this;rfl
 ·obtain⟨_,_,_,_,_,_,_,_,_,_,_,_,_,_,_,_,h⟩:=h
  exact h
end DX
namespace TH
open PySem PySem.W PySem.Calls PyProof.Rows
def vJ1:List Obj->Nat->BT->BT
 | [],_,t=>t
 | o::l,n,t=>vJ1 l (n + 1) (t.ins n o)
def ofS (s:aJ):SharedT:=⟨vJ1 s.heap.objs.toList 0 .nil,s.heap.objs.size,s.heap.life,s.gens,s.drawn,s.toks,s.os⟩
section
variable {tb:String->Option Builtin} {p:aH} {w:bJ} {n₀:Nat} {ann:Option Value} {env:Env} {q:Pos}
theorem app {n N:Nat} {s s' r:aJ} {l:List Stmt} {c c' :Code} {pos p' :Pos} (h:segRun tb p w n₀ ann 1 n s (piecesOf l env c pos [topFrame q])=some (.next,s',c',p'))
  (k:topRun tb p w n₀ ann N s' (restOf [] env c' p' [topFrame q])=some r):topRun tb p w n₀ ann (n + N) s (restOf l env c pos [topFrame q])=some r:=by
 obtain⟨a,ha,hN⟩:=seg_top (res:=id) (K' :=fun f=>match f with | .next=>(execs [] env).wrap doneF (leaveH env) id id | f=>doneF f) (H' :=leaveH env) (B:=[topFrame q]) rfl n s (piecesOf l env c pos [topFrame q])
  ⟨(execs l env).wrap (fun f=>match f with | .next=>(execs [] env).wrap doneF (leaveH env) id id | f=>doneF f) (leaveH env) id id,c,pos,[topFrame q]⟩ _ _ _ _ ⟨rfl,rfl, .inl ⟨rfl,rfl,_,rfl,rfl⟩⟩ h
 obtain rfl:a= .next:=ha
 have:=hN N r k
 rw [show l=l ++ [] by simp]
 unfold restOf
 rw [execs_app_wrap]
 exact this
end
def vQi {β:Type} (p:aH) (w:bJ) (n₀:Nat) (ann:Option Value) (b:List Stmt) (env:Env) (c:Code) (pos q:Pos) (k:Nat) (s:SharedT) (look:aJ->β):Option β:=
 match segRunT treeTable p w n₀ ann 1 k s (piecesOf b env c pos [topFrame q]) with
 | some (.next,s',c',p')=>(topRun treeTable p w n₀ ann 5 s'.abs (restOf [] env c' p' [topFrame q])).map look
 | _=>none
theorem zQm {β:Type} {p:aH} {w:bJ} {n₀:Nat} {ann:Option Value} {b:List Stmt} {env:Env} {c:Code} {pos q:Pos} {k:Nat} {s:SharedT} {look:aJ->β} {v:β}
  (h:vQi p w n₀ ann b env c pos q k s look=some v):∃r,topRun treeTable p w n₀ ann (k + 5) s.abs (restOf b env c pos [topFrame q])=some r/\look r=v:=by
 unfold vQi at h
 split at h
 ·next s' c' p' e=>
  obtain⟨r,hr,hv⟩:=bY.mp h
  exact⟨r,app (segRun_of e) hr,hv⟩
 ·cases h
def vJr {α:Type} (p q:aH) (loose:List Str) (Xt:aJ->Bool) (Yf:aJ->α) (g0:Bool) (H₀:Heap) (s:aJ):=
 ((staticsOk (importedModules p.main.body) H₀ s.heap && namesBound p s.heap && gensDone s && laidKept H₀ s.heap),openSeen q loose (importedModules p.main.body) Xt g0 s,Yf s)
theorem left {p q:aH} {loose:List Str} {Xt:aJ->Bool} {α:Type} {Yf:aJ->α} {Ya:bJ->α} {N:Nat} {g0:Bool} {m₀:Nat} {ann:Option Value} {k0 k:Nat} {env:Env} {pos q0:Pos} {Sa:bJ->OsState->aJ}
  (e:opening p=plainProg p.main.scope.names) (hN:Nat.ble 600 N=true) (f:∀s,fenceModules? p s=some s)
  (size:∀w:bJ,((boot_heap w.params).isNs cK,(boot_heap w.params).objs.size,(boot_heap w.params).nsMap cK "__annotations__")=(true,m₀,ann))
  (pre:∀(w:bJ) (os:OsState),topGo treeTable p w m₀ ann k0 ⟨boot_heap w.params,Array.mk [],boot_drawn,boot_toks,os⟩ (topStub p)=
   some (Sa w os,⟨denote treeTable (.body (dA p) env), .body (dA p) env,pos,[topFrame q0]⟩))
  (tree:∀w os,(ofS (Sa w os)).abs=Sa w os)
  (block:blockStart (dA p) env= .pure ())
  (run:∀w os,vQi p w m₀ ann (dA p) env (.body (dA p) env) pos q0 k (ofS (Sa w os)) (vJr p q loose Xt Yf g0 (boot_heap w.params))=some (true,openGood q loose,Ya w))
  (le:Nat.ble (k0 + (1 + (k + 5))) N=true):LeftO p q loose Xt Yf Ya N g0:=fun w=>by
 obtain⟨⟨h,gs,d,kk,os⟩,e1,e'⟩:=bY.mp (boot_open (N:=N) e hN f w)
 obtain⟨rfl,rfl,rfl,rfl⟩:h=boot_heap w.params/\gs=Array.mk []/\d=boot_drawn/\kk=boot_toks:=by simpa using e'
 obtain⟨z1,z2,z3⟩:_/\_/\_:=by simpa only [Prod.mk.injEq] using size w
 obtain⟨r,hr,hv⟩:=zQm (run w os)
 rw [tree w os] at hr
 have hb:segRun treeTable p w m₀ ann 1 1 (Sa w os) (blockOf (dA p) env (.body (dA p) env) pos [topFrame q0])=some (.next,Sa w os, .body (dA p) env,pos):=by
  unfold blockOf
  rw [block];rfl
 have r1:=go_top (pre w os) (piece_block hb hr)
 have r2:=topRun_mono (N - (k0 + (1 + (k + 5)))) _ _ _ _ r1
 rw [show(k0 + (1 + (k + 5))) + (N - (k0 + (1 + (k + 5))))=N by have:=Nat.le_of_ble_eq_true le;omega] at r2
 obtain⟨l1,l2,l3⟩:_/\_/\_:=by simpa only [vJr,Prod.mk.injEq] using hv
 have t:topFrom treeTable p w N ⟨boot_heap w.params,Array.mk [],boot_drawn,boot_toks,os⟩=some r:=by
  unfold topFrom
  dsimp only
  rw [z1,z2,z3,r2]
  show(match staticsOk (importedModules p.main.body) (boot_heap w.params) r.heap && namesBound p r.heap && gensDone r && laidKept (boot_heap w.params) r.heap with | true=>_ | false=>_)=_
  rw [l1]
 unfold openEnds
 rw [e1]
 show(topFrom treeTable p w N _).map _=_
 rw [t]
 exact congrArg some (Prod.ext l2 l3)
end TH
namespace X65
open PySem L2 DX PyProof.Rows
set_option maxHeartbeats 4000000 in
theorem fin {l:PySem.W.OpenLaw} {w:bJ} {K:aQ} {mg:Str->Option Value} {fa cd:aZ} {C1:aZ} {f_Opened__init:aZ} {D_Opened__init:bW} {f_parts_of:aZ} {D_parts_of:bW} {f_slots_read:aZ} {D_slots_read:bW} {f_leans:aZ} {D_leans:bW} {f_leaned_slots:aZ} {D_leaned_slots:bW} {f_with_own:aZ} {D_with_own:bW} {f_make_neighbours:aZ} {D_make_neighbours:bW} {f_neighbours:aZ} {D_neighbours:bW} {f_next_out:aZ} {D_next_out:bW} {f_taken_out:aZ} {D_taken_out:bW} {f_bags:aZ} {D_bags:bW} {f_law_whole:aZ} {D_law_whole:bW} {f_law_picked:aZ} {D_law_picked:bW} {f_law_linked:aZ} {D_law_linked:bW} {f_law_rows_are:aZ} {D_law_rows_are:bW} {f_law_hangs:aZ} {D_law_hangs:bW} {f_law_held_by:aZ} {D_law_held_by:bW} {f_law:aZ} {D_law:bW} (hfa:mg "law"=some (.ref fa))
  (A_Opened__init:MethAt K "__init__" "Opened.__init__" zV ["self","steps","draws","slots"] f_Opened__init D_Opened__init)
  (A_parts_of:FnAt K mg "parts_of" j9 ["term"] f_parts_of D_parts_of)
  (A_slots_read:FnAt K mg "slots_read" zH ["term"] f_slots_read D_slots_read)
  (A_leans:FnAt K mg "leans" qQi ["one"] f_leans D_leans)
  (A_leaned_slots:FnAt K mg "leaned_slots" v9 ["one"] f_leaned_slots D_leaned_slots)
  (A_with_own:FnAt K mg "with_own" j8 ["step","slots"] f_with_own D_with_own)
  (A_make_neighbours:FnAt K mg "make_neighbours" vP ["around","slots"] f_make_neighbours D_make_neighbours)
  (A_neighbours:FnAt K mg "neighbours" zI ["one"] f_neighbours D_neighbours)
  (A_next_out:FnAt K mg "next_out" zB ["around","last"] f_next_out D_next_out)
  (A_taken_out:FnAt K mg "taken_out" jE ["one"] f_taken_out D_taken_out)
  (A_bags:FnAt K mg "bags" qVk ["one"] f_bags D_bags)
  (A_law_whole:FnAt K mg "_law_whole" jF ["_law_found"] f_law_whole D_law_whole)
  (A_law_picked:FnAt K mg "_law_picked" zL ["_law_mixed_up","_law_spots"] f_law_picked D_law_picked)
  (A_law_linked:FnAt K mg "_law_linked" zM ["_law_cells"] f_law_linked D_law_linked)
  (A_law_rows_are:FnAt K mg "_law_rows_are" zQ ["_law_found","_law_many"] f_law_rows_are D_law_rows_are)
  (A_law_hangs:FnAt K mg "_law_hangs" jG ["_law_found","_law_k"] f_law_hangs D_law_hangs)
  (A_law_held_by:FnAt K mg "_law_held_by" zK ["_law_group","_law_found"] f_law_held_by D_law_held_by)
  (A_law:FnAt K mg "law" qJv ["_law_script"] f_law D_law)
  (Opened_mg:mg "Opened"=some (.ref C1))
  (Opened_mk:Mk K C1 f_Opened__init)
  (Opened_c:Cls K C1)
  (na_1_draws:jU K C1 "draws")
  (na_1_slots:jU K C1 "slots")
  (na_1_steps:jU K C1 "steps")
  (n_bool:mg "bool"=none)
  (n_enumerate:mg "enumerate"=none)
  (n_int:mg "int"=none)
  (n_isinstance:mg "isinstance"=none)
  (n_len:mg "len"=none)
  (n_list:mg "list"=none)
  (n_min:mg "min"=none)
  (n_range:mg "range"=none)
  (n_set:mg "set"=none)
  (n_sorted:mg "sorted"=none)
  (n_sum:mg "sum"=none)
  (n_tuple:mg "tuple"=none)
  (n_zip:mg "zip"=none)
  (FCx:FunC K "next_out" zB f_next_out D_next_out cd)
  (Mx:Mks K mg cd 76)
  (hb:∀(s:aJ) (v:Value),BindsTo s D_law ⟨[v],[]⟩ [("_law_script",v)]):
  ∃(c:Nat->aZ) (fd:bW),(c 77=76/\c 78=63/\c 79=28)/\(∀(s:aJ) (v:Value),BindsTo s fd ⟨[v],[]⟩ [("_law_script",v)])/\∀base:Heap,K.In base->base.Ns cK mg->FnOk l.prog w K mg base (CXd l.prog w) 17 fa fd ["_law_script"] (spD K c 1 qYe):=by
 have e:fa=f_law:=by have e:=hfa.symm.trans A_law.m;cases e;rfl
 rw [e]
 let S:Fs K mg (fun n=>match n with | 77=>76 | 78=>63 | 79=>28 | 1=>C1 | _=>C1):={Opened__init_f:=f_Opened__init,Opened__init_d:=D_Opened__init,Opened__init_A:=A_Opened__init,parts_of_f:=f_parts_of,parts_of_d:=D_parts_of,parts_of_A:=A_parts_of,slots_read_f:=f_slots_read,slots_read_d:=D_slots_read,slots_read_A:=A_slots_read,leans_f:=f_leans,leans_d:=D_leans,leans_A:=A_leans,leaned_slots_f:=f_leaned_slots,leaned_slots_d:=D_leaned_slots,leaned_slots_A:=A_leaned_slots,with_own_f:=f_with_own,with_own_d:=D_with_own,with_own_A:=A_with_own,make_neighbours_f:=f_make_neighbours,make_neighbours_d:=D_make_neighbours,make_neighbours_A:=A_make_neighbours,neighbours_f:=f_neighbours,neighbours_d:=D_neighbours,neighbours_A:=A_neighbours,next_out_f:=f_next_out,next_out_d:=D_next_out,next_out_A:=A_next_out,next_out_C:=cd,next_out_FC:=FCx,next_out_M:=Mx,lamL:=rfl,lamC:=rfl,taken_out_f:=f_taken_out,taken_out_d:=D_taken_out,taken_out_A:=A_taken_out,bags_f:=f_bags,bags_d:=D_bags,bags_A:=A_bags,law_whole_f:=f_law_whole,law_whole_d:=D_law_whole,law_whole_A:=A_law_whole,law_picked_f:=f_law_picked,law_picked_d:=D_law_picked,law_picked_A:=A_law_picked,law_linked_f:=f_law_linked,law_linked_d:=D_law_linked,law_linked_A:=A_law_linked,law_rows_are_f:=f_law_rows_are,law_rows_are_d:=D_law_rows_are,law_rows_are_A:=A_law_rows_are,law_hangs_f:=f_law_hangs,law_hangs_d:=D_law_hangs,law_hangs_A:=A_law_hangs,law_held_by_f:=f_law_held_by,law_held_by_d:=D_law_held_by,law_held_by_A:=A_law_held_by,law_f:=f_law,law_d:=D_law,law_A:=A_law,Opened_mg:=Opened_mg,Opened_mk:=Opened_mk,Opened_c:=Opened_c,f_Opened_draws:=(qJa (C:=1) Opened_c na_1_draws qXc),f_Opened_slots:=(qJa (C:=1) Opened_c na_1_slots qXc),f_Opened_steps:=(qJa (C:=1) Opened_c na_1_steps qXc)}
 let T:Tx K mg (fun n=>match n with | 77=>76 | 78=>63 | 79=>28 | 1=>C1 | _=>C1):={bool_:=n_bool,enumerate_:=n_enumerate,int_:=n_int,isinstance_:=n_isinstance,len_:=n_len,list_:=n_list,min_:=n_min,range_:=n_range,set_:=n_set,sorted_:=n_sorted,sum_:=n_sum,tuple_:=n_tuple,zip_:=n_zip}
 exact⟨_,D_law,⟨rfl,rfl,rfl⟩,hb,fun base _ _=>zYi (P:=l.prog) (w:=w) (base:=base) S T⟩
end X65
namespace X65
open PySem L2 PyProof.Rows
def KFr:Params->aQ:=fun P=>
 (nat_lit 2,⟨.none,none,(.dict #[] 0),#[]⟩)::
 (nat_lit 3,⟨(.type "dict"),none,(.dict #[⟨bV P "__name__",(.str "__name__" 165),(.str "law_flipwright_k65_whole_tree_of_bags" 300)⟩,⟨bV P "__doc__",(.str "__doc__" 166), .none⟩,⟨bV P "__package__",(.str "__package__" 167), .none⟩,⟨bV P "__loader__",(.str "__loader__" 168),(.builtin "__main__.__loader__#opaque")⟩,⟨bV P "__spec__",(.str "__spec__" 169), .none⟩,⟨bV P "__annotations__",(.str "__annotations__" 170),(.ref 6)⟩,⟨bV P "__builtins__",(.str "__builtins__" 171),(.ref 4)⟩,⟨bV P "__file__",(.str "__file__" 173),(.str "/claim/cut.py" 172)⟩,⟨bV P "__cached__",(.str "__cached__" 174), .none⟩,⟨bV P "Opened",(.str "Opened" 217),(.ref 29)⟩,⟨bV P "parts_of",(.str "parts_of" 223),(.ref 38)⟩,⟨bV P "slots_read",(.str "slots_read" 231),(.ref 43)⟩,⟨bV P "leans",(.str "leans" 237),(.ref 48)⟩,⟨bV P "leaned_slots",(.str "leaned_slots" 243),(.ref 53)⟩,⟨bV P "with_own",(.str "with_own" 253),(.ref 60)⟩,⟨bV P "make_neighbours",(.str "make_neighbours" 265),(.ref 67)⟩,⟨bV P "neighbours",(.str "neighbours" 275),(.ref 74)⟩,⟨bV P "next_out",(.str "next_out" 281),(.ref 79)⟩,⟨bV P "taken_out",(.str "taken_out" 293),(.ref 86)⟩,⟨bV P "bags",(.str "bags" 299),(.ref 91)⟩,⟨bV P "_law_whole",(.str "_law_whole" 308),(.ref 98)⟩,⟨bV P "_law_picked",(.str "_law_picked" 319),(.ref 105)⟩,⟨bV P "_law_linked",(.str "_law_linked" 339),(.ref 112)⟩,⟨bV P "_law_rows_are",(.str "_law_rows_are" 350),(.ref 119)⟩,⟨bV P "_law_hangs",(.str "_law_hangs" 362),(.ref 126)⟩,⟨bV P "_law_held_by",(.str "_law_held_by" 368),(.ref 131)⟩,⟨bV P "law",(.str "law" 374),(.ref 136)⟩] 27),#[]⟩)::
 (nat_lit 4,⟨(.type "module"),(some 0), .plain,#[]⟩)::
 (nat_lit 6,⟨(.type "dict"),none,(.dict #[] 0),#[]⟩)::
 (nat_lit 22,⟨(.type "tuple"),none,(.seq #[] 0),#[]⟩)::
 (nat_lit 25,⟨(.type "code"),none,(.fields #[(.str "__init__" 201),(.str "Opened.__init__" 202),(.str "/claim/cut.py" 203),(.int 4 0),(.int 4 0),(.int 0 0),(.int 0 0),(.int 3 0),(.ref 22),(.bool true),(.int 181 0),(.ref 23), .none, .none, .none,(.ref 24),(.int 204 0),(.int 4 0),(.str "/claim/cut.py" 205)]),#[]⟩)::
 (nat_lit 26,⟨(.type "function"),none,(.func ⟨"__init__","Opened.__init__",qN zV, .stmts (qH zV),qJ zV,3,[], .none, .none, .none,(.str "flipwright.opening" 187),none,(.ref 25), .none,0⟩),#[]⟩)::
 (nat_lit 27,⟨(.type "tuple"),none,(.seq #[(.str "draws" 207),(.str "slots" 208),(.str "steps" 209)] 0),#[]⟩)::
 (nat_lit 28,⟨(.type "dict"),none,(.dict #[⟨bV P "__module__",(.str "__module__" 196),(.str "flipwright.opening" 187)⟩,⟨bV P "__firstlineno__",(.str "__firstlineno__" 200),(.int 2 199)⟩,⟨bV P "__init__",(.str "__init__" 206),(.ref 26)⟩,⟨bV P "__static_attributes__",(.str "__static_attributes__" 210),(.ref 27)⟩,⟨bV P "__dict__",(.str "__dict__" 212),(.ref 30)⟩,⟨bV P "__weakref__",(.str "__weakref__" 214),(.ref 31)⟩,⟨bV P "__doc__",(.str "__doc__" 215), .none⟩] 4),#[]⟩)::
 (nat_lit 29,⟨(.type "type"),none,(.cls (.mk "Opened" [(.type "object")] [(.ref 29),(.type "object")] 28 "Opened" true [] [] false none false)),#[none,none,(some (.str "Opened" 189)),(some (.str "Opened" 197)),(some (.builtin "object.__new__")),(some (.bool true))]⟩)::
 (nat_lit 30,⟨(.type "getset_descriptor"),none,(.fields #[(.str "__dict__" 211),(.ref 29),(.builtin "function.__dict__"),(.builtin "function.__dict__#set")]),#[]⟩)::
 (nat_lit 31,⟨(.type "getset_descriptor"),none,(.fields #[(.str "__weakref__" 213),(.ref 29),(.builtin "ExceptionGroup.__weakref__"), .none]),#[]⟩)::
 (nat_lit 34,⟨(.type "tuple"),none,(.seq #[] 0),#[]⟩)::
 (nat_lit 37,⟨(.type "code"),none,(.fields #[(.str "parts_of" 218),(.str "parts_of" 219),(.str "/claim/cut.py" 220),(.int 8 0),(.int 1 0),(.int 0 0),(.int 0 0),(.int 3 0),(.ref 34),(.bool true),(.int 181 0),(.ref 35), .none, .none, .none,(.ref 36),(.int 221 0),(.int 8 0),(.str "/claim/cut.py" 222)]),#[]⟩)::
 (nat_lit 38,⟨(.type "function"),none,(.func ⟨"parts_of","parts_of",qN j9, .stmts (qH j9),qJ j9,3,[], .none, .none, .none,(.str "flipwright.opening" 187),none,(.ref 37), .none,0⟩),#[]⟩)::
 (nat_lit 39,⟨(.type "tuple"),none,(.seq #[] 0),#[]⟩)::
 (nat_lit 42,⟨(.type "code"),none,(.fields #[(.str "slots_read" 226),(.str "slots_read" 227),(.str "/claim/cut.py" 228),(.int 22 0),(.int 1 0),(.int 0 0),(.int 0 0),(.int 3 0),(.ref 39),(.bool true),(.int 181 0),(.ref 40), .none, .none, .none,(.ref 41),(.int 229 0),(.int 22 0),(.str "/claim/cut.py" 230)]),#[]⟩)::
 (nat_lit 43,⟨(.type "function"),none,(.func ⟨"slots_read","slots_read",qN zH, .stmts (qH zH),qJ zH,3,[], .none, .none, .none,(.str "flipwright.leaning" 224),none,(.ref 42), .none,0⟩),#[]⟩)::
 (nat_lit 44,⟨(.type "tuple"),none,(.seq #[] 0),#[]⟩)::
 (nat_lit 47,⟨(.type "code"),none,(.fields #[(.str "leans" 232),(.str "leans" 233),(.str "/claim/cut.py" 234),(.int 32 0),(.int 1 0),(.int 0 0),(.int 0 0),(.int 3 0),(.ref 44),(.bool true),(.int 181 0),(.ref 45), .none, .none, .none,(.ref 46),(.int 235 0),(.int 32 0),(.str "/claim/cut.py" 236)]),#[]⟩)::
 (nat_lit 48,⟨(.type "function"),none,(.func ⟨"leans","leans",qN qQi, .stmts (qH qQi),qJ qQi,3,[], .none, .none, .none,(.str "flipwright.leaning" 224),none,(.ref 47), .none,0⟩),#[]⟩)::
 (nat_lit 49,⟨(.type "tuple"),none,(.seq #[] 0),#[]⟩)::
 (nat_lit 52,⟨(.type "code"),none,(.fields #[(.str "leaned_slots" 238),(.str "leaned_slots" 239),(.str "/claim/cut.py" 240),(.int 40 0),(.int 1 0),(.int 0 0),(.int 0 0),(.int 3 0),(.ref 49),(.bool true),(.int 181 0),(.ref 50), .none, .none, .none,(.ref 51),(.int 241 0),(.int 40 0),(.str "/claim/cut.py" 242)]),#[]⟩)::
 (nat_lit 53,⟨(.type "function"),none,(.func ⟨"leaned_slots","leaned_slots",qN v9, .stmts (qH v9),qJ v9,3,[], .none, .none, .none,(.str "flipwright.leaning" 224),none,(.ref 52), .none,0⟩),#[]⟩)::
 (nat_lit 54,⟨(.type "tuple"),none,(.seq #[] 0),#[]⟩)::
 (nat_lit 56,⟨(.type "tuple"),none,(.seq #[(.str "step" 249),(.str "slots" 250)] 0),#[]⟩)::
 (nat_lit 57,⟨(.type "tuple"),none,(.seq #[] 0),#[]⟩)::
 (nat_lit 59,⟨(.type "code"),none,(.fields #[(.str "with_own" 246),(.str "with_own" 247),(.str "/claim/cut.py" 248),(.int 46 0),(.int 2 0),(.int 0 0),(.int 0 0),(.int 3 0),(.ref 54),(.bool true),(.int 181 0),(.ref 55), .none,(.ref 56),(.ref 57),(.ref 58),(.int 251 0),(.int 46 0),(.str "/claim/cut.py" 252)]),#[]⟩)::
 (nat_lit 60,⟨(.type "function"),none,(.func ⟨"with_own","with_own",qN j8, .stmts (qH j8),qJ j8,3,[], .none, .none, .none,(.str "flipwright.ranges" 244),none,(.ref 59), .none,0⟩),#[]⟩)::
 (nat_lit 61,⟨(.type "tuple"),none,(.seq #[] 0),#[]⟩)::
 (nat_lit 63,⟨(.type "tuple"),none,(.seq #[(.str "around" 259),(.str "slots" 260),(.str "slot" 261),(.str "other" 262)] 0),#[]⟩)::
 (nat_lit 64,⟨(.type "tuple"),none,(.seq #[] 0),#[]⟩)::
 (nat_lit 66,⟨(.type "code"),none,(.fields #[(.str "make_neighbours" 256),(.str "make_neighbours" 257),(.str "/claim/cut.py" 258),(.int 49 0),(.int 2 0),(.int 0 0),(.int 0 0),(.int 3 0),(.ref 61),(.bool true),(.int 181 0),(.ref 62), .none,(.ref 63),(.ref 64),(.ref 65),(.int 263 0),(.int 49 0),(.str "/claim/cut.py" 264)]),#[]⟩)::
 (nat_lit 67,⟨(.type "function"),none,(.func ⟨"make_neighbours","make_neighbours",qN vP, .stmts (qH vP),qJ vP,3,[], .none, .none, .none,(.str "flipwright.bags" 254),none,(.ref 66), .none,0⟩),#[]⟩)::
 (nat_lit 68,⟨(.type "tuple"),none,(.seq #[] 0),#[]⟩)::
 (nat_lit 70,⟨(.type "tuple"),none,(.seq #[(.str "one" 269),(.str "around" 270),(.str "step" 271),(.str "slots" 272)] 0),#[]⟩)::
 (nat_lit 71,⟨(.type "tuple"),none,(.seq #[] 0),#[]⟩)::
 (nat_lit 73,⟨(.type "code"),none,(.fields #[(.str "neighbours" 266),(.str "neighbours" 267),(.str "/claim/cut.py" 268),(.int 54 0),(.int 1 0),(.int 0 0),(.int 0 0),(.int 3 0),(.ref 68),(.bool true),(.int 181 0),(.ref 69), .none,(.ref 70),(.ref 71),(.ref 72),(.int 273 0),(.int 54 0),(.str "/claim/cut.py" 274)]),#[]⟩)::
 (nat_lit 74,⟨(.type "function"),none,(.func ⟨"neighbours","neighbours",qN zI, .stmts (qH zI),qJ zI,3,[], .none, .none, .none,(.str "flipwright.bags" 254),none,(.ref 73), .none,0⟩),#[]⟩)::
 (nat_lit 75,⟨(.type "tuple"),none,(.seq #[] 0),#[]⟩)::
 (nat_lit 78,⟨(.type "code"),none,(.fields #[(.str "next_out" 276),(.str "next_out" 277),(.str "/claim/cut.py" 278),(.int 61 0),(.int 2 0),(.int 0 0),(.int 0 0),(.int 3 0),(.ref 75),(.bool true),(.int 181 0),(.ref 76), .none, .none, .none,(.ref 77),(.int 279 0),(.int 61 0),(.str "/claim/cut.py" 280)]),#[]⟩)::
 (nat_lit 79,⟨(.type "function"),none,(.func ⟨"next_out","next_out",qN zB, .stmts (qH zB),qJ zB,3,[], .none, .none, .none,(.str "flipwright.bags" 254),none,(.ref 78), .none,0⟩),#[]⟩)::
 (nat_lit 80,⟨(.type "tuple"),none,(.seq #[] 0),#[]⟩)::
 (nat_lit 82,⟨(.type "tuple"),none,(.seq #[(.str "one" 285),(.str "around" 286),(.str "found" 287),(.str "slot" 288),(.str "others" 289),(.str "other" 290)] 0),#[]⟩)::
 (nat_lit 83,⟨(.type "tuple"),none,(.seq #[] 0),#[]⟩)::
 (nat_lit 85,⟨(.type "code"),none,(.fields #[(.str "taken_out" 282),(.str "taken_out" 283),(.str "/claim/cut.py" 284),(.int 64 0),(.int 1 0),(.int 0 0),(.int 0 0),(.int 3 0),(.ref 80),(.bool true),(.int 181 0),(.ref 81), .none,(.ref 82),(.ref 83),(.ref 84),(.int 291 0),(.int 64 0),(.str "/claim/cut.py" 292)]),#[]⟩)::
 (nat_lit 86,⟨(.type "function"),none,(.func ⟨"taken_out","taken_out",qN jE, .stmts (qH jE),qJ jE,3,[], .none, .none, .none,(.str "flipwright.bags" 254),none,(.ref 85), .none,0⟩),#[]⟩)::
 (nat_lit 87,⟨(.type "tuple"),none,(.seq #[] 0),#[]⟩)::
 (nat_lit 90,⟨(.type "code"),none,(.fields #[(.str "bags" 294),(.str "bags" 295),(.str "/claim/cut.py" 296),(.int 75 0),(.int 1 0),(.int 0 0),(.int 0 0),(.int 3 0),(.ref 87),(.bool true),(.int 181 0),(.ref 88), .none, .none, .none,(.ref 89),(.int 297 0),(.int 75 0),(.str "/claim/cut.py" 298)]),#[]⟩)::
 (nat_lit 91,⟨(.type "function"),none,(.func ⟨"bags","bags",qN qVk, .stmts (qH qVk),qJ qVk,3,[], .none, .none, .none,(.str "flipwright.bags" 254),none,(.ref 90), .none,0⟩),#[]⟩)::
 (nat_lit 92,⟨(.type "tuple"),none,(.seq #[] 0),#[]⟩)::
 (nat_lit 94,⟨(.type "tuple"),none,(.seq #[(.str "_law_found" 305)] 0),#[]⟩)::
 (nat_lit 95,⟨(.type "tuple"),none,(.seq #[] 0),#[]⟩)::
 (nat_lit 97,⟨(.type "code"),none,(.fields #[(.str "_law_whole" 302),(.str "_law_whole" 303),(.str "/claim/cut.py" 304),(.int 86 0),(.int 1 0),(.int 0 0),(.int 0 0),(.int 3 0),(.ref 92),(.bool true),(.int 181 0),(.ref 93), .none,(.ref 94),(.ref 95),(.ref 96),(.int 306 0),(.int 86 0),(.str "/claim/cut.py" 307)]),#[]⟩)::
 (nat_lit 98,⟨(.type "function"),none,(.func ⟨"_law_whole","_law_whole",qN jF, .stmts (qH jF),qJ jF,3,[], .none, .none, .none,(.str "law_flipwright_k65_whole_tree_of_bags" 300),none,(.ref 97), .none,0⟩),#[]⟩)::
 (nat_lit 99,⟨(.type "tuple"),none,(.seq #[] 0),#[]⟩)::
 (nat_lit 101,⟨(.type "tuple"),none,(.seq #[(.str "_law_mixed_up" 312),(.str "_law_spots" 313),(.str "_law_last" 314),(.str "_law_one" 315),(.str "_law_other" 316)] 0),#[]⟩)::
 (nat_lit 102,⟨(.type "tuple"),none,(.seq #[] 0),#[]⟩)::
 (nat_lit 104,⟨(.type "code"),none,(.fields #[(.str "_law_picked" 309),(.str "_law_picked" 310),(.str "/claim/cut.py" 311),(.int 88 0),(.int 2 0),(.int 0 0),(.int 0 0),(.int 3 0),(.ref 99),(.bool true),(.int 181 0),(.ref 100), .none,(.ref 101),(.ref 102),(.ref 103),(.int 317 0),(.int 88 0),(.str "/claim/cut.py" 318)]),#[]⟩)::
 (nat_lit 105,⟨(.type "function"),none,(.func ⟨"_law_picked","_law_picked",qN zL, .stmts (qH zL),qJ zL,3,[], .none, .none, .none,(.str "law_flipwright_k65_whole_tree_of_bags" 300),none,(.ref 104), .none,0⟩),#[]⟩)::
 (nat_lit 106,⟨(.type "tuple"),none,(.seq #[] 0),#[]⟩)::
 (nat_lit 108,⟨(.type "tuple"),none,(.seq #[(.str "_law_cells" 323),(.str "_law_steps" 324),(.str "_law_linked_here" 325),(.str "_law_spots" 326),(.str "_law_free" 327),(.str "_law_cell" 328),(.str "_law_mixed_up" 329),(.str "_law_one" 330),(.str "_law_other" 331),(.str "_law_third" 332),(.str "_law_kind" 333),(.str "_law_group" 334),(.str "_law_made" 335),(.str "_law_asked" 336)] 0),#[]⟩)::
 (nat_lit 109,⟨(.type "tuple"),none,(.seq #[] 0),#[]⟩)::
 (nat_lit 111,⟨(.type "code"),none,(.fields #[(.str "_law_linked" 320),(.str "_law_linked" 321),(.str "/claim/cut.py" 322),(.int 95 0),(.int 1 0),(.int 0 0),(.int 0 0),(.int 3 0),(.ref 106),(.bool true),(.int 181 0),(.ref 107), .none,(.ref 108),(.ref 109),(.ref 110),(.int 337 0),(.int 95 0),(.str "/claim/cut.py" 338)]),#[]⟩)::
 (nat_lit 112,⟨(.type "function"),none,(.func ⟨"_law_linked","_law_linked",qN zM, .stmts (qH zM),qJ zM,3,[], .none, .none, .none,(.str "law_flipwright_k65_whole_tree_of_bags" 300),none,(.ref 111), .none,0⟩),#[]⟩)::
 (nat_lit 113,⟨(.type "tuple"),none,(.seq #[] 0),#[]⟩)::
 (nat_lit 115,⟨(.type "tuple"),none,(.seq #[(.str "_law_found" 343),(.str "_law_many" 344),(.str "_law_k" 345),(.str "_law_row" 346),(.str "_law_slot" 347)] 0),#[]⟩)::
 (nat_lit 116,⟨(.type "tuple"),none,(.seq #[] 0),#[]⟩)::
 (nat_lit 118,⟨(.type "code"),none,(.fields #[(.str "_law_rows_are" 340),(.str "_law_rows_are" 341),(.str "/claim/cut.py" 342),(.int 126 0),(.int 2 0),(.int 0 0),(.int 0 0),(.int 3 0),(.ref 113),(.bool true),(.int 181 0),(.ref 114), .none,(.ref 115),(.ref 116),(.ref 117),(.int 348 0),(.int 126 0),(.str "/claim/cut.py" 349)]),#[]⟩)::
 (nat_lit 119,⟨(.type "function"),none,(.func ⟨"_law_rows_are","_law_rows_are",qN zQ, .stmts (qH zQ),qJ zQ,3,[], .none, .none, .none,(.str "law_flipwright_k65_whole_tree_of_bags" 300),none,(.ref 118), .none,0⟩),#[]⟩)::
 (nat_lit 120,⟨(.type "tuple"),none,(.seq #[] 0),#[]⟩)::
 (nat_lit 122,⟨(.type "tuple"),none,(.seq #[(.str "_law_found" 354),(.str "_law_k" 355),(.str "_law_slot" 356),(.str "_law_bag" 357),(.str "_law_up" 358),(.str "_law_other" 359)] 0),#[]⟩)::
 (nat_lit 123,⟨(.type "tuple"),none,(.seq #[] 0),#[]⟩)::
 (nat_lit 125,⟨(.type "code"),none,(.fields #[(.str "_law_hangs" 351),(.str "_law_hangs" 352),(.str "/claim/cut.py" 353),(.int 139 0),(.int 2 0),(.int 0 0),(.int 0 0),(.int 3 0),(.ref 120),(.bool true),(.int 181 0),(.ref 121), .none,(.ref 122),(.ref 123),(.ref 124),(.int 360 0),(.int 139 0),(.str "/claim/cut.py" 361)]),#[]⟩)::
 (nat_lit 126,⟨(.type "function"),none,(.func ⟨"_law_hangs","_law_hangs",qN jG, .stmts (qH jG),qJ jG,3,[], .none, .none, .none,(.str "law_flipwright_k65_whole_tree_of_bags" 300),none,(.ref 125), .none,0⟩),#[]⟩)::
 (nat_lit 127,⟨(.type "tuple"),none,(.seq #[] 0),#[]⟩)::
 (nat_lit 130,⟨(.type "code"),none,(.fields #[(.str "_law_held_by" 363),(.str "_law_held_by" 364),(.str "/claim/cut.py" 365),(.int 151 0),(.int 2 0),(.int 0 0),(.int 0 0),(.int 3 0),(.ref 127),(.bool true),(.int 181 0),(.ref 128), .none, .none, .none,(.ref 129),(.int 366 0),(.int 151 0),(.str "/claim/cut.py" 367)]),#[]⟩)::
 (nat_lit 131,⟨(.type "function"),none,(.func ⟨"_law_held_by","_law_held_by",qN zK, .stmts (qH zK),qJ zK,3,[], .none, .none, .none,(.str "law_flipwright_k65_whole_tree_of_bags" 300),none,(.ref 130), .none,0⟩),#[]⟩)::
 (nat_lit 132,⟨(.type "tuple"),none,(.seq #[] 0),#[]⟩)::
 (nat_lit 135,⟨(.type "code"),none,(.fields #[(.str "law" 369),(.str "law" 370),(.str "/claim/cut.py" 371),(.int 156 0),(.int 1 0),(.int 0 0),(.int 0 0),(.int 3 0),(.ref 132),(.bool true),(.int 181 0),(.ref 133), .none, .none, .none,(.ref 134),(.int 372 0),(.int 156 0),(.str "/claim/cut.py" 373)]),#[]⟩)::
 (nat_lit 136,⟨(.type "function"),none,(.func ⟨"law","law",qN qJv, .stmts (qH qJv),qJ qJv,3,[], .none, .none, .none,(.str "law_flipwright_k65_whole_tree_of_bags" 300),none,(.ref 135), .none,0⟩),#[]⟩):: []
def KF:Params->aQ:=fun P=>(nat_lit 76,⟨.none,none,(.fields #[]),#[]⟩)::KFr P
def KA:List aZ:=[76,2,3,4,6,22,25,26,27,28,29,30,31,34,37,38,39,42,43,44,47,48,49,52,53,54,56,57,59,60,61,63,64,66,67,68,70,71,73,74,75,78,79,80,82,83,85,86,87,90,91,92,94,95,97,98,99,101,102,104,105,106,108,109,111,112,113,115,116,118,119,120,122,123,125,126,127,130,131,132,135,136]
theorem KAs (P:Params):KA=List.map (fun x=>x.fst) (KF P):=by kernel_rfl
def vw:aH:={PySem.Challenge.rw_flipwright_k65_whole_tree_of_bags.row.toRowW.1 with main:={PySem.Challenge.rw_flipwright_k65_whole_tree_of_bags.row.toRowW.1.main with body:=((PySem.Challenge.rw_flipwright_k65_whole_tree_of_bags.row.toRowW.1.main.body.drop 1).take 2 ++ ((PySem.Challenge.rw_flipwright_k65_whole_tree_of_bags.row.toRowW.1.main.body.drop 4).take 3 ++ ((PySem.Challenge.rw_flipwright_k65_whole_tree_of_bags.row.toRowW.1.main.body.drop 8).take 1 ++ ((PySem.Challenge.rw_flipwright_k65_whole_tree_of_bags.row.toRowW.1.main.body.drop 10).take 5 ++ (PySem.Challenge.rw_flipwright_k65_whole_tree_of_bags.row.toRowW.1.main.body.drop 16)))))}}
abbrev pg:aH:=PySem.Challenge.rw_flipwright_k65_whole_tree_of_bags.row.toRowW.prog
def ev:Env:={scope:=pg.main.scope,locals:=mainNs,globals:=mainNs,cells:=[],code:= .ref 13,frame:=some 14}
noncomputable def Sa (w:bJ) (os:OsState):aJ:=match PySem.W.topGo treeTable pg w 11 (some (.ref 6)) 12 ⟨PySem.W.boot_heap w.params,Array.mk [],PySem.W.boot_drawn,PySem.W.boot_toks,os⟩ (PySem.W.topStub pg) with | some r=>r.1 | none=>⟨PySem.W.boot_heap w.params,Array.mk [],PySem.W.boot_drawn,PySem.W.boot_toks,os⟩
theorem zWp (w:bJ) (os:OsState):PySem.W.topGo treeTable pg w 11 (some (.ref 6)) 12 ⟨PySem.W.boot_heap w.params,Array.mk [],PySem.W.boot_drawn,PySem.W.boot_toks,os⟩ (PySem.W.topStub pg)=
   some (Sa w os,⟨denote treeTable (.body (PySem.W.behindTheImports pg) ev), .body (PySem.W.behindTheImports pg) ev,default,[PySem.W.topFrame default]⟩):=by kernel_rfl
theorem zQ1 (w:bJ) (os:OsState):(TH.ofS (Sa w os)).abs=Sa w os:=by kernel_rfl
theorem vYi:blockStart (PySem.W.behindTheImports pg) ev= .pure ():=by kernel_rfl
theorem zQ2 (w:bJ):((PySem.W.boot_heap w.params).isNs cK,(PySem.W.boot_heap w.params).objs.size,(PySem.W.boot_heap w.params).nsMap cK "__annotations__")=(true,11,some (.ref 6)):=by kernel_rfl
set_option maxHeartbeats 0 in
theorem zWo (w:bJ) (os:OsState):TH.vQi pg w 11 (some (.ref 6)) (PySem.W.behindTheImports pg) ev (.body (PySem.W.behindTheImports pg) ev) default default 845 (TH.ofS (Sa w os)) (TH.vJr pg vw [] (fun s=>PySem.W.xlAt vw [] s && PySem.W.recOk (PySem.W.RowW.records (PySem.W.OpenRow.toRowW PySem.Challenge.rw_flipwright_k65_whole_tree_of_bags.row)) s) (PySem.W.Hook.obs (PySem.W.kHook KF KA KAs)) true (PySem.W.boot_heap w.params))=some (true,PySem.W.openGood vw [],PySem.W.Hook.val (PySem.W.kHook KF KA KAs) w):=by kernel_rfl
end X65
open PySem PySem.W PyProof.Rows L2 DX
set_option maxHeartbeats 0 in
theorem PySem.Challenge.cw_flipwright_k65_whole_tree_of_bags_holds : PySem.Challenge.rw_flipwright_k65_whole_tree_of_bags.Holds := by
 w_on;o_law
 refine holds_open (q:=X65.vw) (loose:=[]) (Xt:=fun s=>xlAt X65.vw [] s && recOk (RowW.records (OpenRow.toRowW PySem.Challenge.rw_flipwright_k65_whole_tree_of_bags.row)) s) (XP:=XL X65.vw []) (Yf:=Hook.obs (kHook X65.KF X65.KA X65.KAs)) (Ya:=Hook.val (kHook X65.KF X65.KA X65.KAs)) (YP:=Hook.says (kHook X65.KF X65.KA X65.KAs)) (N:=1670) ?hl (Hook.of _) (Hook.keeps _) (fun s e=>xl_of s (Bool.and_eq_true_iff.mp e).1) XL.keeps (by rfl) (by rfl) (by rfl) (fun s e=>recFacts_of (Bool.and_eq_true_iff.mp e).2) (by rfl) (by first | assumption | decide +kernel) (by decide +kernel) ⟨rfl,rfl,rfl,rfl,rfl,by decide +kernel⟩ ?hw ?hc
 (case hw=>w_witness2)
 (case hl=>exact TH.left (k0:=12) rfl (by rfl) (fun _=>rfl) X65.zQ2 X65.zWp X65.zQ1 X65.vYi X65.zWo (by rfl))
 refine DX.zZj (l:=PySem.Challenge.rw_flipwright_k65_whole_tree_of_bags) (K:=X65.KFr) (cc:=78) (Pt:=76) (l0:=63) (c0:=28) (k:=17) (x:="_law_script") rfl rfl ⟨rfl,by decide,by decide,rfl⟩ (fun w h Y=>?Y) (fun w=>by rfl) (by decide) (by decide) EG.vX9 ?F
 case Y=>
  have X:(X65.KF w.params).In h:=PySem.W.kIn_of Y
  have X2:(X65.KFr w.params).In h:=DX.vY4 X (by rfl)
  exact⟨X2,⟨_,_,X2 78 _ (by rfl),rfl,rfl,rfl⟩,DX.zQ0 X⟩
 case F=>
  k_fill
  intro w mg fa h KX G hmg
  refine' X65.fin hmg (vZp ?ml1 ?mc2 ?mk3 (fun _ _ _ _ _ _ us hl=>match us,hl with | [_,_,_,_],_=>rfl))
   (vR KX G ?a4 ?l5 ?c6 ?k7 (fun _ _ _ _ _ _ us hl=>match us,hl with | [_],_=>rfl))
   (vR KX G ?a8 ?l9 ?c10 ?k11 (fun _ _ _ _ _ _ us hl=>match us,hl with | [_],_=>rfl))
   (vR KX G ?a12 ?l13 ?c14 ?k15 (fun _ _ _ _ _ _ us hl=>match us,hl with | [_],_=>rfl))
   (vR KX G ?a16 ?l17 ?c18 ?k19 (fun _ _ _ _ _ _ us hl=>match us,hl with | [_],_=>rfl))
   (vR KX G ?a20 ?l21 ?c22 ?k23 (fun _ _ _ _ _ _ us hl=>match us,hl with | [_,_],_=>rfl))
   (vR KX G ?a24 ?l25 ?c26 ?k27 (fun _ _ _ _ _ _ us hl=>match us,hl with | [_,_],_=>rfl))
   (vR KX G ?a28 ?l29 ?c30 ?k31 (fun _ _ _ _ _ _ us hl=>match us,hl with | [_],_=>rfl))
   (vR KX G ?a32 ?l33 ?c34 ?k35 (fun _ _ _ _ _ _ us hl=>match us,hl with | [_,_],_=>rfl))
   (vR KX G ?a36 ?l37 ?c38 ?k39 (fun _ _ _ _ _ _ us hl=>match us,hl with | [_],_=>rfl))
   (vR KX G ?a40 ?l41 ?c42 ?k43 (fun _ _ _ _ _ _ us hl=>match us,hl with | [_],_=>rfl))
   (vR KX G ?a44 ?l45 ?c46 ?k47 (fun _ _ _ _ _ _ us hl=>match us,hl with | [_],_=>rfl))
   (vR KX G ?a48 ?l49 ?c50 ?k51 (fun _ _ _ _ _ _ us hl=>match us,hl with | [_,_],_=>rfl))
   (vR KX G ?a52 ?l53 ?c54 ?k55 (fun _ _ _ _ _ _ us hl=>match us,hl with | [_],_=>rfl))
   (vR KX G ?a56 ?l57 ?c58 ?k59 (fun _ _ _ _ _ _ us hl=>match us,hl with | [_,_],_=>rfl))
   (vR KX G ?a60 ?l61 ?c62 ?k63 (fun _ _ _ _ _ _ us hl=>match us,hl with | [_,_],_=>rfl))
   (vR KX G ?a64 ?l65 ?c66 ?k67 (fun _ _ _ _ _ _ us hl=>match us,hl with | [_,_],_=>rfl))
   (vR KX G ?a68 ?l69 ?c70 ?k71 (fun _ _ _ _ _ _ us hl=>match us,hl with | [_],_=>rfl))
   (PySem.W.mg_of KX G ?g72)
   ⟨?x73,?x74,?x75,?x76⟩
   ⟨?x77,?x78,?x79,?x80⟩
   ?x81
   ?x82
   ?x83
   (bA KX G ?z84)
   (bA KX G ?z85)
   (bA KX G ?z86)
   (bA KX G ?z87)
   (bA KX G ?z88)
   (bA KX G ?z89)
   (bA KX G ?z90)
   (bA KX G ?z91)
   (bA KX G ?z92)
   (bA KX G ?z93)
   (bA KX G ?z94)
   (bA KX G ?z95)
   (bA KX G ?z96)
   ⟨⟨_,_,_,_,_,_,_,_,rfl,?fcl,?fcc⟩⟩
   (DX.zJ9 ?lM (PySem.W.mg_of KX G ?gB) ?lB ?sM ?sB (by decide))
   ?hb
  (case a4=>k_is)
  (case l5=>k_is)
  (case c6=>k_is)
  (case k7=>k_is)
  (case a8=>k_is)
  (case l9=>k_is)
  (case c10=>k_is)
  (case k11=>k_is)
  (case a12=>k_is)
  (case l13=>k_is)
  (case c14=>k_is)
  (case k15=>k_is)
  (case a16=>k_is)
  (case l17=>k_is)
  (case c18=>k_is)
  (case k19=>k_is)
  (case a20=>k_is)
  (case l21=>k_is)
  (case c22=>k_is)
  (case k23=>k_is)
  (case a24=>k_is)
  (case l25=>k_is)
  (case c26=>k_is)
  (case k27=>k_is)
  (case a28=>k_is)
  (case l29=>k_is)
  (case c30=>k_is)
  (case k31=>k_is)
  (case a32=>k_is)
  (case l33=>k_is)
  (case c34=>k_is)
  (case k35=>k_is)
  (case a36=>k_is)
  (case l37=>k_is)
  (case c38=>k_is)
  (case k39=>k_is)
  (case a40=>k_is)
  (case l41=>k_is)
  (case c42=>k_is)
  (case k43=>k_is)
  (case a44=>k_is)
  (case l45=>k_is)
  (case c46=>k_is)
  (case k47=>k_is)
  (case a48=>k_is)
  (case l49=>k_is)
  (case c50=>k_is)
  (case k51=>k_is)
  (case a52=>k_is)
  (case l53=>k_is)
  (case c54=>k_is)
  (case k55=>k_is)
  (case a56=>k_is)
  (case l57=>k_is)
  (case c58=>k_is)
  (case k59=>k_is)
  (case a60=>k_is)
  (case l61=>k_is)
  (case c62=>k_is)
  (case k63=>k_is)
  (case a64=>k_is)
  (case l65=>k_is)
  (case c66=>k_is)
  (case k67=>k_is)
  (case a68=>k_is)
  (case l69=>k_is)
  (case c70=>k_is)
  (case k71=>k_is)
  (case g72=>k_is)
  (case x74=>k_is)
  (case ml1=>k_is)
  (case mc2=>k_is)
  (case mk3=>k_is)
  (case x73=>k_is)
  (case x75=>k_is)
  (case x76=>k_is)
  (case x77=>k_is)
  (case x78=>k_is)
  (case x79=>k_is)
  (case x80=>k_is)
  (case x81=>unfold L2.jU;k_is)
  (case x82=>unfold L2.jU;k_is)
  (case x83=>unfold L2.jU;k_is)
  (case z84=>k_is)
  (case z85=>k_is)
  (case z86=>k_is)
  (case z87=>k_is)
  (case z88=>k_is)
  (case z89=>k_is)
  (case z90=>k_is)
  (case z91=>k_is)
  (case z92=>k_is)
  (case z93=>k_is)
  (case z94=>k_is)
  (case z95=>k_is)
  (case z96=>k_is)
  (case fcl=>rfl)
  (case fcc=>k_is)
  (case lM=>k_is)
  (case gB=>k_is)
  (case lB=>k_is)
  (case sM=>exact⟨_,_,_,_,_,_,_,_,rfl,rfl,rfl,rfl,rfl,rfl,rfl,rfl,by decide⟩)
  (case sB=>exact⟨by decide,by decide,by decide,by decide,rfl,rfl,rfl⟩)
  (case hb=>exact fun s u=> .of_eq rfl)
