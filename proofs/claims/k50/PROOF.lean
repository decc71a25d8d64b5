import PyProof.Rows.All
import Wide.All
import OpenK.AllK
import Wide.FinOn
import PyProof.EqAt
import PyProof.EqKinds
import PyProof.TupleCall
import Lean
import PySem.Challenge.RW_flipwright_k50_leans
set_option Elab.async false
set_option linter.all false
set_option maxRecDepth 100000
set_option compiler.extract_closed false
set_option bootstrap.genMatcherCode false
open PySem.W renaming Frag → aQ, kia_one → bI, fnOf → bA, kitOne → cX, keepIn → cY, findIn → cW, emptyDict → cK, instObj → cR, behindTheImports → cT
open PySem renaming wpAny_bind → aV, Addr → aZ, Shared → aJ, starEach → aY, wpAny_pure → aP, wpAny → aI, Program → aT, sizeLine → aA, FuncData → bZ, World → bY, compareOp → bN, Around → bR, backTo → cV, mainGlobals → cZ, mem_of_lookup → cJ, bootBuiltins → cC, wpAny_newObj_type → cD, cLine → cG, wpAny_field → cN, wpAny_call_entry → cS, wpAny_seqItems → dY, wpAny_setField_rec → dW, wpAny_callSpecial?_slot → dO, wpAny_mono → eQ, wpAny_Call_Name_kw → eV, wpAny_holding → eJ, wpAny_setState_of → eW, sysModules → eK
open PySem.Heap renaming get?_push_of_some → aX, get?_push_size → aC, lt_size → aE, size_push → bU, SameBut → dL, get?_update_other → dN, get?_update_self → dA
open List renaming length_map → aW, length_cons → aK, length_append → aU, getElem?_eq_getElem → aF, mem_cons → aG, size_toArray → aH, getElem?_eq_some_iff → aL, mem_cons_of_mem → aO, map_cons → aS, mem_singleton → bJ, getElem?_set_ne → bK, mem_append_right → bF, map_append → bG, append_nil → bL, zip_cons_cons → bS, mem_cons_self → bT, length_set → cQ, getD_eq_getElem?_getD → cU, nodup_cons → cB, eq_nil_of_length_eq_zero → cI, mem_append → cL, getElem?_set_self → cM, getElem?_append_left → dX, map_map → dP, any_cons → dC, filterMap_cons → dF, getElem?_cons_zero → dG, mem_map → dH, mem_filterMap → dM, all_cons → dR, getElem?_append_right → eX
open Nat renaming le_refl → aB, le_trans → aM, lt_of_lt_of_le → aN, ne_of_lt → bV, lt_irrefl → bM, zero_le → bO, ne_of_gt → dU, le_of_lt → dB
open Bool renaming and_eq_true → aD, false_ne_true → aR
open PySem.PyData renaming keyHash → bQ
open Option renaming map_eq_some_iff → bX, bind_some → bH, bind_eq_some_iff → dE
open PySem.SetTable renaming below → bW
open PySem.PassesOwn renaming leaving → bP
open PySem.F renaming called_set → cF, slot_tuple_iterator_next → dJ
open PyProof.Rows renaming callWith_type1 → cH
open Array renaming getElem?_eq_getElem → dQ, length_toList → dD
open Int renaming toNat_natCast → eZ, le_refl → eY
namespace L2
open PySem
noncomputable def xW(s:Stmt)(j:Nat):Stmt:=match s with
 |.ClassDef _ _ _ body _ _ _ _ _ _ _=>body.getD j (.Pass ⟨0,0,0,0⟩)
 |_=> .Pass ⟨0,0,0,0⟩
noncomputable def zS(s:Stmt):Arguments:=match s with
 |.FunctionDef _ a _ _ _ _ _ _ _ _=>a
 |_=> {posonlyargs:=[],args:=[],vararg:=none,kwonlyargs:=[],kw_defaults:=[],kwarg:=none,defaults:=[]}
noncomputable def zU(s:Stmt):List Stmt:=match s with
 |.FunctionDef _ _ b _ _ _ _ _ _ _=>b
 |_=> []
noncomputable def qK(s:Stmt):Scope:=match s with
 |.FunctionDef _ _ _ _ _ _ sc _ _ _=>sc
 |_=> {kind:=.function,names:=[],isGenerator:=false,isCoroutine:=false}
end L2
namespace TH
open PySem PySem.W PySem.Calls PyProof.Rows
variable{N:Nat}{c:Code}{pos:Pos}{p:aT}{ann:Option Value}{env:Env}
noncomputable def vK3:List Obj->Nat->BT->BT
 |[],_,t=>t
 |o::l,n,t=>vK3 l (n+1) (t.ins n o)
noncomputable def ofS(s:aJ):SharedT:=⟨vK3 s.heap.objs.toList 0 .nil,s.heap.objs.size,s.heap.life,s.gens,s.drawn,s.toks,s.os⟩
section
variable{tb:String->Option Builtin}{p:aT}{w:bY}{n₀:Nat}{ann:Option Value}{env:Env}{q:Pos}
theorem app{n:Nat}{s s' r:aJ}{l:List Stmt}{c':Code}{p':Pos}(h:segRun tb p w n₀ ann 1 n s (piecesOf l env c pos [topFrame q])=some (.next,s',c',p'))(k:topRun tb p w n₀ ann N s' (restOf [] env c' p' [topFrame q])=some r):topRun tb p w n₀ ann (n+N) s (restOf l env c pos [topFrame q])=some r:=by
 obtain⟨a,ha,hN⟩:=seg_top (res:=id) (K' :=fun f=>match f with|.next =>(execs [] env).wrap doneF (leaveH env) id id|f=>doneF f) (H' :=leaveH env) (B:=[topFrame q]) rfl n s (piecesOf l env c pos [topFrame q])
  ⟨(execs l env).wrap (fun f=>match f with|.next =>(execs [] env).wrap doneF (leaveH env) id id|f=>doneF f) (leaveH env) id id,c,pos,[topFrame q]⟩ _ _ _ _ ⟨rfl,rfl,.inl ⟨rfl,rfl,_,rfl,rfl⟩⟩ h
 obtain rfl:a=.next :=ha
 have:=hN N r k;rw[show l=l ++ [] by simp];unfold restOf;rw[execs_app_wrap];exact this
end
noncomputable def vJ6{β:Type}(p:aT)(w:bY)(n₀:Nat)(ann:Option Value)(b:List Stmt)(env:Env)(c:Code)(pos q:Pos)(k:Nat)(s:SharedT)(look:aJ->β):Option β:=
 match segRunT treeTable p w n₀ ann 1 k s (piecesOf b env c pos [topFrame q]) with
 |some (.next,s',c',p')=>(topRun treeTable p w n₀ ann 5 s'.abs (restOf [] env c' p' [topFrame q])).map look
 |_=>none
theorem zWn{β:Type}{w:bY}{n₀:Nat}{b:List Stmt}{q:Pos}{k:Nat}{s:SharedT}{look:aJ->β}{v:β}(h:vJ6 p w n₀ ann b env c pos q k s look=some v):∃r,topRun treeTable p w n₀ ann (k+5) s.abs (restOf b env c pos [topFrame q])=some r/\look r=v:=by
 unfold vJ6 at h;split at h
 ·next s' c' p' e=>
  obtain⟨r,hr,hv⟩:=bX.mp h;exact⟨r,app (segRun_of e) hr,hv⟩
 ·cases h
noncomputable def vKv{α:Type}(p q:aT)(loose:List Str)(Xt:aJ->Bool)(Yf:aJ->α)(g0:Bool)(H₀:Heap)(s:aJ):=
 ((staticsOk (importedModules p.main.body) H₀ s.heap && namesBound p s.heap && gensDone s && laidKept H₀ s.heap),openSeen q loose (importedModules p.main.body) Xt g0 s,Yf s)
theorem left{q:aT}{loose:List Str}{Xt:aJ->Bool}{α:Type}{Yf:aJ->α}{Ya:bY->α}{g0:Bool}{m₀:Nat}{k0 k:Nat}{q0:Pos}{Sa:bY->OsState->aJ}(e:opening p=plainProg p.main.scope.names)(hN:Nat.ble 600 N=true)(f:∀s,fenceModules? p s=some s)(size:∀w:bY,((boot_heap w.params).isNs cZ,(boot_heap w.params).objs.size,(boot_heap w.params).nsMap cZ "__annotations__")=(true,m₀,ann))(pre:∀(w:bY) (os:OsState),topGo treeTable p w m₀ ann k0 ⟨boot_heap w.params,Array.mk [],boot_drawn,boot_toks,os⟩ (topStub p)=
   some (Sa w os,⟨denote treeTable (.body (cT p) env),.body (cT p) env,pos,[topFrame q0]⟩))(tree:∀w os,(ofS (Sa w os)).abs =Sa w os)(block:blockStart (cT p) env=.pure ())(run:∀w os,vJ6 p w m₀ ann (cT p) env (.body (cT p) env) pos q0 k (ofS (Sa w os)) (vKv p q loose Xt Yf g0 (boot_heap w.params))=some (true,openGood q loose,Ya w))(le:Nat.ble (k0+(1+(k+5))) N=true):LeftO p q loose Xt Yf Ya N g0:=fun w=>by
 obtain⟨⟨h,gs,d,kk,os⟩,e1,e'⟩:=bX.mp (boot_open (N:=N) e hN f w);obtain⟨rfl,rfl,rfl,rfl⟩:h=boot_heap w.params/\gs=Array.mk []/\d=boot_drawn/\kk=boot_toks:=by simpa using e'
 obtain⟨z1,z2,z3⟩:_/\_/\_:=by simpa only[Prod.mk.injEq] using size w
 obtain⟨r,hr,hv⟩:=zWn (run w os);rw[tree w os]at hr;have hb:segRun treeTable p w m₀ ann 1 1 (Sa w os) (blockOf (cT p) env (.body (cT p) env) pos [topFrame q0])=some (.next,Sa w os,.body (cT p) env,pos):=by
  unfold blockOf;rw[block];rfl
 have r1:=go_top (pre w os) (piece_block hb hr);have r2:=topRun_mono (N - (k0+(1+(k+5)))) _ _ _ _ r1;rw[show(k0+(1+(k+5)))+(N - (k0+(1+(k+5))))=N by have:=Nat.le_of_ble_eq_true le;omega]at r2;obtain⟨l1,l2,l3⟩:_/\_/\_:=by simpa only[vKv,Prod.mk.injEq] using hv
 have t:topFrom treeTable p w N ⟨boot_heap w.params,Array.mk [],boot_drawn,boot_toks,os⟩=some r:=by
  unfold topFrom;dsimp only;rw[z1,z2,z3,r2];show(match staticsOk (importedModules p.main.body) (boot_heap w.params) r.heap && namesBound p r.heap && gensDone r && laidKept (boot_heap w.params) r.heap with|true=>_|false=>_)=_;rw[l1]
 unfold openEnds;rw[e1];show(topFrom treeTable p w N _).map _=_;rw[t];exact congrArg some (Prod.ext l2 l3)
end TH
namespace X50
open PySem L2 PyProof.Rows
noncomputable def top(i:Nat):Stmt:=PySem.Challenge.pw_flipwright_k50_leans.main.body.getD i (.Pass ⟨0,0,0,0⟩)
noncomputable abbrev qZc:Stmt:=xW (top 2) 0
noncomputable abbrev yP:Stmt:=xW (top 8) 0
noncomputable abbrev qJa:Stmt:=top 9
noncomputable abbrev qQ8:Stmt:=top 10
noncomputable abbrev qQd:Stmt:=top 11
noncomputable abbrev qQ9:Stmt:=top 12
noncomputable abbrev qWh:Stmt:=top 13
noncomputable abbrev qQ6:Stmt:=top 14
noncomputable abbrev yK:Stmt:=xW (top 15) 0
noncomputable abbrev jN:Stmt:=xW (top 15) 1
noncomputable abbrev wN:Stmt:=xW (top 15) 2
noncomputable abbrev wO:Stmt:=xW (top 15) 3
noncomputable abbrev j9:Stmt:=xW (top 15) 5
noncomputable abbrev j8:Stmt:=xW (top 15) 4
noncomputable abbrev wM:Stmt:=xW (top 15) 6
noncomputable abbrev wL:Stmt:=xW (top 15) 7
noncomputable abbrev qX6:Stmt:=top 16
noncomputable abbrev qQ7:Stmt:=top 18
noncomputable abbrev vQn:Stmt:=top 19
noncomputable abbrev qV3:Stmt:=top 21
noncomputable abbrev qV7:Stmt:=top 22
noncomputable abbrev qV6:Stmt:=top 23
noncomputable abbrev qJb:Stmt:=top 24
noncomputable abbrev qJc:Stmt:=top 25
noncomputable abbrev qQc:Stmt:=top 26
noncomputable abbrev qQb:Stmt:=top 27
noncomputable abbrev qV4:Stmt:=top 28
noncomputable abbrev qV5:Stmt:=top 29
noncomputable abbrev qV1:Stmt:=top 30
noncomputable abbrev qV2:Stmt:=top 31
noncomputable abbrev vKp:Stmt:=top 32
noncomputable def fO(x q:Str)(s:Stmt)(m:Str)(t c:Nat):Obj:=⟨(.type "function"),none,(.func ⟨x,q,zS s,.stmts (zU s),qK s,3,[],.none,.none,.none,(.str m t),none,(.ref c),.none,0⟩),#[]⟩
noncomputable def cO(x q:Str)(a b d:Nat)(l n v:Int)(e:Nat)(i:Int)(f g h j:Nat)(k o:Int)(p:Nat):Obj:=⟨(.type "code"),none,(.fields #[(.str x a),(.str q b),(.str "/claim/cut.py" d),(.int l 0),(.int n 0),(.int 0 0),(.int 0 0),(.int v 0),(.ref e),(.bool true),(.int i 0),(.ref f),.none,(.ref g),(.ref h),(.ref j),(.int k 0),(.int o 0),(.str "/claim/cut.py" p)]),#[]⟩
noncomputable def eR(P:Params)(x:Str)(t c:Nat):DictEntry:=⟨bQ P x,.str x t,.ref c⟩
noncomputable def cP(c:Nat)(x:Str)(a:Nat)(l n:Int)(e:Nat):Obj:=cO x x a (a+1) (a+2) l n 3 (c - 5) 181 (c - 4) (c - 3) (c - 2) (c - 1) (e:Int) l (e+1)
noncomputable def g0(x:Str)(s:Stmt)(c:Nat):Obj:=fO x x s "flipwright.opening" 248 c
noncomputable def g1(x:Str)(s:Stmt)(c:Nat):Obj:=fO x x s "flipwright.leaning" 448 c
noncomputable def g2(x:Str)(s:Stmt)(c:Nat):Obj:=fO x x s "law_flipwright_k50_leans" 462 c
noncomputable def x1:Obj:=⟨(.type "tuple"),none,(.seq #[(.ref 24)] 0),#[]⟩
noncomputable def x2:Obj:=⟨(.type "tuple"),none,(.seq #[] 0),#[]⟩
noncomputable def x3(c:Nat)(l:Int)(a:Nat)(P:Params):Obj:=⟨(.type "dict"),none,(.dict #[⟨bQ P "__module__",(.str "__module__" (a+7)),(.str "flipwright.errors" 187)⟩,⟨bQ P "__firstlineno__",(.str "__firstlineno__" (a+11)),(.int l (a+10))⟩,eR P "__static_attributes__" (a+12) (c+7),⟨bQ P "__doc__",(.str "__doc__" (a+13)),.none⟩] 2),#[]⟩
noncomputable def x4(c:Nat)(x:Str)(a:Nat):Obj:=⟨(.type "type"),none,(.cls (.mk x [(.ref 24)] [(.ref (c+9)),(.ref 24),(.type "ValueError"),(.type "Exception"),(.type "BaseException"),(.type "object")] (c+8) x true [] [] false none false)),#[(some (.ref (c+0))),none,(some (.str x (a+0))),(some (.str x (a+8))),(some (.builtin "ValueError.__new__")),(some (.bool true))]⟩
noncomputable def KF:Params->aQ:=fun P=>
 (nat_lit 2,⟨.none,none,(.dict #[] 0),#[]⟩)::
 (nat_lit 3,⟨(.type "dict"),none,(.dict #[⟨bQ P "__name__",(.str "__name__" 165),(.str "law_flipwright_k50_leans" 462)⟩,⟨bQ P "__doc__",(.str "__doc__" 166),.none⟩,⟨bQ P "__package__",(.str "__package__" 167),.none⟩,⟨bQ P "__loader__",(.str "__loader__" 168),(.builtin "__main__.__loader__#opaque")⟩,⟨bQ P "__spec__",(.str "__spec__" 169),.none⟩,eR P "__annotations__" 170 6,eR P "__builtins__" 171 4,⟨bQ P "__file__",(.str "__file__" 173),(.str "/claim/cut.py" 172)⟩,⟨bQ P "__cached__",(.str "__cached__" 174),.none⟩,eR P "FlipError" 206 24,eR P "NoName" 231 44,eR P "TooMuch" 247 56,⟨bQ P "MOST_DEFS",(.str "MOST_DEFS" 251),(.int 3 250)⟩,⟨bQ P "MOST_DRAWS",(.str "MOST_DRAWS" 253),(.int 60 252)⟩,⟨bQ P "MOST_SIZE",(.str "MOST_SIZE" 255),(.int 600 254)⟩,eR P "Opened" 284 73,eR P "parts_of" 290 82,eR P "check_term" 302 89,eR P "check_names" 314 96,eR P "check_defs" 320 101,eR P "draw_of" 327 108,eR P "with_parts" 333 113,eR P "Opener" 438 179,eR P "opened" 447 190,eR P "slots_read" 455 195,eR P "leans" 461 200,eR P "_law_parts" 469 205,eR P "_law_count" 475 210,eR P "_law_drawn" 481 215,eR P "_law_term" 496 222,eR P "_law_rows" 502 227,eR P "_law_helpers" 510 234,eR P "_law_program" 518 241,eR P "_law_names" 527 248,eR P "_law_leans" 533 253,eR P "_law_whole" 540 260,eR P "_law_right" 551 267,eR P "law" 564 274] 38),#[]⟩)::
 (nat_lit 15,⟨(.type "tuple"),none,(.seq #[(.type "ValueError")] 0),#[]⟩)::
 (nat_lit 22,x2)::
 (nat_lit 23,⟨(.type "dict"),none,(.dict #[⟨bQ P "__module__",(.str "__module__" 196),(.str "flipwright.errors" 187)⟩,⟨bQ P "__firstlineno__",(.str "__firstlineno__" 200),(.int 2 199)⟩,eR P "__static_attributes__" 201 22,eR P "__weakref__" 203 25,⟨bQ P "__doc__",(.str "__doc__" 204),.none⟩] 3),#[]⟩)::
 (nat_lit 24,⟨(.type "type"),none,(.cls (.mk "FlipError" [(.type "ValueError")] [(.ref 24),(.type "ValueError"),(.type "Exception"),(.type "BaseException"),(.type "object")] 23 "FlipError" true [] [(.ref 44),(.ref 56)] false none false)),#[(some (.ref 15)),none,(some (.str "FlipError" 189)),(some (.str "FlipError" 197)),(some (.builtin "ValueError.__new__")),(some (.bool true))]⟩)::
 (nat_lit 25,⟨(.type "getset_descriptor"),none,(.fields #[(.str "__weakref__" 202),(.ref 24),(.builtin "ExceptionGroup.__weakref__"),.none]),#[]⟩)::
 (nat_lit 28,x1)::
 (nat_lit 40,cO "__init__" "NoName.__init__" 219 220 221 6 2 3 35 181 36 37 38 39 224 6 225)::
 (nat_lit 41,fO "__init__" "NoName.__init__" qZc "flipwright.errors" 187 40)::
 (nat_lit 42,⟨(.type "tuple"),none,(.seq #[(.str "row" 227)] 0),#[]⟩)::
 (nat_lit 43,⟨(.type "dict"),none,(.dict #[⟨bQ P "__module__",(.str "__module__" 214),(.str "flipwright.errors" 187)⟩,⟨bQ P "__firstlineno__",(.str "__firstlineno__" 218),(.int 4 217)⟩,eR P "__init__" 226 41,eR P "__static_attributes__" 228 42,⟨bQ P "__doc__",(.str "__doc__" 229),.none⟩] 2),#[]⟩)::
 (nat_lit 44,⟨(.type "type"),none,(.cls (.mk "NoName" [(.ref 24)] [(.ref 44),(.ref 24),(.type "ValueError"),(.type "Exception"),(.type "BaseException"),(.type "object")] 43 "NoName" true [] [] false none false)),#[(some (.ref 28)),none,(some (.str "NoName" 207)),(some (.str "NoName" 215)),(some (.builtin "ValueError.__new__")),(some (.bool true))]⟩)::
 (nat_lit 47,x1)::
 (nat_lit 54,x2)::
 (nat_lit 55,x3 47 8 232 P)::
 (nat_lit 56,x4 47 "TooMuch" 232)::
 (nat_lit 69,⟨(.type "code"),none,(.fields #[(.str "__init__" 268),(.str "Opened.__init__" 269),(.str "/claim/cut.py" 270),(.int 16 0),(.int 4 0),(.int 0 0),(.int 0 0),(.int 3 0),(.ref 66),(.bool true),(.int 181 0),(.ref 67),.none,.none,.none,(.ref 68),(.int 271 0),(.int 16 0),(.str "/claim/cut.py" 272)]),#[]⟩)::
 (nat_lit 70,fO "__init__" "Opened.__init__" yP "flipwright.opening" 248 69)::
 (nat_lit 71,⟨(.type "tuple"),none,(.seq #[(.str "draws" 274),(.str "slots" 275),(.str "steps" 276)] 0),#[]⟩)::
 (nat_lit 72,⟨(.type "dict"),none,(.dict #[⟨bQ P "__module__",(.str "__module__" 263),(.str "flipwright.opening" 248)⟩,⟨bQ P "__firstlineno__",(.str "__firstlineno__" 267),(.int 14 266)⟩,eR P "__init__" 273 70,eR P "__static_attributes__" 277 71,eR P "__dict__" 279 74,eR P "__weakref__" 281 75,⟨bQ P "__doc__",(.str "__doc__" 282),.none⟩] 4),#[]⟩)::
 (nat_lit 73,⟨(.type "type"),none,(.cls (.mk "Opened" [(.type "object")] [(.ref 73),(.type "object")] 72 "Opened" true [] [] false none false)),#[none,none,(some (.str "Opened" 256)),(some (.str "Opened" 264)),(some (.builtin "object.__new__")),(some (.bool true))]⟩)::
 (nat_lit 74,⟨(.type "getset_descriptor"),none,(.fields #[(.str "__dict__" 278),(.ref 73),(.builtin "function.__dict__"),(.builtin "function.__dict__#set")]),#[]⟩)::
 (nat_lit 75,⟨(.type "getset_descriptor"),none,(.fields #[(.str "__weakref__" 280),(.ref 73),(.builtin "ExceptionGroup.__weakref__"),.none]),#[]⟩)::
 (nat_lit 81,⟨(.type "code"),none,(.fields #[(.str "parts_of" 285),(.str "parts_of" 286),(.str "/claim/cut.py" 287),(.int 20 0),(.int 1 0),(.int 0 0),(.int 0 0),(.int 3 0),(.ref 78),(.bool true),(.int 181 0),(.ref 79),.none,.none,.none,(.ref 80),(.int 288 0),(.int 20 0),(.str "/claim/cut.py" 289)]),#[]⟩)::
 (nat_lit 82,g0 "parts_of" qJa 81)::
 (nat_lit 88,cP 88 "check_term" 291 33 4 300)::
 (nat_lit 89,g0 "check_term" qQ8 88)::
 (nat_lit 95,cP 95 "check_names" 303 41 1 312)::
 (nat_lit 96,g0 "check_names" qQd 95)::
 (nat_lit 100,⟨(.type "code"),none,(.fields #[(.str "check_defs" 315),(.str "check_defs" 316),(.str "/claim/cut.py" 317),(.int 57 0),(.int 1 0),(.int 0 0),(.int 0 0),(.int 3 0),(.ref 97),(.bool true),(.int 181 0),(.ref 98),.none,.none,.none,(.ref 99),(.int 318 0),(.int 57 0),(.str "/claim/cut.py" 319)]),#[]⟩)::
 (nat_lit 101,g0 "check_defs" qQ9 100)::
 (nat_lit 107,cP 107 "draw_of" 321 60 1 325)::
 (nat_lit 108,g0 "draw_of" qWh 107)::
 (nat_lit 112,⟨(.type "code"),none,(.fields #[(.str "with_parts" 328),(.str "with_parts" 329),(.str "/claim/cut.py" 330),(.int 64 0),(.int 2 0),(.int 0 0),(.int 0 0),(.int 3 0),(.ref 109),(.bool true),(.int 181 0),(.ref 110),.none,.none,.none,(.ref 111),(.int 331 0),(.int 64 0),(.str "/claim/cut.py" 332)]),#[]⟩)::
 (nat_lit 113,g0 "with_parts" qQ6 112)::
 (nat_lit 126,cO "__init__" "Opener.__init__" 346 347 348 75 1 3 121 181 122 123 124 125 350 75 351)::
 (nat_lit 127,fO "__init__" "Opener.__init__" yK "flipwright.opening" 248 126)::
 (nat_lit 133,cO "count_term" "Opener.count_term" 353 354 355 83 1 3 128 181 129 130 131 132 357 83 358)::
 (nat_lit 134,fO "count_term" "Opener.count_term" jN "flipwright.opening" 248 133)::
 (nat_lit 140,cO "new_slot" "Opener.new_slot" 360 361 362 88 1 3 135 181 136 137 138 139 364 88 365)::
 (nat_lit 141,fO "new_slot" "Opener.new_slot" wN "flipwright.opening" 248 140)::
 (nat_lit 147,cO "new_draw" "Opener.new_draw" 367 368 369 92 2 3 142 181 143 144 145 146 372 92 373)::
 (nat_lit 148,fO "new_draw" "Opener.new_draw" wO "flipwright.opening" 248 147)::
 (nat_lit 154,cO "open_term" "Opener.open_term" 375 376 377 98 3 3 149 181 150 151 152 153 384 98 385)::
 (nat_lit 155,fO "open_term" "Opener.open_term" j8 "flipwright.opening" 248 154)::
 (nat_lit 161,cO "open_call" "Opener.open_call" 387 388 389 114 3 3 156 181 157 158 159 160 401 114 402)::
 (nat_lit 162,fO "open_call" "Opener.open_call" j9 "flipwright.opening" 248 161)::
 (nat_lit 168,cO "open_let" "Opener.open_let" 404 405 406 128 3 3 163 181 164 165 166 167 411 128 412)::
 (nat_lit 169,fO "open_let" "Opener.open_let" wM "flipwright.opening" 248 168)::
 (nat_lit 175,cO "open_row" "Opener.open_row" 414 415 416 133 2 3 170 181 171 172 173 174 422 133 423)::
 (nat_lit 176,fO "open_row" "Opener.open_row" wL "flipwright.opening" 248 175)::
 (nat_lit 177,⟨(.type "tuple"),none,(.seq #[(.str "draws" 425),(.str "helpers" 426),(.str "names" 427),(.str "slots" 428),(.str "steps" 429),(.str "terms" 430)] 0),#[]⟩)::
 (nat_lit 178,⟨(.type "dict"),none,(.dict #[⟨bQ P "__module__",(.str "__module__" 341),(.str "flipwright.opening" 248)⟩,⟨bQ P "__firstlineno__",(.str "__firstlineno__" 345),(.int 73 344)⟩,eR P "__init__" 352 127,eR P "count_term" 359 134,eR P "new_slot" 366 141,eR P "new_draw" 374 148,eR P "open_term" 386 155,eR P "open_call" 403 162,eR P "open_let" 413 169,eR P "open_row" 424 176,eR P "__static_attributes__" 431 177,eR P "__dict__" 433 180,eR P "__weakref__" 435 181,⟨bQ P "__doc__",(.str "__doc__" 436),.none⟩] 4),#[]⟩)::
 (nat_lit 179,⟨(.type "type"),none,(.cls (.mk "Opener" [(.type "object")] [(.ref 179),(.type "object")] 178 "Opener" true [] [] false none false)),#[none,none,(some (.str "Opener" 334)),(some (.str "Opener" 342)),(some (.builtin "object.__new__")),(some (.bool true))]⟩)::
 (nat_lit 180,⟨(.type "getset_descriptor"),none,(.fields #[(.str "__dict__" 432),(.ref 179),(.builtin "function.__dict__"),(.builtin "function.__dict__#set")]),#[]⟩)::
 (nat_lit 181,⟨(.type "getset_descriptor"),none,(.fields #[(.str "__weakref__" 434),(.ref 179),(.builtin "ExceptionGroup.__weakref__"),.none]),#[]⟩)::
 (nat_lit 189,cP 189 "opened" 439 147 1 445)::
 (nat_lit 190,g0 "opened" qX6 189)::
 (nat_lit 194,⟨(.type "code"),none,(.fields #[(.str "slots_read" 450),(.str "slots_read" 451),(.str "/claim/cut.py" 452),(.int 155 0),(.int 1 0),(.int 0 0),(.int 0 0),(.int 3 0),(.ref 191),(.bool true),(.int 181 0),(.ref 192),.none,.none,.none,(.ref 193),(.int 453 0),(.int 155 0),(.str "/claim/cut.py" 454)]),#[]⟩)::
 (nat_lit 195,g1 "slots_read" qQ7 194)::
 (nat_lit 199,⟨(.type "code"),none,(.fields #[(.str "leans" 456),(.str "leans" 457),(.str "/claim/cut.py" 458),(.int 165 0),(.int 1 0),(.int 0 0),(.int 0 0),(.int 3 0),(.ref 196),(.bool true),(.int 181 0),(.ref 197),.none,.none,.none,(.ref 198),(.int 459 0),(.int 165 0),(.str "/claim/cut.py" 460)]),#[]⟩)::
 (nat_lit 200,g1 "leans" vQn 199)::
 (nat_lit 204,⟨(.type "code"),none,(.fields #[(.str "_law_parts" 464),(.str "_law_parts" 465),(.str "/claim/cut.py" 466),(.int 174 0),(.int 1 0),(.int 0 0),(.int 0 0),(.int 3 0),(.ref 201),(.bool true),(.int 181 0),(.ref 202),.none,.none,.none,(.ref 203),(.int 467 0),(.int 174 0),(.str "/claim/cut.py" 468)]),#[]⟩)::
 (nat_lit 205,g2 "_law_parts" qV3 204)::
 (nat_lit 209,⟨(.type "code"),none,(.fields #[(.str "_law_count" 470),(.str "_law_count" 471),(.str "/claim/cut.py" 472),(.int 186 0),(.int 1 0),(.int 0 0),(.int 0 0),(.int 3 0),(.ref 206),(.bool true),(.int 181 0),(.ref 207),.none,.none,.none,(.ref 208),(.int 473 0),(.int 186 0),(.str "/claim/cut.py" 474)]),#[]⟩)::
 (nat_lit 210,g2 "_law_count" qV7 209)::
 (nat_lit 214,⟨(.type "code"),none,(.fields #[(.str "_law_drawn" 476),(.str "_law_drawn" 477),(.str "/claim/cut.py" 478),(.int 190 0),(.int 2 0),(.int 0 0),(.int 0 0),(.int 3 0),(.ref 211),(.bool true),(.int 181 0),(.ref 212),.none,.none,.none,(.ref 213),(.int 479 0),(.int 190 0),(.str "/claim/cut.py" 480)]),#[]⟩)::
 (nat_lit 215,g2 "_law_drawn" qV6 214)::
 (nat_lit 221,cP 221 "_law_term" 482 198 4 494)::
 (nat_lit 222,g2 "_law_term" qJb 221)::
 (nat_lit 226,⟨(.type "code"),none,(.fields #[(.str "_law_rows" 497),(.str "_law_rows" 498),(.str "/claim/cut.py" 499),(.int 221 0),(.int 3 0),(.int 0 0),(.int 0 0),(.int 3 0),(.ref 223),(.bool true),(.int 181 0),(.ref 224),.none,.none,.none,(.ref 225),(.int 500 0),(.int 221 0),(.str "/claim/cut.py" 501)]),#[]⟩)::
 (nat_lit 227,g2 "_law_rows" qJc 226)::
 (nat_lit 233,cP 233 "_law_helpers" 503 240 0 508)::
 (nat_lit 234,g2 "_law_helpers" qQc 233)::
 (nat_lit 240,cP 240 "_law_program" 511 244 2 516)::
 (nat_lit 241,g2 "_law_program" qQb 240)::
 (nat_lit 247,cP 247 "_law_names" 519 246 1 525)::
 (nat_lit 248,g2 "_law_names" qV4 247)::
 (nat_lit 252,⟨(.type "code"),none,(.fields #[(.str "_law_leans" 528),(.str "_law_leans" 529),(.str "/claim/cut.py" 530),(.int 253 0),(.int 1 0),(.int 0 0),(.int 0 0),(.int 3 0),(.ref 249),(.bool true),(.int 181 0),(.ref 250),.none,.none,.none,(.ref 251),(.int 531 0),(.int 253 0),(.str "/claim/cut.py" 532)]),#[]⟩)::
 (nat_lit 253,g2 "_law_leans" qV5 252)::
 (nat_lit 259,cP 259 "_law_whole" 534 265 1 538)::
 (nat_lit 260,g2 "_law_whole" qV1 259)::
 (nat_lit 266,cP 266 "_law_right" 541 267 2 549)::
 (nat_lit 267,g2 "_law_right" qV2 266)::
 (nat_lit 273,cP 273 "law" 552 277 1 562)::
 (nat_lit 274,g2 "law" vKp 273):: []
noncomputable def KA:List aZ:=[2,3,15,22,23,24,25,28,40,41,42,43,44,47,54,55,56,69,70,71,72,73,74,75,81,82,88,89,95,96,100,101,107,108,112,113,126,127,133,134,140,141,147,148,154,155,161,162,168,169,175,176,177,178,179,180,181,189,190,194,195,199,200,204,205,209,210,214,215,221,222,226,227,233,234,240,241,247,248,252,253,259,260,266,267,273,274]
theorem KAs(P:Params):KA=List.map (fun x=>x.fst) (KF P):=by kernel_rfl
noncomputable abbrev pg:aT:=PySem.Challenge.rw_flipwright_k50_leans.row.toRowW.prog
noncomputable def vw:aT:={pg with main:={pg.main with body:=pg.main.body.drop 32}}
noncomputable def ev0:Env:={scope:=pg.main.scope,locals:=mainNs,globals:=mainNs,cells:=[],code:=.ref 13,frame:=some 14}
noncomputable def Sa(w:bY)(os:OsState):aJ:=match PySem.W.topGo treeTable pg w 11 (some (.ref 6)) 12 ⟨PySem.W.boot_heap w.params,Array.mk [],PySem.W.boot_drawn,PySem.W.boot_toks,os⟩ (PySem.W.topStub pg) with|some r=>r.1|none=>⟨PySem.W.boot_heap w.params,Array.mk [],PySem.W.boot_drawn,PySem.W.boot_toks,os⟩
theorem zK7(w:bY)(os:OsState):PySem.W.topGo treeTable pg w 11 (some (.ref 6)) 12 ⟨PySem.W.boot_heap w.params,Array.mk [],PySem.W.boot_drawn,PySem.W.boot_toks,os⟩ (PySem.W.topStub pg)=
   some (Sa w os,⟨denote treeTable (.body (PySem.W.behindTheImports pg) ev0),.body (PySem.W.behindTheImports pg) ev0,default,[PySem.W.topFrame default]⟩):=by kernel_rfl
theorem zWz(w:bY)(os:OsState):(TH.ofS (Sa w os)).abs =Sa w os:=by kernel_rfl
theorem zZk:blockStart (PySem.W.behindTheImports pg) ev0=.pure ():=by kernel_rfl
theorem zW0(w:bY):((PySem.W.boot_heap w.params).isNs cZ,(PySem.W.boot_heap w.params).objs.size,(PySem.W.boot_heap w.params).nsMap cZ "__annotations__")=(true,11,some (.ref 6)):=by kernel_rfl
set_option maxHeartbeats 0 in
theorem zK6(w:bY)(os:OsState):TH.vJ6 pg w 11 (some (.ref 6)) (PySem.W.behindTheImports pg) ev0 (.body (PySem.W.behindTheImports pg) ev0) default default 2079 (TH.ofS (Sa w os)) (TH.vKv pg vw pg.boundNames (fun s=>PySem.W.xlAt vw [] s && PySem.W.recOk (PySem.W.RowW.records (PySem.W.OpenRow.toRowW PySem.Challenge.rw_flipwright_k50_leans.row)) s) (PySem.W.Hook.obs (PySem.W.kHook KF KA KAs)) true (PySem.W.boot_heap w.params))=some (true,PySem.W.openGood vw pg.boundNames,PySem.W.Hook.val (PySem.W.kHook KF KA KAs) w):=by kernel_rfl
end X50
namespace L2
open PySem PySem.Spec PyProof.Rows
variable{us:List Value}{H:Hp}{α:Type}{g':Array GenState}{t' i j n:Nat}{d':Drawn}{ch fp:List aZ}{it dx C:aZ}{N ps:List Str}{M:Model}{A:bR}{Q:Value->aJ->Prop}{X:Cx}{pos:Pos}{pins:List (aZ×Obj)}{y:V}{K:aQ}{es:List Expr}{tg:Expr}{te:TE}{g:Int->Int->Int}{body:List Stmt}{pl:Sem Bool}{kw:List (Str×Value)}{mg:Str->Option Value}{base:Heap}{CX:CXT}{fd:bZ}{sp:Sp}{outer:List Env}{vs:List V}{kindOf:Str->Option NameKind}{qual:Str}{scope:Scope}
noncomputable abbrev Key:=Sum Int Str
noncomputable def qKj:Key->Value->Bool
 |.inl k,v=>Value.isInt k v
 |.inr x,v=>Value.isStrOf x v
noncomputable def keyH(w:bY):Key->Int
 |.inl k=>hashInt k
 |.inr x=>hashStr w x
theorem zW:∀{k:Key} {v:Value},qKj k v=true->(∃i t,k=Sum.inl i/\v=Value.int i t)\/(∃x t,k=Sum.inr x/\v=Value.str x t)
 | .inl i,v,h=>by
   obtain⟨t,e⟩:=Value.isInt_shape (k:=i) (v:=v) h;exact .inl ⟨i,t,rfl,e⟩
 | .inr x,v,h=>by
   obtain⟨t,e⟩:=Value.isStrOf_shape (x:=x) (v:=v) h;exact .inr ⟨x,t,rfl,e⟩
theorem vYp(i:Int)(t:Tok):qKj (.inl i) (.int i t)=true:=by simp[qKj,Value.isInt]
theorem vYo(x:Str)(t:Tok):qKj (.inr x) (.str x t)=true:=by simp[qKj,Value.isStrOf]
theorem zKr(a b:Int):decide ((Sum.inl a:Key)=Sum.inl b)=(a == b):=by
 grind
theorem zKo(a b:Str):decide ((Sum.inr a:Key)=Sum.inr b)=decide (a=b):=by
 grind
theorem zKq(a:Int)(b:Str):decide ((Sum.inl a:Key)=Sum.inr b)=false:=decide_eq_false (fun q=>nomatch q)
theorem zKp(a:Str)(b:Int):decide ((Sum.inr a:Key)=Sum.inl b)=false:=decide_eq_false (fun q=>nomatch q)
noncomputable def zG(prog:aT)(w:bY):PySem.KeyKind prog w Key where
 is:=qKj;hash:=keyH w;inj:=fun v a b ha hb=>by
  rcases zW ha with⟨i,t,rfl,rfl⟩|⟨x,t,rfl,rfl⟩
  ·rcases zW hb with⟨j,u,rfl,e⟩ | ⟨y,u,rfl,e⟩
   ·injection e with e1 _;rw[e1]
   ·exact nomatch e
  ·rcases zW hb with⟨j,u,rfl,e⟩ | ⟨y,u,rfl,e⟩
   ·exact nomatch e
   ·injection e with e1 _;rw[e1]
 byValue:=fun k v h=>by
  rcases zW h with⟨i,t,rfl,rfl⟩|⟨x,t,rfl,rfl⟩ <;> rfl
 pyHash:=fun hv h=>by
  rcases zW hv with⟨i,t,rfl,rfl⟩|⟨x,t,rfl,rfl⟩
  ·exact wpAny_pyHash_int h
  ·exact wpAny_pyHash_str h
 eqBool:=fun hu hv h=>by
  rcases zW hu with⟨i,t,rfl,rfl⟩|⟨x,t,rfl,rfl⟩
  ·rcases zW hv with⟨j,u,rfl,rfl⟩ | ⟨y,u,rfl,rfl⟩
   ·rw[zKr]at h;exact wpAny_eqBool_int h
   ·rw[zKq]at h;exact SeqAt.EqAt.int_str i t y u _ _ _ _ h
  ·rcases zW hv with⟨j,u,rfl,rfl⟩ | ⟨y,u,rfl,rfl⟩
   ·rw[zKp]at h;exact SeqAt.EqAt.str_int x t j u _ _ _ _ h
   ·rw[zKo]at h;exact wpAny_eqBool_str h
 «strs»:=fun k x t v h=>by
  rcases zW h with⟨i,u,rfl,e⟩|⟨y,u,rfl,e⟩
  ·exact nomatch e
  ·injection e with e1 _
   subst e1;cases v <;> rfl
theorem vZq(prog:aT)(w:bY)(i:Int)(t:Tok):(zG prog w).is (.inl i) (.int i t)=true:=vYp i t
theorem vZp(prog:aT)(w:bY)(x:Str)(t:Tok):(zG prog w).is (.inr x) (.str x t)=true:=vYo x t
inductive V where
 |non|bl (b:Bool)|int (i:Int)|str (x:Str)|byt (b:Array UInt8)|flt (b:UInt64)|ref (a:aZ)|ty (n:String)
 deriving DecidableEq
noncomputable def RelV:V->Value->Prop
 |.non,u=>u=Value.none
 |.bl b,u=>u=Value.bool b
 |.int i,u=>∃t,u=Value.int i t
 |.str x,u=>∃t,u=Value.str x t
 |.byt b,u=>∃t,u=Value.bytes b t
 |.flt b,u=>∃t,u=Value.float b t
 |.ref a,u=>u=Value.ref a
 |.ty n,u=>u=Value.type n
noncomputable abbrev Vals:List V->List Value->Prop:=Paired RelV
theorem Vals.length{xs:List V}(r:Vals xs us):xs.length=us.length:=Paired.length r
theorem Vals.get:∀{xs:List V} {us:List Value} {i:Nat} {x:V},Vals xs us->xs[i]?=some x->∃u,us[i]?=some u/\RelV x u
 |_,_,_,_,.nil,e=>by simp at e
 |_,_,0,_,.cons r _,e=>by simp at e;subst e;exact⟨_,rfl,r⟩
 | _,_,i + 1,x, .cons _ t,e=>by
   obtain⟨u,h1,h2⟩:=Vals.get (i:=i) (x:=x) t (by simpa using e);exact⟨u,by simpa using h1,h2⟩
theorem Vals.set{x:V}{u:Value}(r:RelV x u):∀{xs:List V} {us:List Value} (i:Nat),Vals xs us->Vals (xs.set i x) (us.set i u)
 |_,_,_,.nil =>.nil
 |_,_,0,.cons _ t=>.cons r t
 |_,_,i+1,.cons q t=>.cons q (Vals.set r i t)
theorem Vals.append:∀{xs ys:List V} {us ws:List Value},Vals xs us->Vals ys ws->Vals (xs ++ ys) (us ++ ws)
 |_,_,_,_,.nil,s=>s
 |_,_,_,_,.cons r t,s=>.cons r (Vals.append t s)
theorem Vals.take:∀{xs:List V} {us:List Value} (n:Nat),Vals xs us->Vals (xs.take n) (us.take n)
 |_,_,0,_=>.nil
 |_,_,_+1,.nil =>.nil
 |_,_,n+1,.cons r t=>.cons r (Vals.take n t)
theorem Vals.drop:∀{xs:List V} {us:List Value} (n:Nat),Vals xs us->Vals (xs.drop n) (us.drop n)
 |_,_,0,r=>r
 |_,_,_+1,.nil =>.nil
 |_,_,n+1,.cons _ t=>Vals.drop n t
noncomputable def RelO:Option V->Option Value->Prop
 |some v,some u=>RelV v u
 |none,none=>True
 |_,_=>False
noncomputable def KV{κ:Type}:List (κ×V)->List (κ×Value)->Prop:=Paired fun(p:κ×V) (q:κ×Value)=>p.1=q.1/\RelV p.2 q.2
noncomputable def kV:Key->V
 |.inl i=>.int i
 |.inr x=>.str x
inductive HO where
  |lst (xs:List V)
  |tup (xs:List V)
  |dK (kvs:List (Key×V))|dT (kvs:List (List Key×V))
  |set (S:Int->Bool) (n:Nat)
  |ins (C dx:aZ) (fs:List (Str×V))
  |own (x:aZ)
  |xd (fs:List (Str×V))
  |met (f x:aZ)
  |rng (lo hi:Int)
  |frz (o:Obj) (u:HO)
  |tbl (ps:Array Value)
 | tab (l c:Nat) (q:Str)
   |ext (φ:Heap->Prop)
noncomputable abbrev Hp:=aZ->Option HO
noncomputable def upd(H:Hp)(a:aZ)(o:HO):Hp:=fun b=>if b=a then some o else H b
theorem upd_same{a:aZ}{o:HO}:upd H a o a=some o:=by unfold upd;rw[if_pos rfl]
theorem vQ{a b:aZ}{o:HO}(h:b≠a):upd H a o b=H b:=by unfold upd;rw[if_neg h]
theorem jVe{a b:aZ}{o u:HO}(h:H a=some o)(h' :H b=some u)(d:o≠u):a≠b:=by
 intro e;subst e;rw[h]at h';exact d (Option.some.inj h')
theorem v9{a b:aZ}{o:HO}(h:H a=some o)(h' :H b=none):a≠b:=by
 grind
noncomputable def TabL(H:Hp)(h:Heap)(a:aZ)(l c:Nat)(q:Str)(ps:List Value):Prop:=ps=[]\/∃c1 co fs t,ps=[rawInt l,rawInt c,.ref c1]/\H c1=some (.own a)/\h.get? c1=some co/\co.data=.fields fs/\fs[1]?=some (.str q t)
section
variable(P:aT)(w:bY)
noncomputable def vS(H:Hp)(h:Heap)(a:aZ):HO->Prop
 |.lst xs=>xs.length<=aA/\∃(its:List Value) (n:Nat),Vals xs its/\h.get? a=some {cls:=.type "list",data:=.seq its.toArray n}
 |.tup xs=>xs.length<=aA/\∃its:List Value,Vals xs its/\IsTup h a its.toArray
 |.dK kvs=>kvs.length<=aA/\(a == eK)=false/\∃vs,KV kvs vs/\h.DictOf (zG P w) a vs
 | .dT kvs=>kvs.length<=aA/\(a == eK)=false/\∃xs:List (List Key×aZ×Value),
   Paired (fun(p:List Key×V) (q:List Key×aZ×Value)=>p.1=q.1/\H q.2.1=some (.tup (p.1.map kV))/\RelV p.2 q.2.2) kvs xs/\
   ∃o es ep,h.get? a=some o/\o.ExactDict/\o.data=.dict es ep/\es.toList=xs.map (entryOfKey (tupleKind (zG P w)))/\(xs.map (·.1)).Nodup
 |.set S n=>h.SetOf (intKind P w) a S n
 | .ins C dx fs=>H dx=some (.own a)/\fs.length<=1000/\dx≠a/\h.get? a=some (cR C dx)/\
   ∃mA,h.Ns1 dx mA/\(∀f,RelO (fs.lookup f) (mA f))/\PySem.Within mA (fs.map (·.1))
 |.own _=>∃o,h.get? a=some o
 |.xd fs=>∃mA,h.Ns1 a mA/\∀f,RelO (fs.lookup f) (mA f)
 |.rng lo hi=>∃t u v,h.get? a=some {cls:=.type "range",data:=.fields #[.int lo t,.int hi u,.int 1 v]}
 |.frz o u=>h.get? a=some o/\vS H h a u
 |.tbl ps=>h.get? a=some {cls:=.none,data:=.fields ps}
 |.tab l c q=>∃ps,h.get? a=some {cls:=.none,data:=.fields ps}/\TabL H h a l c q ps.toList
 |.met f x=>h.get? a=some (PySem.W.methodObj (.ref f) (.ref x))
 |.ext φ=>φ h/\(∃o,h.get? a=some o)/\∀h1 h2:Heap,φ h1->(∀o,h1.get? a=some o->h2.get? a=some o)->φ h2
noncomputable def HOk(H:Hp)(h:Heap):Prop:=∀a o,H a=some o->vS P w H h a o
end
section
variable{P:aT}{w:bY}{H H' :Hp}{h h' :Heap}{a:aZ}{o:HO}
theorem vS.lt(x:vS P w H h a o):a<h.objs.size:=by
 cases o with
 |lst xs=>obtain⟨_,_,_,_,e⟩:=x;exact aE e
 |tup xs=>obtain⟨_,_,_,p⟩:=x;exact p.lt
 |dK kvs=>obtain⟨_,_,_,_,o,_,_,e,_⟩:=x;exact aE e
 |dT kvs=>obtain⟨_,_,_,_,o,_,_,e,_⟩:=x;exact aE e
 |set S n=>obtain⟨o,_,_,_,e,_⟩:=x;exact aE e
 |ins C dx fs=>obtain⟨_,_,_,e,_⟩:=x;exact aE e
 |own y=>obtain⟨_,e⟩:=x;exact aE e
 |xd fs=>obtain⟨_,⟨_,_,_,e,_⟩,_⟩:=x;exact aE e
 |rng lo hi=>obtain⟨_,_,_,e⟩:=x;exact aE e
 |frz ob u=>obtain⟨e,_⟩:=x;exact aE e
 |tbl ps=>exact aE (show h.get? a=some _ from x)
 |tab l c q=>obtain⟨_,e,_⟩:=x;exact aE e
 |met f y=>exact aE (show h.get? a=some _ from x)
 |ext φ=>obtain⟨_,⟨_,e⟩,_⟩:=x;exact aE e
theorem Paired.mapP{β:Type}{F G:α->β->Prop}:∀{l₁:List α} {l₂:List β},Paired F l₁ l₂->(∀a b,F a b->G a b)->Paired G l₁ l₂
 |_,_,.nil,_=>.nil
 |_,_,.cons r t,f=>.cons (f _ _ r) (Paired.mapP t f)
theorem vS.stay(x:vS P w H h a o)(k:∀b u,(b=a\/H b=some (.own a))->h.get? b=some u->h'.get? b=some u)(ho:∀b,H b=some (.own a)->H' b=some (.own a))(ht:∀b xs,H b=some (.tup xs)->H' b=some (.tup xs)):vS P w H' h' a o:=by
 induction o with
 |lst xs=>obtain⟨z,its,n,r,e⟩:=x;exact⟨z,its,n,r,k _ _ (.inl rfl) e⟩
 |tup xs=>obtain⟨z,its,r,ob,e,c⟩:=x;exact⟨z,its,r,ob,k _ _ (.inl rfl) e,c⟩
 |dK kvs=>obtain⟨z,y,vs,r,ob,es,ep,e,c⟩:=x;exact⟨z,y,vs,r,ob,es,ep,k _ _ (.inl rfl) e,c⟩
 | dT kvs=>
   obtain⟨z,y,xs,r,ob,es,ep,e,c⟩:=x;exact⟨z,y,xs,Paired.mapP r fun p q z=>⟨z.1,ht _ _ z.2.1,z.2.2⟩,ob,es,ep,k _ _ (.inl rfl) e,c⟩
 |set S n=>obtain⟨ob,es,ep,t,e,c⟩:=x;exact⟨ob,es,ep,t,k _ _ (.inl rfl) e,c⟩
 | ins C dx fs=>
   obtain⟨d,z,ne,e,mA,⟨od,es,ep,e2,c⟩,r⟩:=x;exact⟨ho _ d,z,ne,k _ _ (.inl rfl) e,mA,⟨od,es,ep,k _ _ (.inr d) e2,c⟩,r⟩
 |own y=>obtain⟨ob,e⟩:=x;exact⟨ob,k _ _ (.inl rfl) e⟩
 |xd fs=>obtain⟨mA,⟨od,es,ep,e,c⟩,r⟩:=x;exact⟨mA,⟨od,es,ep,k _ _ (.inl rfl) e,c⟩,r⟩
 |rng lo hi=>obtain⟨t,u,v,e⟩:=x;exact⟨t,u,v,k _ _ (.inl rfl) e⟩
 |frz ob u ih=>obtain⟨e,q⟩:=x;exact⟨k _ _ (.inl rfl) e,ih q⟩
 | tbl ps=>
   have e:h.get? a=some {cls:=.none,data:=.fields ps}:=x;show h'.get? a=some {cls:=.none,data:=.fields ps};exact k a _ (.inl rfl) e
 | tab l c q=>
   obtain⟨ps,e,t⟩:=x;refine⟨ps,k a _ (.inl rfl) e,?_⟩;rcases t with t|⟨c,co,fs,tq,h1,h2,h3,h4⟩
   ·exact .inl t
   ·exact .inr ⟨c,co,fs,tq,h1,ho c h2,k c co (.inr h2) h3,h4⟩
 | met f y=>
   have e:h.get? a=some (PySem.W.methodObj (.ref f) (.ref y)):=x;show h'.get? a=some (PySem.W.methodObj (.ref f) (.ref y));exact k a _ (.inl rfl) e
 |ext φ=>obtain⟨p,⟨o,e⟩,st⟩:=x;exact⟨st _ _ p fun o q=>k _ _ (.inl rfl) q,⟨o,k _ _ (.inl rfl) e⟩,st⟩
theorem HOk.lt(x:HOk P w H h)(e:H a=some o):a<h.objs.size:=(x a o e).lt
theorem HOk.fresh(x:HOk P w H h)(e:h.objs.size<=a):H a=none:=by
 cases q:H a with
 |none=>rfl
 |some u=>exact absurd (aN (x.lt q) e) (bM _)
theorem HOk.kept(x:HOk P w H h)(k:∀b u,h.get? b=some u->h'.get? b=some u):HOk P w H h' :=fun a o e=>
 (x a o e).stay (fun b u _ q=>k b u q) (fun _ q=>q) fun _ _ q=>q
theorem HOk.laid(x:HOk P w H h)(k:∀b u,h.get? b=some u->h'.get? b=some u)(hp:h.objs.size<=a)(new:vS P w (upd H a o) h' a o):HOk P w (upd H a o) h' :=fun b u e=>by
 have hn:=x.fresh hp;by_cases hb:b=a
 ·subst hb;rw[upd_same]at e;cases e;exact new
 ·rw [vQ hb] at e;exact(x b u e).stay (fun c v _ q=>k c v q) (fun c q=>by rw[vQ (v9 q hn)];exact q) fun c xs q=>by rw[vQ (v9 q hn)];exact q
end
noncomputable def Rd(H:Hp)(a:aZ)(u:HO):Prop:=H a=some u\/∃o,H a=some (.frz o u)
theorem Rd.ok{P:aT}{w:bY}{h:Heap}{a:aZ}{u:HO}(r:Rd H a u)(x:HOk P w H h):vS P w H h a u:=by
 rcases r with r|⟨o,r⟩
 ·exact x a u r
 ·obtain⟨_,q⟩:=x a _ r;exact q
noncomputable def Mut:Option HO->Prop
 |some (.lst _)=>True
 |some (.dK _)=>True
 |some (.dT _)=>True
 |some (.set _ _)=>True
 |some (.ins _ _ _)=>True
 |some (.ext _)=>True
 |_=>False
section
variable{P:aT}{w:bY}{H:Hp}{h h' :Heap}{x e:aZ}{o' :HO}
theorem HOk.write(ok:HOk P w H h)(mu:Mut (H x))(he:e=x\/H e=some (.own x))(k:∀b u,b≠e->h.get? b=some u->h'.get? b=some u)(heo:∃u,h'.get? e=some u)(new:vS P w (upd H x o') h' x o'):HOk P w (upd H x o') h' :=fun b u q=>by
 have nown:∀c y,H c=some (.own y)->c≠x:=fun c y r z=>by subst z;rw[r]at mu;exact mu
 have ntup:∀c xs,H c=some (.tup xs)->c≠x:=fun c xs r z=>by subst z;rw[r]at mu;exact mu
 by_cases hb:b=x
 ·subst hb;rw[upd_same]at q;cases q;exact new
 ·rw [vQ hb] at q;by_cases hbe:b=e
  ·have q' :H b=some (.own x):=by
    rcases he with z|z
    ·exact absurd (hbe.trans z) hb
    ·rw[hbe];exact z
   rw[q]at q';cases q';obtain⟨v,hv⟩:=heo;exact⟨v,by rw[hbe];exact hv⟩
  ·refine(ok b u q).stay (fun c v hc r=>k c v ?_ r) (fun c r=>by rw [vQ (nown c b r)];exact r) fun c xs r=>by rw [vQ (ntup c xs r)];exact r
   rcases hc with rfl|hc
   ·exact hbe
   ·rintro rfl;rcases he with z|z
    ·exact nown c b hc z
    ·rw[hc]at z;cases z;exact hb rfl
end
structure Un(fs ex:List aZ)(H H' :Hp)(h h' :Heap):Prop where
 keep:∀b o,h.get? b=some o->H b=none->b∉fs->b∉ex->h'.get? b=some o
 slot:∀b o,h.get? b=some o->H b=none->b∈fs->b∉ex->∃sl,h'.get? b=some {o with slots:=sl}
 free:∀b o,h.get? b=some o->H b=none->b∉ex->H' b=none
 there:∀b o,h.get? b=some o->b∉ex->∃o',h'.get? b=some o'
 tups:∀b xs,H b=some (.tup xs)->H' b=some (.tup xs)
 frzs:∀b o u,H b=some (.frz o u)->H' b=some (.frz o u)
 tbls:∀b ps,H b=some (.tbl ps)->∃more,H' b=some (.tbl (ps ++ more))
section
variable{fs fs' ex ex' :List aZ}{H H1 H2:Hp}{h h1 h2 h' :Heap}{a x e:aZ}{o:HO}
theorem Un.any(u:Un fs ex H H1 h h1){b:aZ}{ob:Obj}(q:h.get? b=some ob)(n:H b=none)(hx:b∉ex):∃sl,h1.get? b=some {ob with slots:=sl}:=by
 by_cases hb:b∈fs
 ·exact u.slot b ob q n hb hx
 ·exact⟨ob.slots,u.keep b ob q n hb hx⟩
theorem Un.kept(k:∀b u,h.get? b=some u->h'.get? b=some u):Un fs ex H H h h' :=
 ⟨fun b ob q _ _ _=>k b ob q,fun b ob q _ _ _=>⟨ob.slots,k b ob q⟩,fun _ _ _ n _=>n,fun b ob q _=>⟨ob,k b ob q⟩,fun _ _ q=>q,fun _ _ _ q=>q,fun _ ps q=>⟨#[],by rw[q];simp⟩⟩
theorem Un.refl:Un fs ex H H h h:=Un.kept fun _ _ q=>q
theorem Un.laid(k:∀b u,h.get? b=some u->h'.get? b=some u)(hp:h.objs.size<=a)(hn:H a=none):Un fs ex H (upd H a o) h h' where
 keep:=fun b u q _ _ _=>k b u q
 slot:=fun b u q _ _ _=>⟨u.slots,k b u q⟩
 free:=fun b u q n _=>by rw[vQ (bV (aN (aE q) hp))];exact n
 there:=fun b u q _=>⟨u,k b u q⟩
 tups:=fun b xs q=>by rw[vQ (v9 q hn)];exact q
 frzs:=fun b u xs q=>by rw[vQ (v9 q hn)];exact q
 tbls:=fun b ps q=>⟨#[],by rw[vQ (v9 q hn),q];simp⟩
theorem Un.write(mu:Mut (H x))(he:e=x\/H e=some (.own x))(k:∀b u,b≠e->h.get? b=some u->h'.get? b=some u)(heo:∃u,h'.get? e=some u):Un fs ex H (upd H x o) h h' :=by
 have hx:∀b,H b=none->b≠x:=fun b n z=>by subst z;rw[n]at mu;exact mu
 have hb:∀b,H b=none->b≠e:=fun b n z=>by
  subst z;rcases he with r|r
  ·exact hx b n r
  ·rw[n]at r;cases r
 have hm:∀b u,H b=some u->¬Mut (some u)->b≠x:=fun b u q nm z=>by subst z;rw[q]at mu;exact nm mu
 refine⟨fun b u q n _ _=>k b u (hb b n) q,fun b u q n _ _=>⟨u.slots,k b u (hb b n) q⟩,fun b u q n _=>by rw[vQ (hx b n)];exact n,fun b u q _=>?_,
  fun b xs q=>by rw[vQ (hm b _ q fun z=>z)];exact q,fun b u xs q=>by rw[vQ (hm b _ q fun z=>z)];exact q,fun b ps q=>⟨#[],by rw[vQ (hm b _ q fun z=>z),q];simp⟩⟩
 by_cases hbe:b=e
 ·subst hbe;exact heo
 ·exact⟨u,k b u hbe q⟩
end
noncomputable def trk(h:Heap)(H:Hp):List aZ:=(List.range h.objs.size).filter fun a=>(H a).isSome
noncomputable def hidT(h:Heap)(H:Hp):Heap:=PySem.W.hideAll h (trk h H)
theorem vYt(h:Heap)(H:Hp):(hidT h H).objs.size=h.objs.size:=PySem.W.hideAll_size _ _
theorem zZj{h:Heap}{b:aZ}{o:Obj}(e:h.get? b=some o)(n:H b=none):(hidT h H).get? b=some o:=
 PySem.W.hideAll_get _ e fun hm=>by
  have q:(H b).isSome =true:=(List.mem_filter.mp hm).2;grind
theorem zWk{h:Heap}{b:aZ}{o:Obj}(e:(hidT h H).get? b=some o):h.get? b=some o/\H b=none:=by
 have e' :h.get? b=some o:=PySem.W.of_hideAll (trk h H) e;refine⟨e',?_⟩;cases q:H b with
 |none=>rfl
 | some x=>
   have hm:b∈trk h H:=List.mem_filter.mpr ⟨List.mem_range.mpr (aE e'),by simp[q]⟩;have z:(hidT h H).get? b=none:=PySem.W.hideAll_none (trk h H) hm;grind
structure Mod(K:aQ)(mg:Str->Option Value)(base:Heap):Prop where
 kin:K.In base
 glob:base.Ns cZ mg
 blt:∃mb,base.Ns builtinsNs mb/\∀x:Str,x≠"__name__"->mb x=cC x
 nolimit:base.NoLimit
structure Cx where
 prog:aT
 w:bY
 K:aQ
 mg:Str->Option Value
 base:Heap
 A:bR
 N:List Str
 s₀:aJ
 H₀:Hp
 env:Env
 outer:List Env
 stack:List Env
 ex:List aZ
 fn:Str->Bool
 calm:Bool
 pn:List (aZ×Obj)
 xe:Value->aJ->Prop
noncomputable def frs(l:List Env):List aZ:=l.filterMap (·.frame)
noncomputable abbrev Cx.fs(X:Cx):List aZ:=frs X.outer
noncomputable def Vis(sc:Scope)(x:Str):Prop:=sc.names.lookup x=some .local \/sc.names.lookup x=some .cell \/sc.names.lookup x=some .free
noncomputable def Loc(sc:Scope)(x:Str):Prop:=sc.names.lookup x=some .local \/sc.names.lookup x=some .cell
noncomputable def Look(env:Env)(h:Heap)(m:Str->Option Value)(x:Str)(u:Value):Prop:=
 (env.kindOf x=some .local /\m x=some u)\/((env.kindOf x=some .cell \/env.kindOf x=some .free)/\∃c,env.cells.lookup x=some c/\h.IsCell c (some u))
structure Cx.Ok(X:Cx):Prop where
 mod:Mod X.K X.mg X.base
 kind:X.env.scope.kind=.function
 glob:X.env.globals=cZ
 blt:X.env.builtins=builtinsNs
 above:X.s₀.heap.objs.size<=X.env.locals
 inj:∀x y c,X.env.cells.lookup x=some c->X.env.cells.lookup y=some c->x=y
 has:∀x,(X.env.kindOf x=some .cell \/X.env.kindOf x=some .free)->∃c,X.env.cells.lookup x=some c
 cab:∀x c,X.fn x=true->X.env.cells.lookup x=some c->X.s₀.heap.objs.size<=c
 hd:X.calm=true->X.A.handled=none
 frames:X.A.frames=some X.stack
 stk:X.stack=X.outer\/(X.stack=X.env::X.outer/\X.env.frame=some X.env.locals)
 exf:∀b∈X.ex,b≠X.env.locals/\∀x c,X.env.cells.lookup x=some c->c≠b
 bs:∀b o,X.base.get? b=some o->X.s₀.heap.get? b=some o/\X.H₀ b=none
 bsz:X.base.objs.size<=X.s₀.heap.objs.size
 noex:∀b o,X.base.get? b=some o->b∉X.ex
 exfs:∀b∈X.ex,b∉X.fs
 funs:X.s₀.heap.FunFrames X.base X.outer
 frf:∀b∈X.fs,X.H₀ b=none
structure Inv(X:Cx)(pins:List (aZ×Obj))(σ:List (Option V))(H:Hp)(s:aJ):Prop where
 ok:X.Ok
 os:s.os=X.s₀.os
 bare:AllBare s.gens
 base:Un X.fs X.ex X.H₀ H X.s₀.heap s.heap
 loc:∃m,s.heap.Ns X.env.locals m/\∀(i:Nat) (x:Str) (v:V),X.N[i]?=some x->σ[i]?=some (some v)->Vis X.env.scope x->∃u,RelV v u/\Look X.env s.heap m x u
 cell:∀x c,X.env.cells.lookup x=some c->∃v,s.heap.IsCell c v
 free:H X.env.locals=none
 freeC:∀x c,X.env.cells.lookup x=some c->H c=none
 pin:∀p∈X.pn ++ pins,s.heap.get? p.1=some p.2/\H p.1=none/\p.1≠X.env.locals/\p.1∉X.fs/\∀v,p.2.data≠ .cell v
 hok:HOk X.prog X.w H s.heap
 len:σ.length=X.N.length
section
variable{X:Cx}{pins:List (aZ×Obj)}{σ:List (Option V)}{H H' :Hp}{s:aJ}{h' :Heap}
theorem Cx.Ok.nofr(ok:X.Ok){b:aZ}{o:Obj}(e:X.base.get? b=some o):b∉X.fs:=fun hb=>by
 have:=(ok.funs.mem hb).1;grind
theorem Inv.bs(I:Inv X pins σ H s):∀b o,X.base.get? b=some o->s.heap.get? b=some o/\H b=none:=fun b o e=>
 ⟨I.base.keep b o (I.ok.bs b o e).1 (I.ok.bs b o e).2 (I.ok.nofr e) (I.ok.noex b o e),I.base.free b o (I.ok.bs b o e).1 (I.ok.bs b o e).2 (I.ok.noex b o e)⟩
theorem Inv.bk(I:Inv X pins σ H s):∀b o,X.base.get? b=some o->s.heap.get? b=some o:=fun b o e=>(I.bs b o e).1
theorem Inv.mod(I:Inv X pins σ H s):Mod X.K X.mg X.base:=I.ok.mod
theorem Inv.kIn(I:Inv X pins σ H s):X.K.In s.heap:=I.ok.mod.kin.keeps I.bk
theorem Inv.lt(I:Inv X pins σ H s):X.env.locals<s.heap.objs.size:=let ⟨_,hn,_⟩:=I.loc;hn.lt
theorem Inv.sz(I:Inv X pins σ H s):X.s₀.heap.objs.size<=s.heap.objs.size:=aM I.ok.above (dB I.lt)
theorem Inv.nofs(I:Inv X pins σ H s){a:aZ}(h:s.heap.objs.size<=a):a∉X.fs:=fun hb=>by
 obtain⟨_,o,ho,_⟩:=I.ok.funs.mem hb;exact absurd (aN (aE ho) (aM I.sz h)) (bM _)
theorem Inv.cne(I:Inv X pins σ H s):∀x c,X.env.cells.lookup x=some c->c≠X.env.locals:=fun x c e z=>by
 obtain⟨v,o,ho,hd⟩:=I.cell x c e;obtain⟨m,⟨o',es,ep,ho',hd',_⟩,_⟩:=I.loc;grind
theorem Inv.funs(I:Inv X pins σ H s):s.heap.FunFrames X.base X.outer:=by
 have all:∀(l:List Env),(∀b∈frs l,b∈X.fs)->X.s₀.heap.FunFrames X.base l->s.heap.FunFrames X.base l:=by
  intro l;induction l with
  |nil=>intro _ _;trivial
  | cons env r ih=>
    intro hs hl;obtain⟨hk,⟨L,o,hf,hn,ho,hd⟩,hr⟩:=hl;have hL:L∈X.fs:=hs L (by unfold frs;rw[dF,hf];exact bT);obtain⟨sl,e⟩:=I.base.slot L o ho (I.ok.frf L hL) hL fun z=>I.ok.exfs L z hL
    exact⟨hk,⟨L,_,hf,hn,e,hd⟩,ih (fun b hb=>hs b (by unfold frs;rw[dF,hf];exact aO _ hb)) hr⟩
 exact all X.outer (fun _ hb=>hb) I.ok.funs
theorem Inv.stack(I:Inv X pins σ H s):s.heap.FunFrames X.base X.stack:=by
 rcases I.ok.stk with e|⟨e,hf⟩
 ·rw[e];exact I.funs
 ·rw [e];obtain⟨m,hn,_⟩:=I.loc;refine .cons (by rw[I.ok.kind];decide) hf hn ?_ I.funs;exact Heap.get?_none_of_le (aM I.ok.bsz I.ok.above)
theorem Inv.stkSub(I:Inv X pins σ H s):∀b∈frs X.stack,b∈X.env.locals::X.fs:=fun b hb=>by
 rcases I.ok.stk with e|⟨e,hf⟩
 ·grind
 ·rw [e] at hb;unfold frs at hb;rw[dF,hf]at hb;exact hb
theorem Inv.stkFree(I:Inv X pins σ H s):∀b∈frs X.stack,H b=none:=fun b hb=>by
 rcases aG.mp (I.stkSub b hb) with e|hb
 ·rw[e];exact I.free
 ·obtain⟨_,o,ho,_⟩:=I.ok.funs.mem hb;exact I.base.free b o ho (I.ok.frf b hb) fun z=>I.ok.exfs b z hb
theorem Inv.step(I:Inv X pins σ H s)(hch:∀b∈ch,(b∈X.ex\/X.s₀.heap.objs.size<=b)/\b≠X.env.locals/\(∀x c,X.env.cells.lookup x=some c->c≠b)/\∀p∈X.pn ++ pins,p.1≠b)(keep:∀b o,b≠X.env.locals->b∉X.fs->b∉ch->s.heap.get? b=some o->H b=none->h'.get? b=some o)(slot:∀b o,b≠X.env.locals->b∈X.fs->b∉ch->s.heap.get? b=some o->H b=none->∃sl,h'.get? b=some {o with slots:=sl})(free:∀b o,b∉ch->s.heap.get? b=some o->H b=none->H' b=none)(there:∀b o,b∉ch->s.heap.get? b=some o->∃o',h'.get? b=some o')(tups:∀b xs,H b=some (.tup xs)->H' b=some (.tup xs))(frzs:∀b o u,H b=some (.frz o u)->H' b=some (.frz o u))(tbls:∀b ps,H b=some (.tbl ps)->∃more,H' b=some (.tbl (ps ++ more)))(ns:∀m,s.heap.Ns X.env.locals m->h'.Ns X.env.locals m)(hok:HOk X.prog X.w H' h')(hg:AllBare g'):
  Inv X pins σ H' {s with heap:=h',gens:=g',drawn:=d',toks:=t' }:=by
 have neL:∀b o,X.s₀.heap.get? b=some o->b≠X.env.locals:=fun b o e=>bV (aN (aE e) I.ok.above)
 have neC:∀b o,X.s₀.heap.get? b=some o->b∉X.ex->b∉ch:=fun b o e hx hb=>by
  rcases(hch b hb).1 with z|z
  ·exact hx z
  ·exact absurd (aN (aE e) z) (bM _)
 have cellK:∀x c,X.env.cells.lookup x=some c->∀v,s.heap.IsCell c v->h'.IsCell c v:=fun x c e v ⟨o,ho,hd⟩=>by
  have nch:c∉ch:=fun z=>(hch c z).2.2.1 x c e rfl
  by_cases hc:c∈X.fs
  ·obtain⟨sl,q⟩:=slot c o (I.cne x c e) hc nch ho (I.freeC x c e);exact⟨_,q,hd⟩
  ·exact⟨o,keep c o (I.cne x c e) hc nch ho (I.freeC x c e),hd⟩
 refine⟨I.ok,I.os,hg,⟨fun b o e n hb hx=>?_,fun b o e n hb hx=>?_,fun b o e n hx=>?_,fun b o e hx=>?_,fun b xs e=>tups b xs (I.base.tups b xs e),fun b o xs e=>frzs b o xs (I.base.frzs b o xs e),fun b ps e=>?_⟩,?_,fun x c e=>?_,?_,fun x c e=>?_,fun p hp=>?_,hok,I.len⟩
 ·exact keep b o (neL b o e) hb (neC b o e hx) (I.base.keep b o e n hb hx) (I.base.free b o e n hx)
 ·obtain⟨sl,e1⟩:=I.base.slot b o e n hb hx;obtain⟨sl',e2⟩:=slot b _ (neL b o e) hb (neC b o e hx) e1 (I.base.free b o e n hx);exact⟨sl',e2⟩
 ·obtain⟨o',e1⟩:=I.base.there b o e hx;exact free b o' (neC b o e hx) e1 (I.base.free b o e n hx)
 ·obtain⟨o',e1⟩:=I.base.there b o e hx;exact there b o' (neC b o e hx) e1
 ·obtain⟨m1,e1⟩:=I.base.tbls b ps e;obtain⟨m2,e2⟩:=tbls b _ e1;exact⟨m1 ++ m2,by rw[e2,Array.append_assoc]⟩
 ·obtain⟨m,hn,hl⟩:=I.loc;refine⟨m,ns m hn,fun i x v e1 e2 e3=>?_⟩;obtain⟨u,r,l⟩:=hl i x v e1 e2 e3;refine⟨u,r,?_⟩;rcases l with l|⟨k,c,e,z⟩
  ·exact .inl l
  ·exact .inr ⟨k,c,e,cellK x c e _ z⟩
 ·obtain⟨v,z⟩:=I.cell x c e;exact⟨v,cellK x c e v z⟩
 ·obtain⟨m,⟨o,_,_,ho,_⟩,_⟩:=I.loc;exact free _ o (fun z=>(hch _ z).2.1 rfl) ho I.free
 ·obtain⟨v,o,ho,hd⟩:=I.cell x c e;exact free c o (fun z=>(hch c z).2.2.1 x c e rfl) ho (I.freeC x c e)
 ·obtain⟨e,n,ne,nf,d⟩:=I.pin p hp;have nch:p.1∉ch:=fun z=>(hch p.1 z).2.2.2 p hp rfl
  exact⟨keep p.1 p.2 ne nf nch e n,free p.1 p.2 nch e n,ne,nf,d⟩
theorem Inv.un(I:Inv X pins σ H s)(u:Un X.fs [] H H' s.heap h')(hok:HOk X.prog X.w H' h'):Inv X pins σ H' {s with heap:=h',toks:=t' }:=by
 obtain⟨m,⟨o,es,ep,ho,r⟩,_⟩:=id I.loc;obtain⟨sl,hL⟩:=u.any ho I.free (by simp);exact I.step (g' :=s.gens) (d' :=s.drawn) (ch:=[]) (fun _ z=>nomatch z) (fun b o _ hb _ e n=>u.keep b o e n hb (by simp)) (fun b o _ hb _ e n=>u.slot b o e n hb (by simp)) (fun b o _ e n=>u.free b o e n (by simp)) (fun b o _ e=>u.there b o e (by simp)) u.tups u.frzs u.tbls (fun m' hm=>by
  obtain⟨o',es',ep',ho',r'⟩:=hm;rw[ho]at ho';cases ho';exact⟨_,es',ep',hL,r'⟩) hok I.bare
theorem Inv.call(I:Inv X pins σ H s)(u:Un (frs X.stack) ch H H' s.heap h')(hok:HOk X.prog X.w H' h')(hg:AllBare g')(hch:∀b∈ch,(b∈X.ex\/X.s₀.heap.objs.size<=b)/\b≠X.env.locals/\(∀x c,X.env.cells.lookup x=some c->c≠b)/\∀p∈X.pn ++ pins,p.1≠b):
  Inv X pins σ H' {s with heap:=h',gens:=g',drawn:=d',toks:=t' }:=by
 obtain⟨m,⟨o,es,ep,ho,r⟩,_⟩:=id I.loc;obtain⟨sl,hL⟩:=u.any ho I.free fun z=>(hch _ z).2.1 rfl
 exact I.step (ch:=ch) hch (fun b o hL hb hc e n=>u.keep b o e n (fun z=>(aG.mp (I.stkSub b z)).elim hL hb) hc) (fun b o _ _ hc e n=>u.any e n hc) (fun b o hc e n=>u.free b o e n hc) (fun b o hc e=>u.there b o e hc) u.tups u.frzs u.tbls (fun m' hm=>by
  obtain⟨o',es',ep',ho',r'⟩:=hm;rw[ho]at ho';cases ho';exact⟨_,es',ep',hL,r'⟩) hok hg
theorem Inv.turned(I:Inv X pins σ H s)(k:∀b o,b≠it->s.heap.get? b=some o->h'.get? b=some o)(hn:H it=none)(hL:it≠X.env.locals)(h1:it∈X.ex\/X.s₀.heap.objs.size<=it)(h2:∀x c,X.env.cells.lookup x=some c->c≠it)(h3:∀p∈X.pn ++ pins,p.1≠it):Inv X pins σ H {s with heap:=h',toks:=t' }:=by
 have nit:∀b u,H b=some u->b≠it:=fun b u e z=>by rw[z,hn]at e;cases e
 refine I.step (g' :=s.gens) (d' :=s.drawn) (ch:=[it]) (fun b hb=>?_) (fun b o _ _ hc e _=>k b o (fun z=>hc (by simp[z])) e) (fun b o _ _ hc e _=>⟨o.slots,k b o (fun z=>hc (by simp[z])) e⟩) (fun _ _ _ _ n=>n)
  (fun b o hc e=>⟨o,k b o (fun z=>hc (by simp[z])) e⟩) (fun _ _ e=>e) (fun _ _ _ e=>e) (fun b ps e=>⟨#[],by rw[e];simp⟩) (fun m hm=>?_) (fun b u e=>?_) I.bare
 ·have e:b=it:=by simpa using hb
  subst e;exact⟨h1,hL,h2,h3⟩
 ·obtain⟨o,es,ep,ho,r⟩:=hm;exact⟨o,es,ep,k _ o (Ne.symm hL) ho,r⟩
 ·refine(I.hok b u e).stay (fun c v hc q=>k c v ?_ q) (fun _ q=>q) fun _ _ q=>q
  rcases hc with z|z
  ·rw[z];exact nit b u e
  ·exact nit c _ z
theorem Inv.tok(I:Inv X pins σ H s)(t:Nat):Inv X pins σ H {s with toks:=t}:=I.un (h' :=s.heap) (t' :=t) Un.refl I.hok
theorem Inv.kept(I:Inv X pins σ H s)(k:∀b u,s.heap.get? b=some u->h'.get? b=some u):Inv X pins σ H {s with heap:=h',toks:=t' }:=I.un (Un.kept k) (I.hok.kept k)
theorem Inv.laid{a:aZ}{o:HO}(I:Inv X pins σ H s)(k:∀b u,s.heap.get? b=some u->h'.get? b=some u)(hp:s.heap.objs.size<=a)(new:vS X.prog X.w (upd H a o) h' a o):
  Inv X pins σ (upd H a o) {s with heap:=h',toks:=t' }:=I.un (Un.laid k hp (I.hok.fresh hp)) (I.hok.laid k hp new)
theorem Inv.write{x e:aZ}{o:HO}(I:Inv X pins σ H s)(mu:Mut (H x))(he:e=x\/H e=some (.own x))(k:∀b u,b≠e->s.heap.get? b=some u->h'.get? b=some u)(heo:∃u,h'.get? e=some u)(new:vS X.prog X.w (upd H x o) h' x o):Inv X pins σ (upd H x o) {s with heap:=h',toks:=t' }:=I.un (Un.write mu he k heo) (I.hok.write mu he k heo new)
theorem Inv.pins_of{pins' :List (aZ×Obj)}(I:Inv X pins σ H s)(h:∀p∈pins',s.heap.get? p.1=some p.2/\H p.1=none/\p.1≠X.env.locals/\p.1∉X.fs/\∀v,p.2.data≠ .cell v):Inv X pins' σ H s:=
 ⟨I.ok,I.os,I.bare,I.base,I.loc,I.cell,I.free,I.freeC,fun p hp=>(cL.mp hp).elim (fun z=>I.pin p (List.mem_append_left _ z)) (h p),I.hok,I.len⟩
theorem vV9(hN:N.Nodup){x:Str}(a:N[i]?=some x)(b:N[j]?=some x):i=j:=by
 obtain⟨h1,e1⟩:=aL.mp a;obtain⟨h2,e2⟩:=aL.mp b;exact(List.getElem_inj hN).mp (e1.trans e2.symm)
theorem vX1{E:Value->aJ->Prop}{x:Str}{v:V}{u:Value}{Q:Unit->aJ->Prop}(I:Inv X pins σ H s)(hN:X.N.Nodup)(hi:X.N[i]?=some x)(hx:Loc X.env.scope x)(r:RelV v u)(h:∀s',Inv X pins (σ.set i (some v)) H s' ->(∃a,dL a s.heap s'.heap/\(a=X.env.locals\/X.env.cells.lookup x=some a))->Q () s')(hf:X.fn x=true\/X.env.scope.names.lookup x=some .local :=by first|exact .inl rfl|exact .inr rfl|assumption):aI M A (storeName X.env x u) Q E s:=by
 obtain⟨m,hn,hl⟩:=id I.loc;have hcls:(X.env.scope.kind ==.class || (X.env.scope.kind ==.module && X.env.locals != X.env.globals))=false:=by rw[I.ok.kind];rfl
 have hiσ:i < σ.length:=by rw[I.len];exact(aL.mp hi).1
 have cne:=I.cne;have tracked:∀{a:aZ} {h' :Heap},(∃o,s.heap.get? a=some o/\H a=none)->dL a s.heap h' ->HOk X.prog X.w H h' :=fun {a h'} ha hs b ob e=>by
  obtain⟨_,_,hfree⟩:=ha;refine(I.hok b ob e).stay (fun c w' hc q=>(hs.2 c ?_).trans q) (fun _ q=>q) fun _ _ q=>q
  rintro rfl;rcases hc with rfl|hc
  ·rw[hfree]at e;cases e
  ·rw[hfree]at hc;cases hc
 rcases hx with hk|hk
 ·refine wpAny_storeName_local hk hn (fun h' hn' hs=>?_) hcls;obtain⟨oL,_,_,hoL,_⟩:=id hn;refine h _ ⟨I.ok,I.os,I.bare,⟨fun b o e n hb hx=>?_,fun b o e n hb hx=>?_,I.base.free,fun b o e hx=>?_,I.base.tups,I.base.frzs,I.base.tbls⟩,⟨_,hn',fun j y v' e1 e2 e3=>?_⟩,fun y c e=>?_,I.free,I.freeC,fun p hp=>?_,tracked ⟨oL,hoL,I.free⟩ hs,by simpa using I.len⟩ ⟨_,hs,.inl rfl⟩
  ·exact(hs.2 b (bV (aN (aE e) I.ok.above))).trans (I.base.keep b o e n hb hx)
  ·obtain⟨sl,e1⟩:=I.base.slot b o e n hb hx;exact⟨sl,(hs.2 b (bV (aN (aE e) I.ok.above))).trans e1⟩
  ·obtain⟨o',e1⟩:=I.base.there b o e hx;exact⟨o',(hs.2 b (bV (aN (aE e) I.ok.above))).trans e1⟩
  ·by_cases hj:j=i
   ·subst hj;rw[hi]at e1;cases e1;rw[cM hiσ]at e2;cases e2;exact⟨u,r,.inl ⟨hk,by simp⟩⟩
   ·rw [bK (Ne.symm hj)] at e2;obtain⟨u',r',q⟩:=hl j y v' e1 e2 e3;refine⟨u',r',?_⟩;rcases q with⟨k,e⟩|⟨k,c,e,z⟩
    ·refine .inl ⟨k,?_⟩;have:y≠x:=fun e=>hj (vV9 hN e1 (e▸hi))
     simp[this,e]
    ·exact .inr ⟨k,c,e,z.sameBut hs (cne y c e)⟩
  ·obtain⟨w',z⟩:=I.cell y c e;exact⟨w',z.sameBut hs (cne y c e)⟩
  ·obtain⟨e,n,ne,nf,d⟩:=I.pin p hp;exact⟨(hs.2 p.1 ne).trans e,n,ne,nf,d⟩
 ·have hfn:X.fn x=true:=by
   rcases hf with z|z
   ·exact z
   ·rw[z]at hk;cases hk
  obtain⟨c,hc⟩:=I.ok.has x (.inl hk);obtain⟨w',z⟩:=I.cell x c hc;refine wpAny_storeName_cell I.ok.kind hk hc z (fun h' hc' hs=>?_);obtain⟨oc,hoc,hocd⟩:=id z;refine h {s with heap:=h' } ⟨I.ok,I.os,I.bare,⟨fun b o e n hb hx=>?_,fun b o e n hb hx=>?_,I.base.free,fun b o e hx=>?_,I.base.tups,I.base.frzs,I.base.tbls⟩,⟨m,hn.sameBut hs (Ne.symm (cne x c hc)),fun j y v' e1 e2 e3=>?_⟩,fun y c' e=>?_,I.free,I.freeC,fun p hp=>?_,tracked ⟨oc,hoc,I.freeC x c hc⟩ hs,by simpa using I.len⟩ ⟨c,hs,.inr hc⟩
  ·exact(hs.2 b (bV (aN (aE e) (I.ok.cab x c hfn hc)))).trans (I.base.keep b o e n hb hx)
  ·obtain⟨sl,e1⟩:=I.base.slot b o e n hb hx;exact⟨sl,(hs.2 b (bV (aN (aE e) (I.ok.cab x c hfn hc)))).trans e1⟩
  ·obtain⟨o',e1⟩:=I.base.there b o e hx;exact⟨o',(hs.2 b (bV (aN (aE e) (I.ok.cab x c hfn hc)))).trans e1⟩
  ·by_cases hj:j=i
   ·subst hj;rw[hi]at e1;cases e1;rw[cM hiσ]at e2;cases e2;exact⟨u,r,.inr ⟨.inl hk,c,hc,hc'⟩⟩
   ·rw [bK (Ne.symm hj)] at e2;obtain⟨u',r',q⟩:=hl j y v' e1 e2 e3;refine⟨u',r',?_⟩;rcases q with q|⟨k,c',e,z'⟩
    ·exact .inl q
    ·refine .inr ⟨k,c',e,z'.sameBut hs ?_⟩;rintro rfl;exact hj (vV9 hN e1 (I.ok.inj _ _ _ e hc▸hi))
  ·by_cases hcc:c' =c
   ·subst hcc;exact⟨_,hc'⟩
   ·obtain⟨w2,z2⟩:=I.cell y c' e;exact⟨w2,z2.sameBut hs hcc⟩
  ·obtain⟨e,n,ne,nf,d⟩:=I.pin p hp;refine⟨(hs.2 p.1 ?_).trans e,n,ne,nf,d⟩;intro q;rw[q,hoc]at e;have q' :oc=p.2:=Option.some.inj e;exact d w' (by rw[←q'];exact hocd)
theorem qX4{E:Value->aJ->Prop}{x:Str}{v:V}{u:Value}{Q:Unit->aJ->Prop}(I:Inv X pins σ H s)(hN:X.N.Nodup)(hi:X.N[i]?=some x)(hx:Loc X.env.scope x)(r:RelV v u)(h:∀s',Inv X pins (σ.set i (some v)) H s' ->Q () s')(hf:X.fn x=true\/X.env.scope.names.lookup x=some .local :=by first|exact .inl rfl|exact .inr rfl|assumption):aI M A (storeName X.env x u) Q E s:=
 vX1 I hN hi hx r (fun s' I' _=>h s' I') hf
theorem Inv.call'{s' :aJ}(I:Inv X pins σ H s)(ho:s'.os=s.os)(u:Un (frs X.stack) ch H H' s.heap s'.heap)(hok:HOk X.prog X.w H' s'.heap)(hg:AllBare s'.gens)(hch:∀b∈ch,(b∈X.ex\/X.s₀.heap.objs.size<=b)/\b≠X.env.locals/\(∀x c,X.env.cells.lookup x=some c->c≠b)/\∀p∈X.pn ++ pins,p.1≠b):Inv X pins σ H' s' :=by
 obtain⟨h',g',d',t',o'⟩:=s';have e:o' =s.os:=ho;subst e;exact I.call (g' :=g') (t' :=t') (d' :=d') u hok hg hch
end
noncomputable abbrev XK:=Value->Option aZ->Hp->Prop
noncomputable abbrev St:=List (Option V)
noncomputable abbrev VK:=V->Hp->Prop
noncomputable abbrev TE:=St->Hp->VK->Prop
noncomputable abbrev TT:=St->Hp->(Bool->Hp->Prop)->Prop
noncomputable abbrev TA:=St->Hp->(List V->Hp->Prop)->Prop
structure Ends where
 nx:St->Hp->Prop
 rt:VK
 bk:St->Hp->Prop:=fun _ _=>False
 ct:St->Hp->Prop:=fun _ _=>False
noncomputable abbrev TS:=Ends->St->Hp->Prop
noncomputable def EP(X:Cx)(pins:List (aZ×Obj))(σ:St)(Q:VK)(u:Value)(s' :aJ):Prop:=∃v H',Inv X pins σ H' s' /\RelV v u/\Q v H'
noncomputable def TP(X:Cx)(pins:List (aZ×Obj))(σ:St)(Q:Bool->Hp->Prop)(b:Bool)(s' :aJ):Prop:=∃H',Inv X pins σ H' s' /\Q b H'
noncomputable def AP(X:Cx)(pins:List (aZ×Obj))(σ:St)(Q:List V->Hp->Prop)(us:List Value)(s' :aJ):Prop:=∃vs H',Inv X pins σ H' s' /\Vals vs us/\Q vs H'
noncomputable def SP(X:Cx)(pins:List (aZ×Obj))(D:Ends)(f:Flow)(s' :aJ):Prop:=
 match f with
 |.next =>∃σ' H',Inv X pins σ' H' s' /\D.nx σ' H'
 |.brk =>∃σ' H',Inv X pins σ' H' s' /\D.bk σ' H'
 |.cont =>∃σ' H',Inv X pins σ' H' s' /\D.ct σ' H'
 |.ret u=>∃v σ' H',Inv X pins σ' H' s' /\RelV v u/\D.rt v H'
noncomputable def PE(X:Cx)(e:Expr)(t:TE):Prop:=
 ∀(pins:List (aZ×Obj)) (s:aJ) (σ:St) (H:Hp) (Q:VK),Inv X pins σ H s->t σ H Q->aI (model X.prog X.w) X.A (eval e X.env) (EP X pins σ Q) X.xe s
noncomputable def PT(X:Cx)(e:Expr)(t:TT):Prop:=
 ∀(pins:List (aZ×Obj)) (s:aJ) (σ:St) (H:Hp) (Q:Bool->Hp->Prop),Inv X pins σ H s->t σ H Q->aI (model X.prog X.w) X.A (isTrue e X.env (eval e X.env)) (TP X pins σ Q) X.xe s
noncomputable def PW(X:Cx)(e:Expr)(t:TT):Prop:=
 ∀(whole:Sem Value) (pins:List (aZ×Obj)) (s:aJ) (σ:St) (H:Hp) (Q:Bool->Hp->Prop),Inv X pins σ H s->t σ H Q->aI (model X.prog X.w) X.A (isTrue e X.env whole) (TP X pins σ Q) X.xe s
theorem PW.pt{e:Expr}{t:TT}(h:PW X e t):PT X e t:=h _
noncomputable def PA(X:Cx)(es:List Expr)(t:TA):Prop:=
 ∀(pos:Pos) (pins:List (aZ×Obj)) (s:aJ) (σ:St) (H:Hp) (Q:List V->Hp->Prop),Inv X pins σ H s->t σ H Q->aI (model X.prog X.w) X.A (spliced (cV pos (aY es X.env))) (AP X pins σ Q) X.xe s
noncomputable def PS(X:Cx)(st:Stmt)(t:TS):Prop:=
 ∀(pins:List (aZ×Obj)) (s:aJ) (σ:St) (H:Hp) (D:Ends),Inv X pins σ H s->t D σ H->aI (model X.prog X.w) X.A (exec st X.env) (SP X pins D) X.xe s
noncomputable def PSs(X:Cx)(st:List Stmt)(t:TS):Prop:=
 ∀(pins:List (aZ×Obj)) (s:aJ) (σ:St) (H:Hp) (D:Ends),Inv X pins σ H s->t D σ H->aI (model X.prog X.w) X.A (execs st X.env) (SP X pins D) X.xe s
theorem thn{t:Sem α}{Q Q' :α->aJ->Prop}{E:Value->aJ->Prop}{s:aJ}(h:aI M A t Q E s)(hQ:∀a s,Q a s->Q' a s):aI M A t Q' E s:=eQ h hQ fun _ _ x=>x
section
variable{X:Cx}
noncomputable def tVar(i:Nat):TE:=fun σ H Q=>∃v,σ[i]?=some (some v)/\Q v H
noncomputable def tC(v:V):TE:=fun _ H Q=>Q v H
theorem zYz{x:Str}(hN:X.N[i]?=some x)(hv:Vis X.env.scope x)(hd:(x == ("__debug__":Str))=false:=by decide)(hcd:(x == ("__classdict__":Str))=false:=by decide):PE X (.Name x pos) (tVar i):=by
 intro pins s σ H Q I h;obtain⟨v,e,h⟩:=h;obtain⟨m,hn,hl⟩:=I.loc;obtain⟨u,r,l⟩:=hl i x v hN e hv;have fin:EP X pins σ Q u s:=⟨v,H,I,r,h⟩
 rcases l with⟨hk,hm⟩|⟨hk,c,hc,hcell⟩
 ·exact wpAny_Name (wpAny_loadName_local I.ok.kind hk hn hm fin) hd
 ·rcases hk with hk | hk
  ·exact wpAny_Name (wpAny_loadName_cell I.ok.kind hk hc hcell fin) hd
  ·exact wpAny_Name (wpAny_loadName_free I.ok.kind hk hc hcell fin hcd) hd
theorem zQg{i j pos}:PE X (.Constant (.int i) j pos) (tC (.int i)):=fun _ _ _ H _ I h=>wpAny_Constant_int ⟨.int i,H,I.tok _,⟨_,rfl⟩,h⟩
theorem jQ1{b j pos}:PE X (.Constant (.bool b) j pos) (tC (.bl b)):=fun _ _ _ H _ I h=>Constant_bool ⟨.bl b,H,I,rfl,h⟩
theorem zY2{x j pos}:PE X (.Constant (.str x) j pos) (tC (.str x)):=fun _ _ _ H _ I h=>Calls.Constant_str ⟨.str x,H,I.tok _,⟨_,rfl⟩,h⟩
noncomputable def Gl(X:Cx)(x:Str):Prop:=X.env.kindOf x=some .globalImplicit
theorem qJn{E:Value->aJ->Prop}{s:aJ}{σ:St}{x:Str}{u:Value}(I:Inv X pins σ H s)(hg:Gl X x)(hm:X.mg x=some u)(h:Q u s)(hd:(x == ("__debug__":Str))=false:=by decide):aI (model X.prog X.w) X.A (eval (.Name x pos) X.env) Q E s:=
 Calls.Name_function_global I.ok.kind hg (Calls.loadGlobal_global (by rw[I.ok.glob];exact I.mod.glob.keeps I.bk) hm h) hd
theorem qZ8{E:Value->aJ->Prop}{s:aJ}{σ:St}{x:Str}{u:Value}(I:Inv X pins σ H s)(hg:Gl X x)(hm:X.mg x=none)(hv:cC x=some u)(h:Q u s)(hn:x≠"__name__":=by decide)(hd:(x == ("__debug__":Str))=false:=by decide):aI (model X.prog X.w) X.A (eval (.Name x pos) X.env) Q E s:=by
 obtain⟨mb,h1,h2⟩:=I.mod.blt;exact Calls.Name_function_global I.ok.kind hg (Calls.loadGlobal_builtin (by rw[I.ok.glob];exact I.mod.glob.keeps I.bk) hm (by rw[I.ok.blt];exact h1.keeps I.bk) ((h2 x hn).trans hv) h) hd
theorem vQp{x:Str}{v:V}{u:Value}(hg:Gl X x)(hm:X.mg x=some u)(r:RelV v u)(hd:(x == ("__debug__":Str))=false:=by decide):PE X (.Name x pos) (tC v):=
 fun _ _ _ H _ I h=>qJn I hg hm ⟨v,H,I,r,h⟩ hd
theorem zWa{x:Str}{v:V}{u:Value}(hg:Gl X x)(hm:X.mg x=none)(hv:cC x=some u)(r:RelV v u)(hn:x≠"__name__":=by decide)(hd:(x == ("__debug__":Str))=false:=by decide):PE X (.Name x pos) (tC v):=
 fun _ _ _ H _ I h=>qZ8 I hg hm hv ⟨v,H,I,r,h⟩ hn hd
variable{a b:Expr}{ta tb:TE}{pos:Pos}
noncomputable def tB(t:TE):TT:=fun σ H Q=>t σ H fun x H1=>∃c,x=.bl c/\Q c H1
theorem zYm{e:Expr}{t:TE}(h:PE X e t)(he:∀whole,isTrue e X.env whole=(do let v ←whole;standAt e.pos;holding [v] (truthy v)):=by intro _;rfl):PT X e (tB t):=by
 intro pins s σ H Q I hw;refine isTrue_plain (thn (h pins s σ H _ I hw) fun v s1 ⟨x,H1,I1,r1,q1⟩=>?_) (he _);obtain⟨d,rfl,q⟩:=q1;cases r1;exact wpAny_truthy_bool ⟨H1,I1,q⟩
variable{tA tB' :TT}{rest:List Expr}
noncomputable def tAnd(t u:TT):TT:=fun σ H Q=>t σ H fun c H1=>if c=true then u σ H1 Q else Q false H1
noncomputable def tOr(t u:TT):TT:=fun σ H Q=>t σ H fun c H1=>if c=true then Q true H1 else u σ H1 Q
noncomputable def tNot(t:TT):TT:=fun σ H Q=>t σ H fun c H1=>Q (!c) H1
theorem zJp(ha:PT X a tA):PW X (.BoolOp .And [a] pos) tA:=by
 intro wh pins s σ H Q I h;refine isTrue_and (thn (ha pins s σ H Q I h) fun c s1 e=>?_);cases c with
 |true=>exact isTrue_and_nil e
 |false=>exact e
theorem zYj(ha:PT X a tA):PW X (.BoolOp .Or [a] pos) tA:=by
 intro wh pins s σ H Q I h;refine isTrue_or (thn (ha pins s σ H Q I h) fun c s1 e=>?_);cases c with
 |false=>exact isTrue_or_nil e
 |true=>exact e
theorem zYk(ha:PT X a tA)(hb:PW X (.BoolOp .And (b::rest) pos) tB'):PW X (.BoolOp .And (a::b::rest) pos) (tAnd tA tB'):=by
 intro wh pins s σ H Q I h;refine isTrue_and (thn (ha pins s σ H _ I h) fun c s1 ⟨H1,I1,q1⟩=>?_);cases c with
 |true=>exact hb wh pins s1 σ H1 Q I1 q1
 |false=>exact⟨H1,I1,q1⟩
theorem jQw(ha:PT X a tA)(hb:PW X (.BoolOp .Or (b::rest) pos) tB'):PW X (.BoolOp .Or (a::b::rest) pos) (tOr tA tB'):=by
 intro wh pins s σ H Q I h;refine isTrue_or (thn (ha pins s σ H _ I h) fun c s1 ⟨H1,I1,q1⟩=>?_);cases c with
 |true=>exact⟨H1,I1,q1⟩
 |false=>exact hb wh pins s1 σ H1 Q I1 q1
theorem zYn(ha:PT X a tA):PT X (.UnaryOp .Not a pos) (tNot tA):=by
 intro pins s σ H Q I h;exact isTrue_not (ha pins s σ H (fun c H1=>Q (!c) H1) I h)
noncomputable def jQq(ta tb:TE):TE:=fun σ H Q=>ta σ H fun x H1=>∃c,x=.bl c/\if c=true then tb σ H1 Q else Q (.bl false) H1
noncomputable def jQp(ta:TE):TE:=fun σ H Q=>ta σ H fun x H1=>∃c,x=.bl c/\Q (.bl (!c)) H1
theorem zY3{op}{t:TE}(h:PE X a t):PE X (.BoolOp op [a] pos) t:=fun pins s σ H Q I hw=>BoolOp_one (h pins s σ H Q I hw)
theorem zY8(ha:PE X a ta)(hb:PE X (.BoolOp .And (b::rest) pos) tb):PE X (.BoolOp .And (a::b::rest) pos) (jQq ta tb):=by
 intro pins s σ H Q I h;refine BoolOp_and (thn (ha pins s σ H _ I h) fun v s1 ⟨x,H1,I1,r1,q1⟩=>?_);obtain⟨c,rfl,q1⟩:=q1;cases r1;refine wpAny_truthy_bool ?_
 cases c with
 |true=>exact hb pins s1 σ H1 Q I1 q1
 |false=>exact⟨.bl false,H1,I1,rfl,q1⟩
theorem zY4(ha:PE X a ta):PE X (.UnaryOp .Not a pos) (jQp ta):=by
 intro pins s σ H Q I h;refine UnaryOp_ (thn (ha pins s σ H _ I h) fun v s1 ⟨x,H1,I1,r1,q1⟩=>?_);obtain⟨c,rfl,q1⟩:=q1;cases r1;exact not_of (wpAny_truthy_bool ⟨.bl (!c),H1,I1,rfl,q1⟩)
end
noncomputable def SqL(K:aQ)(H:Hp)(a:aZ)(xs:List V):Prop:=
 Rd H a (.lst xs)\/
  ∃(o:Obj) (its:Array Value) (n:Nat),K.lookup a=some o/\o.cls=.type "list"/\o.dict=none/\o.data=.seq its n/\its.size<=aA/\Vals xs its.toList
noncomputable def SqT(K:aQ)(H:Hp)(a:aZ)(xs:List V):Prop:=
 Rd H a (.tup xs)\/
  ∃(o:Obj) (its:Array Value) (n:Nat),K.lookup a=some o/\o.cls=.type "tuple"/\o.data=.seq its n/\its.size<=aA/\Vals xs its.toList
noncomputable def absV:Value->Option V
 |.none =>some .non
 |.bool b=>some (.bl b)
 |.int i _=>some (.int i)
 |.str x _=>some (.str x)
 |.bytes b _=>some (.byt b)
 |.float b _=>some (.flt b)
 |.ref a=>some (.ref a)
 |.type n=>some (.ty n)
 |_=>none
theorem RelV.abs{x:V}{u:Value}(r:RelV x u):absV u=some x:=by
 cases x with
 |non=>cases r;rfl
 |bl _=>cases r;rfl
 |int _=>obtain⟨t,rfl⟩:=r;rfl
 |str _=>obtain⟨t,rfl⟩:=r;rfl
 |byt _=>obtain⟨t,rfl⟩:=r;rfl
 |flt _=>obtain⟨t,rfl⟩:=r;rfl
 |ref _=>cases r;rfl
 |ty _=>cases r;rfl
theorem RelV.inj{x:V}{u:Value}(r:RelV x u)(q:RelV y u):x=y:=Option.some.inj (r.abs.symm.trans q.abs)
theorem Vals.inj:∀{xs ys:List V} {us:List Value},Vals xs us->Vals ys us->xs=ys
 |_,_,_,.nil,.nil =>rfl
 |_,_,_,.cons r t,.cons r' t' =>by rw[r.inj r',Vals.inj t t']
section
variable{X:Cx}{pins:List (aZ×Obj)}{σ:St}{H:Hp}{s:aJ}{a:aZ}{xs ys:List V}
theorem SqL.of(h:H a=some (.lst xs)):SqL K H a xs:=.inl (.inl h)
theorem SqT.of(h:H a=some (.tup xs)):SqT K H a xs:=.inl (.inl h)
theorem Inv.list(I:Inv X pins σ H s)(h:SqL X.K H a xs):∃its:List Value,Vals xs its/\PlainL s.heap a its.toArray/\xs.length<=aA:=by
 rcases h with h|⟨o,its,n,hk,hc,hd,hs,hz,r⟩
 ·obtain⟨z,its,n,r,e⟩:=h.ok I.hok;exact⟨its,r,⟨_,n,e,rfl,rfl,rfl⟩,z⟩
 ·refine⟨its.toList,r,⟨o,n,I.kIn a o hk,hc,hd,by simpa using hs⟩,?_⟩;have e:=r.length;simp only[dD]at e;omega
theorem Inv.tuple(I:Inv X pins σ H s)(h:SqT X.K H a xs):∃its:List Value,Vals xs its/\IsTup s.heap a its.toArray/\xs.length<=aA:=by
 rcases h with h|⟨o,its,n,hk,hc,hs,hz,r⟩
 ·obtain⟨z,its,r,p⟩:=h.ok I.hok;exact⟨its,r,p,z⟩
 ·refine⟨its.toList,r,⟨o,I.kIn a o hk,hc,n,by simpa using hs⟩,?_⟩;have e:=r.length;simp only[dD]at e;omega
theorem Inv.list_inj(I:Inv X pins σ H s)(h:SqL X.K H a xs)(h' :SqL X.K H a ys):xs=ys:=by
 obtain⟨its,r,⟨o,n,e,_,_,d⟩,_⟩:=I.list h;obtain⟨its',r',⟨o',n',e',_,_,d'⟩,_⟩:=I.list h';rw[e]at e';cases e';rw[d]at d';injection d' with d1 _
 have:its=its' :=by simpa using congrArg Array.toList d1
 subst this;exact r.inj r'
theorem Inv.tuple_inj(I:Inv X pins σ H s)(h:SqT X.K H a xs)(h' :SqT X.K H a ys):xs=ys:=by
 obtain⟨its,r,⟨o,e,_,n,d⟩,_⟩:=I.tuple h;obtain⟨its',r',⟨o',e',_,n',d'⟩,_⟩:=I.tuple h';rw[e]at e';cases e';rw[d]at d';injection d' with d1 _
 have:its=its' :=by simpa using congrArg Array.toList d1
 subst this;exact r.inj r'
end
section
variable{X:Cx}{st:Stmt}{rest:List Stmt}{t u:TS}{e:Expr}{te:TE}{pos:Pos}
noncomputable def tNext:TS:=fun D σ H=>D.nx σ H
noncomputable def tSeq(t u:TS):TS:=fun D σ H=>t {D with nx:=u D} σ H
theorem zJt:PSs X [] tNext:=fun _ _ σ H _ I h=>wpAny_execs_nil ⟨σ,H,I,h⟩
theorem zVh(h1:PS X st t)(h2:PSs X rest u):PSs X (st::rest) (tSeq t u):=by
 intro pins s σ H D I h;refine wpAny_execs_cons (thn (h1 pins s σ H {D with nx:=u D} I h) fun f s1 q=>?_);cases f with
 | next=>
   obtain⟨σ',H',I',q⟩:=q;exact h2 pins s1 σ' H' D I' q
 |ret v=>exact q
 |brk=>exact q
 |cont=>exact q
theorem vWw(h1:PS X st t):PSs X [st] t:=by
 intro pins s σ H D I h;refine wpAny_execs_cons (thn (h1 pins s σ H D I h) fun f s1 q=>?_);cases f with
 |next=>exact wpAny_execs_nil q
 |ret v=>exact q
 |brk=>exact q
 |cont=>exact q
theorem Inv.quiet{σ:St}{s:aJ}(I:Inv X pins σ H s):interactive X.env=false:=by simp[interactive,I.ok.kind]
noncomputable def zXk(te:TE):TS:=fun D σ H=>te σ H fun _ H1=>D.nx σ H1
theorem vWx(he:PE X e te)(hs:swapsWith e none pos.line X.env=pure false:=by rfl):PS X (.Expr e pos) (zXk te):=by
 intro pins s σ H D I h;exact wpAny_Expr_any (thn (he pins s σ H _ I h) fun v s1 ⟨x,H1,I1,r1,q1⟩=>⟨σ,H1,I1,q1⟩) I.quiet hs
noncomputable def tRet(te:TE):TS:=fun D σ H=>te σ H D.rt
theorem zYp(he:PE X e te):PS X (.Return (some e) pos) (tRet te):=by
 intro pins s σ H D I h;exact wpAny_Return_some (thn (he pins s σ H _ I h) fun v s1 ⟨x,H1,I1,r1,q1⟩=>⟨x,σ,H1,I1,r1,q1⟩)
noncomputable def tIfS(c:TT)(t u:TS):TS:=fun D σ H=>c σ H fun b H1=>if b=true then t D σ H1 else u D σ H1
theorem jQx{c:Expr}{a b:List Stmt}{tc:TT}(hc:PT X c tc)(ha:PSs X a t)(hb:PSs X b u):PS X (.If c a b pos) (tIfS tc t u):=by
 intro pins s σ H D I h;refine wpAny_If (thn (hc pins s σ H _ I h) fun d s1 ⟨H1,I1,q1⟩=>?_);cases d with
 |true=>exact ha pins s1 σ H1 D I1 q1
 |false=>exact hb pins s1 σ H1 D I1 q1
end
noncomputable abbrev TG:=V->St->Hp->(St->Hp->Prop)->Prop
noncomputable abbrev TGs:=List V->St->Hp->(St->Hp->Prop)->Prop
noncomputable def PG(X:Cx)(target:Expr)(t:TG):Prop:=
 ∀(pins:List (aZ×Obj)) (s:aJ) (σ:St) (H:Hp) (v:V) (u:Value) (Q:St->Hp->Prop),Inv X pins σ H s->RelV v u->t v σ H Q->
  aI (model X.prog X.w) X.A (assign target X.env u) (fun _ s' =>∃σ' H',Inv X pins σ' H' s' /\Q σ' H') X.xe s
noncomputable def PGs(X:Cx)(ts:List Expr)(t:TGs):Prop:=
 ∀(pins:List (aZ×Obj)) (s:aJ) (σ:St) (H:Hp) (vs:List V) (us:List Value) (Q:St->Hp->Prop),Inv X pins σ H s->Vals vs us->t vs σ H Q->
  aI (model X.prog X.w) X.A (assignInOrder ((assignEach ts X.env).map (·.2)) us) (fun _ s' =>∃σ' H',Inv X pins σ' H' s' /\Q σ' H') X.xe s
noncomputable abbrev TSet:=V->V->V->Hp->(Hp->Prop)->Prop
noncomputable def PSet(X:Cx)(t:TSet):Prop:=
 ∀(pins:List (aZ×Obj)) (s:aJ) (σ:St) (H:Hp) (o i v:V) (ov iv u:Value) (Q:Hp->Prop),Inv X pins σ H s->RelV o ov->RelV i iv->RelV v u->t o i v H Q->
  aI (model X.prog X.w) X.A (setItem ov iv u) (fun _ s' =>∃H',Inv X pins σ H' s' /\Q H') X.xe s
noncomputable abbrev TIp:=V->V->Hp->VK->Prop
noncomputable def PIp(X:Cx)(op:Operator)(t:TIp):Prop:=
 ∀(pins:List (aZ×Obj)) (s:aJ) (σ:St) (H:Hp) (x y:V) (v u:Value) (Q:VK),Inv X pins σ H s->RelV x v->RelV y u->t x y H Q->
  aI (model X.prog X.w) X.A (inplaceOp op v u) (EP X pins σ Q) X.xe s
section
variable{X:Cx}{pos:Pos}
noncomputable def vVr(i:Nat):TG:=fun v σ H Q=>Q (σ.set i (some v)) H
theorem vWy{x:Str}(hN:X.N.Nodup)(hi:X.N[i]?=some x)(hx:Loc X.env.scope x)(hf:X.fn x=true\/X.env.scope.names.lookup x=some .local :=by first|exact .inl rfl|exact .inr rfl|assumption):PG X (.Name x pos) (vVr i):=by
 intro pins s σ H v u Q I r h;exact wpAny_assign_Name (qX4 I hN hi hx r (fun s' I' =>⟨_,H,I',h⟩) hf)
noncomputable def gNil:TGs:=fun vs σ H Q=>vs=[]/\Q σ H
noncomputable def jVo(t:TG)(u:TGs):TGs:=fun vs σ H Q=>∃v r,vs=v::r/\t v σ H fun σ' H' =>u r σ' H' Q
theorem zJ4:PGs X [] gNil:=by
 intro pins s σ H vs us Q I r h;obtain⟨e,h⟩:=h;subst e;exact assignInOrder_nil ⟨σ,H,I,h⟩
theorem zVm{e:Expr}{t:TG}{u:TGs}(h1:PG X e t)(h2:PGs X es u)(hs:(assignEach (e::es) X.env).map (·.2)=assign e X.env::(assignEach es X.env).map (·.2):=by rfl):PGs X (e::es) (jVo t u):=by
 intro pins s σ H vs us Q I r h;obtain⟨v,vr,e1,h⟩:=h;subst e1;cases r with
 | cons r rr=>
   rw[hs];refine assignInOrder_cons (thn (h1 pins s σ H _ _ _ I r h) fun _ s1 ⟨σ1,H1,I1,q1⟩=>?_);exact h2 pins s1 σ1 H1 _ _ Q I1 rr q1
noncomputable def gTup(K:aQ)(n:Nat)(t:TGs):TG:=fun v σ H Q=>∃a xs,v=.ref a/\SqT K H a xs/\xs.length=n/\t xs σ H Q
theorem zYx{k:Nat}{t:TGs}(hc:X.calm=true)(h:PGs X es t)(hn:(assignEach es X.env).length =n:=by rfl)(hst:(assignEach es X.env).findIdx? (·.1)=none:=by rfl):PG X (.Tuple es k pos) (gTup X.K n t):=by
 intro pins s σ H v u Q I r hw;obtain⟨a,xs,e1,hq,hl,hw⟩:=hw;subst e1;cases r;obtain⟨its,rv,ht,hz⟩:=I.tuple hq;refine assign_Tuple_tuple (I.ok.hd hc) ht (by simp[hn,←hl,rv.length]) hst fun h' hx=>?_
 have I1:Inv X pins σ H {s with heap:=h' }:=I.kept (t' :=s.toks) fun b o e=>hx b o (bV (aE e)) e
 exact h pins _ σ H xs _ Q I1 (by simpa using rv) hw
noncomputable def gSub(to ti:TE)(t:TSet):TG:=fun v σ H Q=>to σ H fun o H1=>ti σ H1 fun i H2=>t o i v H2 fun H3=>Q σ H3
theorem zYy{o i:Expr}{to ti:TE}{t:TSet}(ho:PE X o to)(hi:PE X i ti)(hs:PSet X t)(ha:∀v,assign (.Subscript o i pos) X.env v=(do
   let ov ←holding [v] (eval o X.env);let iv ←holding [v,ov] (eval i X.env);standAt pos;holding [v,ov,iv] (setItem ov iv v);release [v,ov,iv] []):=by intro _;rfl):PG X (.Subscript o i pos) (gSub to ti t):=by
 intro pins s σ H v u Q I r h;rw[ha];refine aV (eJ (thn (ho pins s σ H _ I h) fun ov s1 ⟨x,H1,I1,r1,q1⟩=>?_));refine aV (eJ (thn (hi pins s1 σ H1 _ I1 q1) fun iv s2 ⟨y,H2,I2,r2,q2⟩=>?_));refine aV (wpAny_standAt (aV (eJ (thn (hs pins s2 σ H2 x y v ov iv u _ I2 r1 r2 r q2) fun _ s3 ⟨H3,I3,q3⟩=>?_))));exact wpAny_release ⟨σ,H3,I3,q3⟩
noncomputable def tAsg(te:TE)(g:TG):TS:=fun D σ H=>te σ H fun x H1=>g x σ H1 D.nx
theorem zYr{e:Expr}{g:TG}(he:PE X e te)(hg:PG X tg g)(hs:swapsWithSole [tg] e pos.line X.env=pure false:=by rfl)(hw:swappedStores [tg] e X.env=pure none:=by rfl)(h1:(assignEach [tg] X.env).map (·.2)=[assign tg X.env]:=by rfl):PS X (.Assign [tg] e pos) (tAsg te g):=by
 intro pins s σ H D I h;refine wpAny_Assign_stores (thn (he pins s σ H _ I h) fun v s1 ⟨x,H1,I1,r1,q1⟩=>?_) hs hw;rw[h1];exact thn (hg pins s1 σ H1 x v _ I1 r1 q1) fun _ s2 q=>q
theorem zYo{x:Str}{e:Expr}{pos' :Pos}(hN:X.N.Nodup)(hi:X.N[i]?=some x)(hx:Loc X.env.scope x)(he:PE X e te)(hs:swapsWith e (some (.Name x pos')) pos.line X.env=pure false:=by rfl)(hf:X.fn x=true\/X.env.scope.names.lookup x=some .local :=by first|exact .inl rfl|exact .inr rfl|assumption):
  PS X (.Assign [.Name x pos'] e pos) (tAsg te (vVr i)):=by
 intro pins s σ H D I h;refine wpAny_Assign_Name (thn (he pins s σ H _ I h) fun v s1 ⟨y,H1,I1,r1,q1⟩=>?_) hs;exact qX4 I1 hN hi hx r1 (fun s2 I2=>⟨_,H1,I2,q1⟩) hf
noncomputable def ipI(f:Int->Int->Int):TIp:=fun x y H Q=>∃i j,x=.int i/\y=.int j/\Q (.int (f i j)) H
theorem zQo:PIp X .Add (ipI fun i j=>i+j):=by
 intro pins s σ H x y v u Q I r1 r2 h;obtain⟨i,j,e1,e2,q⟩:=h;subst e1;subst e2;obtain⟨t,rfl⟩:=r1;obtain⟨t',rfl⟩:=r2;exact iadd_int ⟨.int _,H,I.tok _,⟨_,rfl⟩,q⟩
end
structure It where
 go:Nat->Hp->Prop
 yld:Nat->Hp->V->Hp->Prop
 stop:Nat->Hp->Prop
noncomputable def FpOk(X:Cx)(pins:List (aZ×Obj))(H:Hp)(b:aZ):Prop:=
 H b=none/\b≠X.env.locals/\b∉X.fs/\(b∈X.ex\/X.s₀.heap.objs.size<=b)/\(∀x c,X.env.cells.lookup x=some c->c≠b)/\∀p∈X.pn ++ pins,p.1≠b
theorem Inv.fpOk{σ:St}{H':Hp}{s:aJ}{b:aZ}(I:Inv X pins σ H s)(hb:s.heap.objs.size<=b)(hn:H' b=none):FpOk X pins H' b:=by
 refine⟨hn,dU (aN I.lt hb),I.nofs hb,.inr (aM I.sz hb),fun x c e z=>?_,fun p hp z=>?_⟩
 ·obtain⟨v,q⟩:=I.cell x c e;exact absurd (aN q.lt (by rw[z];exact hb)) (bM _)
 ·exact absurd (aN (aE (I.pin p hp).1) (by rw[z];exact hb)) (bM _)
structure Turn(P:aT)(w:bY)(K:aQ)(tg:Expr)(J:It)(fp:List aZ)(it:aZ)(tn:Nat->Heap->Prop):Prop where
 mem:it∈fp
 obj:∀i h,tn i h->∀b∈fp,∃o,h.get? b=some o/\∀v,o.data≠ .cell v
 keep:∀i h h',tn i h->(∀b∈fp,∀o,h.get? b=some o->h'.get? b=some o)->tn i h'
 item:∀(X:Cx),X.prog=P->X.w=w->X.K=K->X.calm=true->∀(i:Nat) (pins:List (aZ×Obj)) (s:aJ) (σ:St) (H:Hp) (E:Value->aJ->Prop),Inv X pins σ H s->(∀b∈fp,FpOk X pins H b)->tn i s.heap->J.go i H->
  aI (model P w) X.A (pyNext (.ref it)) (fun r s1=>∃u,r=some u/\
   aI (model P w) X.A (letOwnedTupleGo tg (.ref it) u) (fun _ s2=>∃x H',Inv X pins σ H' s2/\RelV x u/\J.yld i H x H' /\tn (i+1) s2.heap/\∀b∈fp,H' b=none) E s1) E s
 done:∀(X:Cx),X.prog=P->X.w=w->X.K=K->X.calm=true->∀(i:Nat) (pins:List (aZ×Obj)) (s:aJ) (σ:St) (H:Hp) (E:Value->aJ->Prop),Inv X pins σ H s->(∀b∈fp,FpOk X pins H b)->tn i s.heap->J.stop i H->
  aI (model P w) X.A (pyNext (.ref it)) (fun r s1=>r=none/\Inv X pins σ H s1) E s
 self:∀(A:bR) (i:Nat) (s:aJ) (Q:Value->aJ->Prop) (E:Value->aJ->Prop),tn i s.heap->Q (.ref it) s->aI (model P w) A (pyIter (.ref it)) Q E s
noncomputable abbrev TI:=St->Hp->(It->Hp->Prop)->Prop
noncomputable def PIE(X:Cx)(pins:List (aZ×Obj))(σ:St)(tg:Expr)(R:It->Hp->Prop)(itv:Value)(s2:aJ):Prop:=
 ∃(it:aZ) (fp:List aZ) (tn:Nat->Heap->Prop) (J:It) (H' :Hp),itv=.ref it/\Inv X pins σ H' s2/\Turn X.prog X.w X.K tg J fp it tn/\tn 0 s2.heap/\(∀b∈fp,FpOk X pins H' b)/\R J H'
noncomputable def PI(X:Cx)(tg iter:Expr)(wi:TI):Prop:=
 ∀(pins:List (aZ×Obj)) (s:aJ) (σ:St) (H:Hp) (R:It->Hp->Prop),Inv X pins σ H s->wi σ H R->
  aI (model X.prog X.w) X.A (eval iter X.env) (fun v s1=>aI (model X.prog X.w) X.A (pyIter v) (PIE X pins σ tg R) X.xe s1) X.xe s
theorem vWa{E:Value->aJ->Prop}{s:aJ}{u:Value}{o:Obj}{n:String}{vs:Array Value}{Q:Unit->aJ->Prop}(ho:s.heap.get? it=some o)(hc:o.cls=.type n)(hd:o.data=.fields vs)(hn: ["enumerate","zip","dict_itemiterator","dict_reverseitemiterator","odict_iterator","itertools.zip_longest","itertools.pairwise"].contains n=false)(hQ:Q () s):aI M A (letOwnedTupleGo tg (.ref it) u) Q E s:=by
 unfold letOwnedTupleGo
 cases tg <;> first
  |exact aP hQ
  | (cases u <;> first
    |exact aP hQ
    | (refine aV (wpAny_load ho ?_)
       rw[hc,hd];show aI M A (if(["enumerate","zip","dict_itemiterator","dict_reverseitemiterator","odict_iterator","itertools.zip_longest","itertools.pairwise"].contains n && vs[0]? == some (rawInt _))=true then _ else _) Q E s;rw[if_neg (by intro h;rw[hn,Bool.false_and]at h;cases h)];exact aP hQ))
noncomputable def Itl(K:aQ)(a:aZ):It:=
 ⟨fun i H=>∃xs x,SqL K H a xs/\xs[i]?=some x,fun i H x H' =>H' =H/\∀xs,SqL K H a xs->xs[i]?=some x,fun i H=>∃xs,SqL K H a xs/\xs.length<=i⟩
noncomputable def Itt(K:aQ)(a:aZ):It:=
 ⟨fun i H=>∃xs x,SqT K H a xs/\xs[i]?=some x,fun i H x H' =>H' =H/\∀xs,SqT K H a xs->xs[i]?=some x,fun i H=>∃xs,SqT K H a xs/\xs.length<=i⟩
noncomputable def Itr(lo:Int)(n:Nat):It:=⟨fun i _=>i<n,fun i H x H' =>H' =H/\x=.int (lo+i),fun i _=>n<=i⟩
theorem qKn{P:aT}{w:bY}(a it:aZ):Turn P w K tg (Itl K a) [it] it (fun i h=>h.IsListIter it a i) where
 mem:=by simp
 obj:=fun i h st b hb=>by
  have e:b=it:=by simpa using hb
  subst e;obtain⟨o,e,c,d⟩:=st;exact⟨o,e,fun v z=>by rw[d]at z;cases z⟩
 keep:=fun i h h' st k=>st.at fun o e=>k it (by simp) o e
 item:=by
  intro X hP hw hK hc i pins s σ H E I hf st hg;subst hP hw hK;obtain⟨xs,x,hq,hx⟩:=hg;obtain⟨its,rv,p,hz⟩:=I.list hq;obtain⟨u,hu,ru⟩:=rv.get hx;obtain⟨f0,f1,f2,f3,f4,f5⟩:=hf it (by simp);refine wpAny_pyNext_list_item st p.isList (x:=u) (by simpa using hu) fun h' st' sb=>?_
  have I1:Inv X pins σ H {s with heap:=h' }:=I.turned (t' :=s.toks) (fun b o hb e=>(sb.2 b hb).trans e) f0 f1 f3 f4 f5;obtain⟨o,e,c,d⟩:=id st';exact⟨u,rfl,vWa (s:={s with heap:=h' }) e c d (by decide) ⟨x,H,I1,ru,⟨rfl,fun ys hy=>by rw[I.list_inj hy hq];exact hx⟩,st',fun b hb=>(hf b hb).1⟩⟩
 done:=by
  intro X hP hw hK hc i pins s σ H E I hf st hg;subst hP hw hK;obtain⟨xs,hq,hx⟩:=hg;obtain⟨its,rv,p,hz⟩:=I.list hq;obtain⟨f0,f1,f2,f3,f4,f5⟩:=hf it (by simp);have hl:=rv.length;exact wpAny_pyNext_list_end (I.ok.hd hc) st p.isList (by simp;omega) fun h' eb=>⟨rfl,I.turned (t' :=s.toks) (fun b o hb e=>eb b o hb e) f0 f1 f3 f4 f5⟩
 self:=fun _ _ _ _ _ st h=>wpAny_pyIter_listiter st h
theorem vJa{P:aT}{w:bY}(a it:aZ):Turn P w K tg (Itt K a) [it] it (fun i h=>h.IsTupleIter it a i) where
 mem:=by simp
 obj:=fun i h st b hb=>by
  have e:b=it:=by simpa using hb
  subst e;obtain⟨o,e,c,d⟩:=st;grind
 keep:=fun i h h' st k=>st.at fun o e=>k it (by simp) o e
 item:=by
  intro X hP hw hK hc i pins s σ H E I hf st hg;subst hP hw hK;obtain⟨xs,x,hq,hx⟩:=hg;obtain⟨its,rv,p,hz⟩:=I.tuple hq;obtain⟨u,hu,ru⟩:=rv.get hx;obtain⟨f0,f1,f2,f3,f4,f5⟩:=hf it (by simp);refine wpAny_pyNext_tuple_item st (show s.heap.IsTuple a its.toArray from p) (x:=u) (by simpa using hu) fun h' st' sb=>?_
  have I1:Inv X pins σ H {s with heap:=h' }:=I.turned (t' :=s.toks) (fun b o hb e=>(sb.2 b hb).trans e) f0 f1 f3 f4 f5;obtain⟨o,e,c,d⟩:=id st';exact⟨u,rfl,vWa (s:={s with heap:=h' }) e c d (by decide) ⟨x,H,I1,ru,⟨rfl,fun ys hy=>by rw[I.tuple_inj hy hq];exact hx⟩,st',fun b hb=>(hf b hb).1⟩⟩
 done:=by
  intro X hP hw hK hc i pins s σ H E I hf st hg;subst hP hw hK;obtain⟨xs,hq,hx⟩:=hg;obtain⟨its,rv,p,hz⟩:=I.tuple hq;obtain⟨f0,f1,f2,f3,f4,f5⟩:=hf it (by simp);have hl:=rv.length;exact wpAny_pyNext_tuple_end (I.ok.hd hc) st (show s.heap.IsTuple a its.toArray from p) (by simp;omega) fun h' eb=>⟨rfl,I.turned (t' :=s.toks) (fun b o hb e=>eb b o hb e) f0 f1 f3 f4 f5⟩
 self:=fun _ _ _ _ _ st h=>wpAny_pyIter_tupleiter st h
theorem vJb{P:aT}{w:bY}(it:aZ)(lo:Int)(n:Nat):Turn P w K tg (Itr lo n) [it] it (fun i h=>IsRangeIter h it (lo+(i:Nat) * 1) ((n:Int) - (i:Nat)) 1) where
 mem:=by simp
 obj:=fun i h st b hb=>by
  have e:b=it:=by simpa using hb
  subst e;exact⟨_,st,fun v z=>by
   have z' :Data.fields _=Data.cell v:=z;cases z'⟩
 keep:=fun i h h' st k=>k it (by simp) _ st
 item:=by
  intro X hP hw hK hc i pins s σ H E I hf st hg;subst hP hw hK;obtain⟨f0,f1,f2,f3,f4,f5⟩:=hf it (by simp);have W:=Walks.range (prog:=X.prog) (w:=X.w) (I.ok.hd hc) it lo 1 n;refine W.item i s _ _ hg st fun v h' tk hv st' kk=>?_
  obtain⟨t,rfl⟩:=hv;have I1:Inv X pins σ H {s with heap:=h',toks:=tk}:=I.turned (fun b o hb e=>kk b o (by simpa using hb) e) f0 f1 f3 f4 f5;refine⟨_,rfl,vWa (s:={s with heap:=h',toks:=tk}) (n:="range_iterator") st' rfl rfl (by decide) ⟨.int (lo+i),H,I1,⟨t,?_⟩,⟨rfl,rfl⟩,st',fun b hb=>(hf b hb).1⟩⟩;rw[Int.mul_one]
 done:=by
  intro X hP hw hK hc i pins s σ H E I hf st hg;subst hP hw hK;obtain⟨f0,f1,f2,f3,f4,f5⟩:=hf it (by simp);exact wpAny_pyNext_range_end (I.ok.hd hc) st (by have:n<=i:=hg;omega) fun h' eb=>⟨rfl,I.turned (t' :=s.toks) (fun b o hb e=>eb b o hb e) f0 f1 f3 f4 f5⟩
 self:=fun _ _ _ _ _ st h=>wpAny_pyIter_rangeiter st h
section
variable{X:Cx}{tg:Expr}
noncomputable def zX2(K:aQ)(tl:TE):TI:=fun σ H R=>tl σ H fun x H1=>∃a,x=.ref a/\(∃xs,SqL K H1 a xs)/\R (Itl K a) H1
theorem zJ2{l:Expr}{tl:TE}(hl:PE X l tl):PI X tg l (zX2 X.K tl):=by
 intro pins s σ H R I h;refine thn (hl pins s σ H _ I h) fun v s1 ⟨x,H1,I1,r1,q1⟩=>?_
 obtain⟨a,e,⟨xs,hq⟩,q⟩:=q1;subst e;cases r1;obtain⟨its,rv,p,hz⟩:=I1.list hq;refine wpAny_pyIter_list p.isList ?_
 refine⟨s1.heap.objs.size,[s1.heap.objs.size],_,_,H1,rfl,I1.kept (t' :=s1.toks) fun b o e=>aX _ e,qKn a _,⟨_,aC _ rfl,rfl,rfl⟩,fun b hb=>?_,q⟩;have e:b=s1.heap.objs.size:=by simpa using hb
 subst e;exact I1.fpOk (aB _) (I1.hok.fresh (aB _))
theorem zVf{σ:St}{s:aJ}{R:It->Hp->Prop}{E:Value->aJ->Prop}{lo hi:Int}{t u v:Tok}{tk:Nat}(I:Inv X pins σ H s)(h1: -(2 ^ 62)<=lo)(h2:lo<2 ^ 62)(h3: -(2 ^ 62)<=hi)(h4:hi<2 ^ 62)(q:R (Itr lo (hi - lo).toNat) H):aI (model X.prog X.w) X.A (pyIter (.ref s.heap.objs.size)) (PIE X pins σ tg R) E {s with heap:=s.heap.push {cls:=.type "range",data:=.fields #[.int lo t,.int hi u,.int 1 v]},toks:=tk}:=by
 refine wpAny_pyIter_range (IsRange.new ..) (small_one h1 h2 h3 h4) ?_
 have I1:Inv X pins σ H {s with heap:=s.heap.push {cls:=.type "range",data:=.fields #[.int lo t,.int hi u,.int 1 v]},toks:=tk}:=I.kept fun b o e=>aX _ e
 refine⟨(s.heap.push {cls:=.type "range",data:=.fields #[.int lo t,.int hi u,.int 1 v]}).objs.size,[(s.heap.push {cls:=.type "range",data:=.fields #[.int lo t,.int hi u,.int 1 v]}).objs.size],_,_,H,rfl,
  I1.kept (t' :=tk) fun b o e=>aX _ e,vJb _ lo (hi - lo).toNat,?_,fun b hb=>?_,q⟩
 ·have e1:lo + ((0:Nat):Int) * 1=lo:=by simp
  have e2:(((hi - lo).toNat :Nat):Int) - ((0:Nat):Int)=Builtin.Range.rangeSize lo hi 1:=by rw[rangeSize_one];split <;> omega
  show IsRangeIter _ _ (lo+((0:Nat):Int) * 1) ((((hi - lo).toNat :Nat):Int) - ((0:Nat):Int)) 1;rw[e1,e2];exact aC _ rfl
 ·have e:b=(s.heap.push {cls:= .type "range",data:= .fields #[.int lo t, .int hi u, .int 1 v]}).objs.size:=by simpa using hb
  subst e;exact I1.fpOk (aB _) (I1.hok.fresh (aB _))
noncomputable def jVl(ta:TA):TI:=fun σ H R=>ta σ H fun vs H1=>∃j:Int,vs=[.int j]/\ -(2 ^ 62)<=j/\j<2 ^ 62/\R (Itr 0 j.toNat) H1
theorem vYb{a:Expr}{ta:TA}{p:Pos}(hg:Gl X "range")(hm:X.mg "range"=none)(ha:PA X [a] ta)(hs:aY [a] X.env=[(false,eval a X.env)]:=by rfl):PI X tg (.Call (.Name "range" p) [a] [] pos) (jVl ta):=by
 intro pins s σ H R I h;refine Call_ (qZ8 I hg hm boot_range (cH (thn (ha pos pins s σ H _ I h) fun us s1 ⟨vs,H1,I1,r1,q1⟩=>?_) hs rfl));obtain⟨j,e,q1,q2,q⟩:=q1;subst e;cases r1 with
 | cons r rr=>
   cases rr;obtain⟨t,rfl⟩:=r;exact call_range_1 (zVf I1 (by omega) (by omega) q1 q2 (by simpa using q))
noncomputable def tFor(wi:TI)(g:TG)(tb:TS):TS:=fun D σ H=>wi σ H fun J H1=>∃W:Nat->Nat->St->Hp->Prop,(∃m,W 0 m σ H1)/\∀i m σ H,W i m σ H->
 (J.stop i H/\D.nx σ H)\/(J.go i H/\∃N:St->Hp->Prop,(∀σ' H',N σ' H' ->∃m',m'<m/\W (i+1) m' σ' H')/\∀x H',J.yld i H x H' ->g x σ H' fun σ2 H2=>tb {D with nx:=N,ct:=N,bk:=D.nx} σ2 H2)
noncomputable def qXv(fp:List aZ)(h:Heap):List (aZ×Obj):=fp.filterMap fun b=>(h.get? b).map fun o=>(b,o)
theorem qQ0{h:Heap}{b:aZ}{o:Obj}(hb:b∈fp)(e:h.get? b=some o):(b,o)∈qXv fp h:=dM.mpr ⟨b,hb,by rw[e];rfl⟩
theorem vYi{h:Heap}{p:aZ×Obj}(hp:p∈qXv fp h):p.1∈fp/\h.get? p.1=some p.2:=by
 obtain⟨b,hb,e⟩:=dM.mp hp;cases q:h.get? b with
 |none=>rw[q]at e;cases e
 | some o=>
   rw[q]at e;have e' :(b,o)=p:=Option.some.inj e;subst e';exact⟨hb,q⟩
theorem Inv.pinned{σ:St}{s:aJ}(I:Inv X pins σ H s)(hf:∀b∈fp,FpOk X pins H b)(ho:∀b∈fp,∃o,s.heap.get? b=some o/\∀v,o.data≠ .cell v):Inv X (pins ++ qXv fp s.heap) σ H s:=
 I.pins_of fun p hp=>(cL.mp hp).elim (fun z=>I.pin p (bF _ z)) fun z=>by
  obtain⟨hb,e⟩:=vYi z;obtain⟨f0,f1,f2,_⟩:=hf p.1 hb;obtain⟨o,e',d⟩:=ho p.1 hb;rw[e]at e';cases e';exact⟨e,f0,f1,f2,d⟩
theorem Inv.unpinned{pl:List (aZ×Obj)}{σ:St}{s:aJ}(I:Inv X (pins ++ pl) σ H s):Inv X pins σ H s:=I.pins_of fun p hp=>I.pin p (bF _ (List.mem_append_left _ hp))
theorem zQd{iter:Expr}{wi:TI}{g:TG}{tb:TS}(hp:PassesOwn (model X.prog X.w) X.A X.env X.xe)(hc:X.calm=true)(hi:PI X tg iter wi)(hg:PG X tg g)(hb:PSs X body tb)(hs:∀x,foldedSetIterable iter X.env x=pure x:=by intro _;rfl):PS X (.For tg iter body [] pos) (tFor wi g tb):=by
 intro pins s σ H D I h;refine wpAny_For (thn (hi pins s σ H _ I h) fun v s1 h1=>thn h1 fun itv s2 h2=>?_) hs;obtain⟨it,fp,tn,J,H2,e,I2,T,st2,f2,W,⟨m0,w0⟩,turn⟩:=h2;subst e;have stat:∀{H' :Hp},(∀b∈fp,H' b=none)->∀b∈fp,FpOk X pins H' b:=fun hn b hb=>⟨hn b hb,(f2 b hb).2⟩
 refine codeAny_forLoop_any (fun n s' =>∃i σ' H',Inv X pins σ' H' s' /\tn i s'.heap/\(∀b∈fp,H' b=none)/\W i n σ' H') ?_ m0 ⟨0,σ,H2,I2,st2,fun b hb=>(f2 b hb).1,w0⟩;rintro n s3 ⟨i,σ3,H3,I3,st3,fr3,w3⟩;rcases turn i n σ3 H3 w3 with⟨stop,qn⟩|⟨go,N,hN,step⟩
 ·refine wpAny_passesOwn hp (thn (T.done X rfl rfl rfl hc i pins s3 σ3 H3 X.xe I3 (stat fr3) st3 stop) fun r s4 ⟨hr,I4⟩=>?_);subst hr;exact wpAny_execs_nil ⟨σ3,H3,I4,qn⟩
 ·refine wpAny_passesOwn hp (thn (T.item X rfl rfl rfl hc i pins s3 σ3 H3 X.xe I3 (stat fr3) st3 go) fun r s4 ⟨u,hr,h4⟩=>?_);subst hr;refine wpAny_passesOwn hp (thn h4 fun _ s5 ⟨x,H5,I5,r5,y5,st5,fr5⟩=>?_);have I5' :=I5.pinned (stat fr5) (T.obj _ _ st5);refine wpAny_passesOwn hp (thn (hg _ s5 σ3 H5 x u _ I5' r5 (step x H5 y5)) fun _ s6 ⟨σ6,H6,I6,q6⟩=>?_);refine wpAny_passesOwn hp (thn (hb _ s6 σ6 H6 _ I6 q6) fun f s7 q7=>?_);have again:∀{σ7:St} {H7:Hp},Inv X (pins ++ qXv fp s5.heap) σ7 H7 s7->N σ7 H7->∃m,m<n/\∃i σ' H',Inv X pins σ' H' s7/\tn i s7.heap/\(∀b∈fp,H' b=none)/\W i m σ' H' :=fun {σ7 H7} I7 n7=>by
   obtain⟨m',hm,w7⟩:=hN σ7 H7 n7;refine⟨m',hm,i+1,σ7,H7,I7.unpinned,T.keep _ _ _ st5 fun b hb o e=>(I7.pin (b,o) (bF _ (bF _ (qQ0 hb e)))).1,fun b hb=>?_,w7⟩;obtain⟨o,e,d⟩:=T.obj _ _ st5 b hb;exact(I7.pin (b,o) (bF _ (bF _ (qQ0 hb e)))).2.1
  cases f with
  |next=>obtain⟨σ7,H7,I7,n7⟩:=q7;exact again I7 n7
  |cont=>obtain⟨σ7,H7,I7,n7⟩:=q7;exact again I7 n7
  |brk=>obtain⟨σ7,H7,I7,q7⟩:=q7;exact⟨σ7,H7,I7.unpinned,q7⟩
  |ret v=>obtain⟨x7,σ7,H7,I7,r7,q7⟩:=q7;exact⟨x7,σ7,H7,I7.unpinned,r7,q7⟩
end
noncomputable abbrev R2:=V->V->Hp->VK->Prop
noncomputable def OpR(X:Cx)(f:Value->Value->Sem Value)(r:R2):Prop:=
 ∀(pins:List (aZ×Obj)) (s:aJ) (σ:St) (H:Hp) (x y:V) (v u:Value) (Q:VK),Inv X pins σ H s->RelV x v->RelV y u->r x y H Q->
  aI (model X.prog X.w) X.A (f v u) (EP X pins σ Q) X.xe s
noncomputable def UnR(X:Cx)(f:Value->Sem Value)(r:V->Hp->VK->Prop):Prop:=
 ∀(pins:List (aZ×Obj)) (s:aJ) (σ:St) (H:Hp) (x:V) (v:Value) (Q:VK),Inv X pins σ H s->RelV x v->r x H Q->
  aI (model X.prog X.w) X.A (f v) (EP X pins σ Q) X.xe s
noncomputable def zL(X:Cx)(f:Value)(r:List V->Hp->VK->Prop):Prop:=
 ∀(pins:List (aZ×Obj)) (s:aJ) (σ:St) (H:Hp) (xs:List V) (us:List Value) (Q:VK),Inv X pins σ H s->Vals xs us->r xs H Q->
  aI (model X.prog X.w) X.A (call f us) (EP X pins σ Q) X.xe s
noncomputable def tOp(r:R2)(ta tb:TE):TE:=fun σ H Q=>ta σ H fun x H1=>tb σ H1 fun y H2=>r x y H2 Q
noncomputable def tUn(r:V->Hp->VK->Prop)(ta:TE):TE:=fun σ H Q=>ta σ H fun x H1=>r x H1 Q
noncomputable def rI(C:Int->Int->Prop)(g:Int->Int->V):R2:=fun x y H Q=>∃i j,x=.int i/\y=.int j/\C i j/\Q (g i j) H
noncomputable def rI0(g:Int->Int->V):R2:=fun x y H Q=>∃i j,x=.int i/\y=.int j/\Q (g i j) H
noncomputable def rU(g:Int->V):V->Hp->VK->Prop:=fun x H Q=>∃i,x=.int i/\Q (g i) H
section
variable{X:Cx}{a b c:Expr}{ta tb tc:TE}{pos:Pos}
theorem binT(ha:PE X a ta)(hb:PE X b tb){s:aJ}{σ:St}{R:V->V->Hp->Prop}(I:Inv X pins σ H s)(h:ta σ H fun x H1=>tb σ H1 fun y H2=>R x y H2){f:Value->Value->Sem Value}(hf:∀v u s2 x y H2,Inv X pins σ H2 s2->RelV x v->RelV y u->R x y H2->aI (model X.prog X.w) X.A (f v u) Q X.xe s2):
  aI (model X.prog X.w) X.A (eval a X.env) (fun v s₁=>aI (model X.prog X.w) X.A (eval b X.env) (fun u s₂=>aI (model X.prog X.w) X.A (f v u) Q X.xe s₂) X.xe s₁) X.xe s:=by
 refine thn (ha pins s σ H _ I h) fun v s1 ⟨x,H1,I1,r1,q1⟩=>?_
 refine thn (hb pins s1 σ H1 _ I1 q1) fun u s2 ⟨y,H2,I2,r2,q2⟩=>?_
 exact hf v u s2 x y H2 I2 r1 r2 q2
theorem zXq{op:Operator}{r:R2}(ho:OpR X (binaryOp op) r)(ha:PE X a ta)(hb:PE X b tb):PE X (.BinOp a op b pos) (tOp r ta tb):=by
 intro pins s σ H Q I h;exact wpAny_BinOp (binT ha hb I h fun v u s2 x y H2 I2 rx ry q=>ho pins s2 σ H2 x y v u Q I2 rx ry q)
theorem zXp{op:UnaryOp}{r:V->Hp->VK->Prop}(ho:UnR X (unaryOp op) r)(ha:PE X a ta):PE X (.UnaryOp op a pos) (tUn r ta):=by
 intro pins s σ H Q I h;exact UnaryOp_ (thn (ha pins s σ H _ I h) fun v s1 ⟨x,H1,I1,r1,q1⟩=>ho pins s1 σ H1 x v Q I1 r1 q1)
theorem opI{f:Value->Value->Sem Value}{C:Int->Int->Prop}(rule:∀(i j:Int) (t u:Tok) (s:aJ) (Q:Value->aJ->Prop) (E:Value->aJ->Prop),C i j->Q (.int (g i j) s.toks) {s with toks:=s.toks+1}->aI (model X.prog X.w) X.A (f (.int i t) (.int j u)) Q E s):
  OpR X f (rI C fun i j=>.int (g i j)):=by
 intro pins s σ H x y v u Q I rx ry h;obtain⟨i,j,rfl,rfl,hc,q⟩:=h;obtain⟨t,rfl⟩:=rx;obtain⟨t',rfl⟩:=ry;exact rule i j t t' s _ _ hc ⟨.int (g i j),H,I.tok _,⟨_,rfl⟩,q⟩
theorem opI0{f:Value->Value->Sem Value}(rule:∀(i j:Int) (t u:Tok) (s:aJ) (Q:Value->aJ->Prop) (E:Value->aJ->Prop),Q (.int (g i j) s.toks) {s with toks:=s.toks+1}->aI (model X.prog X.w) X.A (f (.int i t) (.int j u)) Q E s):
  OpR X f (rI0 fun i j=>.int (g i j)):=by
 intro pins s σ H x y v u Q I rx ry h;obtain⟨i,j,rfl,rfl,q⟩:=h;obtain⟨t,rfl⟩:=rx;obtain⟨t',rfl⟩:=ry;exact rule i j t t' s _ _ ⟨.int (g i j),H,I.tok _,⟨_,rfl⟩,q⟩
theorem opB0{f:Value->Value->Sem Value}{g:Int->Int->Bool}(rule:∀(i j:Int) (t u:Tok) (s:aJ) (Q:Value->aJ->Prop) (E:Value->aJ->Prop),Q (.bool (g i j)) s->aI (model X.prog X.w) X.A (f (.int i t) (.int j u)) Q E s):
  OpR X f (rI0 fun i j=>.bl (g i j)):=by
 intro pins s σ H x y v u Q I rx ry h;obtain⟨i,j,rfl,rfl,q⟩:=h;obtain⟨t,rfl⟩:=rx;obtain⟨t',rfl⟩:=ry;exact rule i j t t' s _ _ ⟨.bl (g i j),H,I,rfl,q⟩
noncomputable def CPow(i j:Int):Prop:=0<=j/\j<=1000000/\i.natAbs<2 ^ 64
theorem zKj:OpR X (binaryOp .Add) (rI0 fun i j=>.int (i+j)):=opI0 fun _ _ _ _ _ _ _ q=>add_int q
theorem zKa:OpR X (binaryOp .Sub) (rI0 fun i j=>.int (i - j)):=opI0 fun _ _ _ _ _ _ _ q=>sub_int q
theorem zKe:OpR X (binaryOp .Mod) (rI (fun _ j=>0<j) fun i j=>.int (i % j)):=opI fun i j _ _ _ _ _ hc q=>by
 have h1:(0:Int)<j:=hc;exact mod_int' (by omega) (by rw[Int.fmod_eq_emod_of_nonneg i (by omega)];exact q)
theorem zKb:OpR X (binaryOp .Pow) (rI CPow fun i j=>.int (i ^ j.toNat)):=opI fun _ _ _ _ _ _ _ hc q=>pow_int_small hc.1 hc.2.1 hc.2.2 q
theorem unI{f:Value->Sem Value}{g:Int->Int}(rule:∀(i:Int) (t:Tok) (s:aJ) (Q:Value->aJ->Prop) (E:Value->aJ->Prop),Q (.int (g i) s.toks) {s with toks:=s.toks+1}->aI (model X.prog X.w) X.A (f (.int i t)) Q E s):
  UnR X f (rU fun i=>.int (g i)):=by
 intro pins s σ H x v Q I rx h;obtain⟨i,rfl,q⟩:=h;obtain⟨t,rfl⟩:=rx;exact rule i t s _ _ ⟨.int (g i),H,I.tok _,⟨_,rfl⟩,q⟩
theorem vKz:UnR X (unaryOp .USub) (rU fun i=>.int (-i)):=unI fun _ _ _ _ _ q=>neg_int q
end
noncomputable def scal:V->V->Bool
 |.non,.non =>true|.non,.int _=>true|.int _,.non =>true|.non,.bl _=>true|.bl _,.non =>true|.non,.str _=>true|.str _,.non =>true
 |.int _,.int _=>true|.bl _,.bl _=>true|.str _,.str _=>true|.byt _,.byt _=>true
 |.int _,.str _=>true|.str _,.int _=>true|.bl _,.str _=>true|.str _,.bl _=>true
 |_,_=>false
noncomputable def rEq:R2:=fun x y H Q=>scal x y=true/\Q (.bl (decide (x=y))) H
noncomputable def rNe:R2:=fun x y H Q=>scal x y=true/\Q (.bl (!decide (x=y))) H
theorem vQw{i j:Int}:decide (V.int i=V.int j)=(i == j):=by
 rw[Bool.eq_iff_iff];simp
theorem vZ5{i j:Bool}:decide (V.bl i=V.bl j)=(i == j):=by
 grind
theorem vXi{i j:Str}:decide (V.str i=V.str j)=(i == j):=by
 rw[Bool.eq_iff_iff];simp
theorem vXj{i j:Array UInt8}:decide (V.byt i=V.byt j)=(i.toList == j.toList):=by
 rw[Bool.eq_iff_iff];simp_all
section
variable{X:Cx}{a b c:Expr}{ta tb tc:TE}{pos:Pos}
theorem vX{σ:St}{s:aJ}{Q:VK}{k k' :Bool}(I:Inv X pins σ H s)(q:Q (.bl k) H)(e:k=k'):EP X pins σ Q (.bool k') s:=by
 subst e;exact⟨.bl k,H,I,rfl,q⟩
theorem jQ3:OpR X (bN .Eq) rEq:=by
 intro pins s σ H x y v u Q I rx ry h;obtain⟨hs,q⟩:=h;cases x with
 | non=>
   cases rx;cases y with
   |non=>cases ry;exact PySem.EqNone.eq_none_none (vX I q (by simp))
   |bl j=>cases ry;exact PySem.EqNone.eq_none_bool (vX I q (by simp))
   |int j=>obtain⟨t',rfl⟩:=ry;exact PySem.EqNone.eq_none_int (vX I q (by simp))
   |str j=>obtain⟨t',rfl⟩:=ry;exact PySem.EqNone.eq_none_str (vX I q (by simp))
   |_=>exact absurd (show false=true from hs) aR
 | bl i=>
   cases rx;cases y with
   |non=>cases ry;exact PySem.EqNone.eq_bool_none (vX I q (by simp))
   |bl j=>cases ry;exact eq_bool (vX I q vZ5)
   |str j=>obtain⟨t',rfl⟩:=ry;exact PySem.EqMixed.eq_bool_str (vX I q (by simp))
   |_=>exact absurd (show false=true from hs) aR
 | int i=>
   obtain⟨t,rfl⟩:=rx;cases y with
   |non=>cases ry;exact PySem.EqNone.eq_int_none (vX I q (by simp))
   |int j=>obtain⟨t',rfl⟩:=ry;exact eq_int (vX I q vQw)
   |str j=>obtain⟨t',rfl⟩:=ry;exact PySem.EqMixed.eq_int_str (vX I q (by simp))
   |_=>exact absurd (show false=true from hs) aR
 | str i=>
   obtain⟨t,rfl⟩:=rx;cases y with
   |non=>cases ry;exact PySem.EqNone.eq_str_none (vX I q (by simp))
   |bl j=>cases ry;exact PySem.EqMixed.eq_str_bool (vX I q (by simp))
   |int j=>obtain⟨t',rfl⟩:=ry;exact PySem.EqMixed.eq_str_int (vX I q (by simp))
   |str j=>obtain⟨t',rfl⟩:=ry;exact eq_str (vX I q vXi)
   |_=>exact absurd (show false=true from hs) aR
 | byt i=>
   obtain⟨t,rfl⟩:=rx;cases y with
   |byt j=>obtain⟨t',rfl⟩:=ry;exact PySem.W.eq_bytes (vX I q vXj)
   |_=>exact absurd (show false=true from hs) aR
 |_=>cases y <;> exact absurd (show false=true from hs) aR
theorem vKt:OpR X (bN .NotEq) rNe:=by
 intro pins s σ H x y v u Q I rx ry h;obtain⟨hs,q⟩:=h;cases x with
 | non=>
   cases rx;cases y with
   |non=>cases ry;exact PySem.EqNone.ne_none_none (vX I q (by simp))
   |bl j=>cases ry;exact PySem.EqNone.ne_none_bool (vX I q (by simp))
   |int j=>obtain⟨t',rfl⟩:=ry;exact PySem.EqNone.ne_none_int (vX I q (by simp))
   |str j=>obtain⟨t',rfl⟩:=ry;exact PySem.EqNone.ne_none_str (vX I q (by simp))
   |_=>exact absurd (show false=true from hs) aR
 | bl i=>
   cases rx;cases y with
   |non=>cases ry;exact PySem.EqNone.ne_bool_none (vX I q (by simp))
   |bl j=>cases ry;exact ne_bool (vX I q (congrArg not vZ5))
   |str j=>obtain⟨t',rfl⟩:=ry;exact PySem.EqMixed.ne_bool_str (vX I q (by simp))
   |_=>exact absurd (show false=true from hs) aR
 | int i=>
   obtain⟨t,rfl⟩:=rx;cases y with
   |non=>cases ry;exact PySem.EqNone.ne_int_none (vX I q (by simp))
   |int j=>obtain⟨t',rfl⟩:=ry;exact ne_int (vX I q (congrArg not vQw))
   |str j=>obtain⟨t',rfl⟩:=ry;exact PySem.EqMixed.ne_int_str (vX I q (by simp))
   |_=>exact absurd (show false=true from hs) aR
 | str i=>
   obtain⟨t,rfl⟩:=rx;cases y with
   |non=>cases ry;exact PySem.EqNone.ne_str_none (vX I q (by simp))
   |bl j=>cases ry;exact PySem.EqMixed.ne_str_bool (vX I q (by simp))
   |int j=>obtain⟨t',rfl⟩:=ry;exact PySem.EqMixed.ne_str_int (vX I q (by simp))
   |str j=>obtain⟨t',rfl⟩:=ry;exact ne_str (vX I q (congrArg not vXi))
   |_=>exact absurd (show false=true from hs) aR
 | byt i=>
   obtain⟨t,rfl⟩:=rx;cases y with
   |byt j=>obtain⟨t',rfl⟩:=ry;exact PySem.W.ne_bytes (vX I q (congrArg not vXj))
   |_=>exact absurd (show false=true from hs) aR
 |_=>cases y <;> exact absurd (show false=true from hs) aR
theorem zXr:OpR X (bN .Lt) (rI0 fun i j=>.bl (decide (i<j))):=opB0 fun _ _ _ _ _ _ _ q=>lt_int q
theorem jQ2:OpR X (bN .LtE) (rI0 fun i j=>.bl (decide (i<=j))):=opB0 fun _ _ _ _ _ _ _ q=>le_int q
theorem zXs:OpR X (bN .Gt) (rI0 fun i j=>.bl (decide (j<i))):=opB0 fun _ _ _ _ _ _ _ q=>gt_int q
theorem OpR.or{f:Value->Value->Sem Value}{r r' :R2}(h:OpR X f r)(h' :OpR X f r'):OpR X f (fun x y H Q=>r x y H Q\/r' x y H Q):=by
 intro pins s σ H x y v u Q I rx ry q;rcases q with q|q
 ·exact h pins s σ H x y v u Q I rx ry q
 ·exact h' pins s σ H x y v u Q I rx ry q
theorem yS(b:Expr){op:CmpOp}(h:op≠ .In :=by decide)(h2:op≠ .NotIn :=by decide):behindInMarks op b=false:=by
 have e1:(op == CmpOp.In)=false:=by cases op <;> first|rfl|exact absurd rfl h
 have e2:(op == CmpOp.NotIn)=false:=by cases op <;> first|rfl|exact absurd rfl h2
 cases b <;> simp[behindInMarks,e1,e2]
theorem zJ8{op:CmpOp}{r:R2}(ho:OpR X (bN op) r)(ha:PE X a ta)(hb:PE X b tb)(hm:behindInMarks op b=false):PE X (.Compare a [op] [b] pos) (tOp r ta tb):=by
 intro pins s σ H Q I h;exact wpAny_Compare1 (binT ha hb I h fun v u s2 x y H2 I2 rx ry q=>ho pins s2 σ H2 x y v u Q I2 rx ry q) hm
noncomputable def jQn(t:TE):TT:=fun σ H Q=>t σ H fun x H' =>∃k,x=.bl k/\Q k H'
theorem zJs{op:CmpOp}{r:R2}(ho:OpR X (bN op) r)(ha:PE X a ta)(hb:PE X b tb)(hm:behindInMarks op b=false):PT X (.Compare a [op] [b] pos) (jQn (tOp r ta tb)):=by
 intro pins s σ H Q I h;refine wpAny_isTrue_Compare1 (thn (ha pins s σ H _ I h) fun v s1 ⟨x,H1,I1,r1,q1⟩=>thn (hb pins s1 σ H1 _ I1 q1) fun u s2 ⟨y,H2,I2,r2,q2⟩=>
  thn (ho pins s2 σ H2 x y v u _ I2 r1 r2 q2) fun c s3 ⟨z,H3,I3,r3,k,e,q3⟩=>?_) hm
 subst e;cases r3;exact wpAny_truthy_bool ⟨H3,I3,q3⟩
theorem qJ7:(aA:Nat)<2 ^ 63:=by decide
theorem vJp:OpR X (binaryOp .Add) (fun x y H Q=>∃i j,x=.str i/\y=.str j/\i.length+j.length<=aA/\Q (.str (i ++ j)) H):=by
 intro pins s σ H x y v u Q I rx ry h;obtain⟨i,j,rfl,rfl,hz,q⟩:=h;obtain⟨t,rfl⟩:=rx;obtain⟨t',rfl⟩:=ry;exact add_str (fun t' tk=>⟨.str (i ++ j),H,I.tok _,⟨_,rfl⟩,q⟩) hz
theorem qVb{x:V}(r:Vals [x] us):∃u,us=[u]/\RelV x u:=by
 cases r with
 |cons r1 r2=>cases r2;exact⟨_,rfl,r1⟩
theorem vKi{x:V}(r:Vals [x,y] us):∃u w',us=[u,w']/\RelV x u/\RelV y w' :=by
 cases r with
 | cons r1 r2=>
   cases r2 with
   |cons r3 r4=>cases r4;exact⟨_,_,rfl,r1,r3⟩
theorem vKg:zL X (.type "int") (fun xs H Q=>(∃i,xs=[.int i]/\Q (.int i) H)\/∃k,xs=[.bl k]/\Q (.int (if k then 1 else 0)) H):=by
 intro pins s σ H xs us Q I r h;rcases h with⟨i,rfl,q⟩|⟨k,rfl,q⟩
 ·obtain⟨u,rfl,t,rfl⟩:=qVb r;exact call_int_int ⟨.int i,H,I,⟨_,rfl⟩,q⟩
 ·obtain⟨u,rfl,r1⟩:=qVb r;cases r1;exact call_int_bool ⟨.int (if k then 1 else 0),H,I.tok _,⟨_,rfl⟩,q⟩
end
structure ObjM(h:Heap)(x dx C:aZ)(mA:Str->Option Value):Prop where
 obj:h.get? x=some (cR C dx)
 ns:h.Ns1 dx mA
 ne:dx≠x
theorem vYl{h:Heap}{mA:Str->Option Value}(n:h.Ns1 dx mA):∃od,h.get? dx=some od/\∀name,PySem.W.lookIn name od=some (mA name):=by
 obtain⟨o,es,ep,ho,hd,hk,_,hm⟩:=n;refine⟨o,ho,fun name=>?_⟩;have e:=hm name;unfold nsFind findBy at e;rw[←Array.find?_toList]at e;unfold PySem.W.lookIn;rw[hd];dsimp only;split
 ·grind
 ·rename_i q;rw[q]at e;have a:es.toList.any (·.refKey)=false:=by
   rw[List.any_eq_false];intro y hy;obtain⟨z,t,hkey⟩:=hk y (Array.mem_toList_iff.mp hy);simp[DictEntry.refKey,hkey]
  grind
theorem ObjM.look{h:Heap}{x:aZ}{mA:Str->Option Value}(I:ObjM h x dx C mA):∃od,PySem.W.InstAt h x (cR C dx) C (some od)/\∀name,PySem.W.lookIn name od=some (mA name):=
 let ⟨od,ho,hl⟩:=vYl I.ns
 ⟨od,⟨I.obj,rfl,rfl,ho⟩,hl⟩
section
variable{prog:aT}{w:bY}{A:bR}{E:Value->aJ->Prop}{s:aJ}{K:aQ}{x dx C f:aZ}{mA:Str->Option Value}{name:Str}{v:Value}
theorem zW2{expr:Bool}(X:K.In s.heap)(I:ObjM s.heap x dx C mA)(hg:PySem.W.plainGet K C name=true)(hh:PySem.W.hasDictIn K C=true)(ha:cW K (.ref C) name=some none)(hv:mA name=some v)(hv' :PySem.W.handedIn v=true)(h:Q v {s with toks:=s.toks+1}):
  aI (model prog w) A (getAttr (.ref x) name expr) Q E s:=by
 obtain⟨od,J,hl⟩:=I.look;exact PySem.W.get_value X J (PySem.W.plainGet_of hg).1 (PySem.W.findObj_own hh ha rfl (by rw[hl,hv])) hv' h
theorem zZl{Q:Value×List Value->aJ->Prop}(X:K.In s.heap)(I:ObjM s.heap x dx C mA)(hg:PySem.W.plainGet K C name=true)(hf:cW K (.ref C) name=some (some (.ref f)))(ht:PySem.W.isFn K (.ref f)=true)(hv:mA name=none)(h:Q (.ref f,[.ref x]) s):
  aI (model prog w) A (getMethod (.ref x) name pl) Q E s:=by
 obtain⟨od,J,hl⟩:=I.look;exact PySem.W.method_fn X J (PySem.W.plainGet_of hg).1 (PySem.W.plainGet_of hg).2 hf (beq_iff_eq.mp ht) (by show(PySem.W.lookIn name od).map (·.isSome)=some false;rw[hl,hv];rfl) h
theorem zJc{ns:List Str}{Q:Unit->aJ->Prop}(X:K.In s.heap)(I:ObjM s.heap x dx C mA)(hs:cW K (.ref C) "__setattr__"=some (some (.builtin "object.__setattr__")))(hp:PySem.W.plainOver K C=true)(ht:PySem.W.takerIn K C name=some none)(hh:PySem.W.hasDictIn K C=true)(hw:PySem.Within mA ns)(hsz:ns.length<=aA)(h:∀h',ObjM h' x dx C (fun y=>if y=name then some v else mA y)->dL dx s.heap h' ->Q () {s with heap:=h',toks:=s.toks+2}):
  aI (model prog w) A (setAttr (.ref x) name v) Q E s:=by
 obtain⟨od,J,hl⟩:=I.look;refine PySem.W.set_plain X J hs (PySem.W.osa_open (s:={s with toks:=s.toks+1}) (r:=none) X J hp ht fun b=>?_);obtain⟨cd,hc,hd'⟩:=PySem.W.any_some hh;have hx:s.heap.get? x=some ⟨.ref C,some dx,.plain,#[]⟩:=I.obj;refine aV (aP (aV (aV (wpAny_loadPart hx (aV (PySem.W.Looks.here (s:={s with toks:=s.toks+1}) (PySem.W.looks_clsIn X hc) ?_))))));rw[hd'];refine aP (a:=some dx) (aV (aP (aV ?_)));refine wpAny_nsSet1 (s:={s with toks:=s.toks+1}) I.ns fun h' hn2 hs2=>?_
 obtain⟨oD,esD,epD,hoD,hdD,hcD⟩:=hn2.count (PySem.Within.cons name v hw);refine aV (wpAny_lookBehind hoD (by rw[hdD];exact pastItsLine_dict (aM hcD (by rw[aK];omega))) ?_);exact aP (h _ ⟨(hs2.2 _ (Ne.symm I.ne)).trans I.obj,hn2,I.ne⟩ hs2)
theorem zV5{R:Result->aJ->Prop}{vs:List Value}(X:K.In s.heap)(hm:PySem.W.makesIn K C=true)(hi:cW K (.ref C) "__init__"=some (some (.ref f)))(hf:PySem.W.typeIn K (.ref f)=some (.type "function"))(h:codeAny (model prog w) (A.under (.builtin "type.__call__" ⟨.ref C::vs,kw⟩)) (.call (.ref f) ⟨.ref (s.heap.objs.size+1)::vs,kw⟩) (PySem.W.InitBack (s.heap.objs.size+1) R)
   {s with heap:=(s.heap.push cK).push (cR C s.heap.objs.size)}):
  codeAny (model prog w) A (.call (.ref C) ⟨vs,kw⟩) R s:=by
 obtain⟨hh,g,d,t,os⟩:=s;exact PySem.W.make_core (PySem.W.makes_of X hm) (PySem.W.looks_findIn X hi) (fun self=>PySem.W.bind_fn X self hf) (.inl rfl) h
end
noncomputable def putF(f:Str)(v:V):List (Str×V)->List (Str×V)
 |[]=> [(f,v)]
 |(g,x)::r=>if g=f then(g,v)::r else(g,x)::putF f v r
theorem qW2(f g:Str)(v:V):∀fs:List (Str×V),(putF f v fs).lookup g=if g=f then some v else fs.lookup g
 | []=>by
   show List.lookup g [(f,v)]=_;grind
 | (k,x)::r=>by
   have ih:=qW2 f g v r;rw[show putF f v ((k,x)::r)=(if k=f then(k,v)::r else(k,x)::putF f v r) from rfl];grind
theorem qWn(f:Str)(v:V):∀fs:List (Str×V),f∈(putF f v fs).map (·.1)/\∀g,g∈fs.map (·.1)->g∈(putF f v fs).map (·.1)
 |[]=>⟨by simp[putF],fun g h=>by simp at h⟩
 | (k,x)::r=>by
   obtain⟨i1,i2⟩:=qWn f v r;rw[show putF f v ((k,x)::r)=(if k=f then(k,v)::r else(k,x)::putF f v r) from rfl];grind
theorem qW4(f:Str)(v:V):∀fs:List (Str×V),(putF f v fs).length <=fs.length+1
 |[]=>by simp[putF]
 | (k,x)::r=>by
   have ih:=qW4 f v r;rw[show putF f v ((k,x)::r)=(if k=f then(k,v)::r else(k,x)::putF f v r) from rfl];by_cases hk:k=f
   ·rw[if_pos hk,aK,aK];omega
   ·rw[if_neg hk,aK,aK];omega
theorem RelO.some_of{v:V}{o:Option Value}(r:RelO (some v) o):∃u,o=some u/\RelV v u:=by
 cases o with
 |none=>exact(show False from r).elim
 |some u=>exact⟨u,rfl,r⟩
theorem RelO.none_of{o:Option Value}(r:RelO none o):o=none:=by
 cases o with
 |none=>rfl
 |some u=>exact(show False from r).elim
theorem vYu{v:V}{u:Value}(r:RelV v u):PySem.W.handedIn u=true:=by
 cases v with
 |non=>cases(show u=Value.none from r);rfl
 |bl b=>cases(show u=Value.bool b from r);rfl
 |int i=>obtain⟨t,e⟩:=(show∃t,u=Value.int i t from r);cases e;rfl
 |str x=>obtain⟨t,e⟩:=(show∃t,u=Value.str x t from r);cases e;rfl
 |byt b=>obtain⟨t,e⟩:=(show∃t,u=Value.bytes b t from r);cases e;rfl
 |flt b=>obtain⟨t,e⟩:=(show∃t,u=Value.float b t from r);cases e;rfl
 |ref a=>cases(show u=Value.ref a from r);rfl
 |ty n=>cases(show u=Value.type n from r);rfl
section
variable{P:aT}{w:bY}{H H' :Hp}{h h' :Heap}{a C dx:aZ}{fs fs' :List (Str×V)}
theorem qXg(hok:HOk P w H h)(e:H a=some (.ins C dx fs)):∃mA,ObjM h a dx C mA/\(∀f,RelO (fs.lookup f) (mA f))/\PySem.Within mA (fs.map (·.1))/\fs.length<=1000/\H dx=some (.own a):=by
 obtain⟨d,z,ne,ob,mA,n,r,q⟩:=(show vS P w H h a (.ins C dx fs) from hok a _ e)
 exact⟨mA,⟨ob,n,ne⟩,r,q,z,d⟩
end
structure Cls(K:aQ)(C:aZ):Prop where
 pg:PySem.W.plainGet K C Str.empty=true
 hd:PySem.W.hasDictIn K C=true
 po:PySem.W.plainOver K C=true
 sa:cW K (.ref C) "__setattr__"=some (some (.builtin "object.__setattr__"))
theorem Cls.get(c:Cls K C)(f:Str):PySem.W.plainGet K C f=true:=c.pg
noncomputable def xZ(K:aQ)(C:aZ)(f:Str):Prop:=cW K (.ref C) f=some none
theorem xZ.taker{f:Str}(n:xZ K C f):PySem.W.takerIn K C f=some none:=by
 unfold PySem.W.takerIn;rw[show cW K (.ref C) f=some none from n];rfl
structure Meth(K:aQ)(C:aZ)(m:Str)(f:aZ):Prop where
 at_:cW K (.ref C) m=some (some (.ref f))
 fn:PySem.W.isFn K (.ref f)=true
 kp:cY K (.ref f)=true
section
variable{X:Cx}{pins:List (aZ×Obj)}{σ:St}{H:Hp}{s:aJ}{a C dx:aZ}{fs:List (Str×V)}{f:Str}{v:V}{A:bR}{E:Value->aJ->Prop}
theorem qYq{b:Bool}(I:Inv X pins σ H s)(e:H a=some (.ins C dx fs))(c:Cls X.K C)(n:xZ X.K C f)(l:fs.lookup f=some v)(h:∀u s',Inv X pins σ H s' ->RelV v u->Q u s'):aI (model X.prog X.w) A (getAttr (.ref a) f b) Q E s:=by
 obtain⟨mA,O,r,_,_,_⟩:=qXg I.hok e;obtain⟨u,hu,ru⟩:=RelO.some_of (v:=v) (o:=mA f) (by rw[←l];exact r f);exact zW2 I.kIn O (c.get f) c.hd n hu (vYu ru) (h u _ (I.tok _) ru)
theorem qYp{m:Str}{g:aZ}{Q:Value×List Value->aJ->Prop}(I:Inv X pins σ H s)(e:H a=some (.ins C dx fs))(c:Cls X.K C)(k:Meth X.K C m g)(l:fs.lookup m=none)(h:Q (.ref g,[.ref a]) s):aI (model X.prog X.w) A (getMethod (.ref a) m pl) Q E s:=by
 obtain⟨mA,O,r,_,_,_⟩:=qXg I.hok e;have hn:mA m=none:=RelO.none_of (by rw[←l];exact r m);exact zZl I.kIn O (c.get m) k.at_ k.fn hn h
theorem qYl{u:Value}{Q:Unit->aJ->Prop}(I:Inv X pins σ H s)(e:H a=some (.ins C dx fs))(c:Cls X.K C)(n:xZ X.K C f)(hl:fs.length<1000)(ry:RelV y u)(h:∀s',Inv X pins σ (upd H a (.ins C dx (putF f y fs))) s' ->Q () s'):aI (model X.prog X.w) A (setAttr (.ref a) f u) Q E s:=by
 obtain⟨mA,O,r,wi,_,ho⟩:=qXg I.hok e;have hz:(fs.map (·.1)).length <=aA:=by rw[aW,sizeLine_eq];omega
 refine zJc I.kIn O c.sa c.po n.taker c.hd wi hz fun h' O' sb=>h _ ?_
 have hd:∃o,h'.get? dx=some o:=let ⟨o,_,_,e',_⟩:=O'.ns;⟨o,e'⟩;refine I.write (x:=a) (e:=dx) (by rw[e];exact True.intro) (.inr ho) (fun b q hb z=>(sb.2 b hb).trans z) hd ?_
 refine⟨by rw[vQ O.ne];exact ho,?_,O.ne,O'.obj,_,O'.ns,fun g=>?_,fun g hg=>?_⟩
 ·have:=qW4 f y fs;omega
 ·show RelO ((putF f y fs).lookup g) (if g=f then some u else mA g);rw[qW2];by_cases q:g=f
  ·rw[if_pos q,if_pos q];exact ry
  ·rw[if_neg q,if_neg q];exact r g
 ·by_cases q:g=f
  ·rw[q];exact(qWn f y fs).1
  ·refine(qWn f y fs).2 g (wi g fun z=>hg ?_);show(if g=f then some u else mA g)=none;rw[if_neg q];exact z
theorem Inv.made(I:Inv X pins σ H s):Inv X pins σ (upd (upd H s.heap.objs.size (.own (s.heap.objs.size+1))) (s.heap.objs.size+1) (.ins C s.heap.objs.size []))
  {s with heap:=(s.heap.push cK).push (cR C s.heap.objs.size)}:=by
 have e1:(s.heap.push cK).get? s.heap.objs.size=some cK:=aC s.heap rfl;have e2:((s.heap.push cK).push (cR C s.heap.objs.size)).get? (s.heap.objs.size+1)=some (cR C s.heap.objs.size):=by
  have:=aC (s.heap.push cK) (o:=cR C s.heap.objs.size) rfl;rwa [bU]at this
 have e3:(s.heap.push cK).Ns s.heap.objs.size (fun _=>none):=⟨cK,#[],_,e1,rfl,(fun e he=>absurd he (by simp)),fun _=>rfl⟩
 have I1:=I.laid (a:=s.heap.objs.size) (o:=.own (s.heap.objs.size+1)) (h' :=s.heap.push cK) (t' :=s.toks) (fun b u q=>aX _ q) (aB _) ⟨_,e1⟩;refine I1.laid (a:=s.heap.objs.size+1) (o:=.ins C s.heap.objs.size []) (t' :=s.toks) (fun b u q=>aX _ q) (Nat.le_of_eq (bU _ _)) ?_
 have ne:s.heap.objs.size≠s.heap.objs.size+1:=bV (Nat.lt_succ_self _);refine⟨by rw[vQ ne,upd_same],bO _,ne,e2,fun _=>none,(Heap.Ns1.of_empty e3).at fun o q=>aX _ q,fun _=>True.intro,fun y hy=>absurd rfl hy⟩
theorem zXf{prog:aT}{w:bY}{env:Env}{e:Expr}{f:Str}{s:aJ}(hb:attributeBase e f env (eval e env)=eval e env)(h:aI (model prog w) A (eval e env) (fun o s₁=>aI (model prog w) A (getAttr o f true) Q E s₁) E s):aI (model prog w) A (eval (.Attribute e f pos) env) Q E s:=
 Attribute_any_ h (by rw[arm_eval_Attribute,hb])
end
noncomputable def tFld(K:aQ)(ta:TE)(f:Str):TE:=fun σ H Q=>ta σ H fun x H1=>∃a C dx fs v,x=.ref a/\H1 a=some (.ins C dx fs)/\Cls K C/\xZ K C f/\fs.lookup f=some v/\Q v H1
noncomputable def sFld(K:aQ)(ta tv:TE)(f:Str):TS:=fun D σ H=>tv σ H fun y H1=>ta σ H1 fun x H2=>∃a C dx fs,x=.ref a/\H2 a=some (.ins C dx fs)/\Cls K C/\xZ K C f/\fs.length<1000/\
 D.nx σ (upd H2 a (.ins C dx (putF f y fs)))
noncomputable def InOp(X:Cx)(op:Operator)(rd:V->V->Hp->VK->Prop):Prop:=
 ∀(pins:List (aZ×Obj)) (s:aJ) (σ:St) (H:Hp) (x y:V) (u v:Value) (Q:VK),Inv X pins σ H s->RelV x u->RelV y v->rd x y H Q->aI (model X.prog X.w) X.A (inplaceOp op u v) (EP X pins σ Q) X.xe s
noncomputable def zJk(K:aQ)(ta tv:TE)(rd:V->V->Hp->VK->Prop)(f:Str):TS:=fun D σ H=>ta σ H fun x H1=>∃a C dx fs v,x=.ref a/\H1 a=some (.ins C dx fs)/\Cls K C/\xZ K C f/\fs.lookup f=some v/\
 tv σ H1 fun y H2=>rd v y H2 fun z H3=>∃dx' fs',H3 a=some (.ins C dx' fs')/\fs'.length<1000/\D.nx σ (upd H3 a (.ins C dx' (putF f z fs')))
section
variable{X:Cx}{o e value:Expr}{f:Str}{pos pos' tpos:Pos}{ta tv:TE}
theorem zY6(he:PE X e ta)(hb:attributeBase e f X.env (eval e X.env)=eval e X.env):PE X (.Attribute e f pos) (tFld X.K ta f):=by
 intro pins s σ H Q I h;refine zXf hb (thn (he pins s σ H _ I h) fun u s1 ⟨x,H1,I1,rx,a,C,dx,fs,v,ex,ea,c,n,l,q⟩=>?_);subst ex;obtain rfl:u=Value.ref a:=rx;exact qYq I1 ea c n l fun u' s2 I2 ru=>⟨v,H1,I2,ru,q⟩
theorem zYq(ha:PE X o ta)(hv:PE X value tv)(hs:swapsWith value (some (.Attribute o f pos')) pos.line X.env=pure false):PS X (.Assign [.Attribute o f pos'] value pos) (sFld X.K ta tv f):=by
 intro pins s σ H D I h;refine plainObj_wpAny_Assign_Attribute (thn (hv pins s σ H _ I h) fun u s1 ⟨y,H1,I1,ry,q⟩=>thn (ha pins s1 σ H1 _ I1 q) fun ov s2 ⟨x,H2,I2,rx,a,C,dx,fs,ex,ea,c,n,l,q2⟩=>?_) hs;subst ex;obtain rfl:ov=Value.ref a:=rx;exact qYl I2 ea c n l ry fun s3 I3=>⟨σ,_,I3,q2⟩
theorem vX6{op:Operator}{rd:V->V->Hp->VK->Prop}(ha:PE X o ta)(hv:PE X value tv)(hop:InOp X op rd):PS X (.AugAssign (.Attribute o f tpos) op value pos) (zJk X.K ta tv rd f):=by
 intro pins s σ H D I h;refine wpAny_AugAssign_AttributeAny (thn (ha pins s σ H _ I h) fun ov s1 ⟨x,H1,I1,rx,a,C,dx,fs,v,ex,ea,c,n,l,q⟩=>?_);subst ex;obtain rfl:ov=Value.ref a:=rx;refine qYq I1 ea c n l fun u s2 I2 ru=>thn (hv pins s2 σ H1 _ I2 q) fun w3 s3 ⟨y,H2,I3,ry,q3⟩=>thn (hop pins s3 σ H2 v y u w3 _ I3 ru ry q3) fun w4 s4 ⟨z,H3,I4,rz,dx',fs',ea',l',q4⟩=>?_
 exact qYl I4 ea' c n l' rz fun s5 I5=>⟨σ,_,I5,q4⟩
end
section
variable{X:Cx}{pins:List (aZ×Obj)}{σ:St}{H:Hp}{s:aJ}{A:bR}{E:Value->aJ->Prop}{Q:Value->aJ->Prop}{c:Value}{b:Bool}
inductive TyOf(K:aQ)(H:Hp):V->Value->Prop where
 |non:TyOf K H .non (.type "NoneType")
 |bl (x:Bool):TyOf K H (.bl x) (.type "bool")
 |int (i:Int):TyOf K H (.int i) (.type "int")
 |str (x:Str):TyOf K H (.str x) (.type "str")
 |flt (x:UInt64):TyOf K H (.flt x) (.type "float")
 |lst {a:aZ} {xs:List V} (e:H a=some (.lst xs)):TyOf K H (.ref a) (.type "list")
 |frz {a:aZ} {o:Obj} {xs:List V} (e:H a=some (.frz o (.lst xs))):TyOf K H (.ref a) (.type "list")
 |tup {a:aZ} {xs:List V} (e:H a=some (.tup xs)):TyOf K H (.ref a) (.type "tuple")
 |dK {a:aZ} {kvs:List (Key×V)} (e:H a=some (.dK kvs)):TyOf K H (.ref a) (.type "dict")
 |dZ {a:aZ} {o:Obj} {kvs:List (Key×V)} (e:H a=some (.frz o (.dK kvs))):TyOf K H (.ref a) (.type "dict")
 |dT {a:aZ} {kvs:List (List Key×V)} (e:H a=some (.dT kvs)):TyOf K H (.ref a) (.type "dict")
 | ins {a C dx:aZ} {fs:List (Str×V)} (e:H a=some (.ins C dx fs)) (cl:Cls K C) (ha:cW K (.ref C) "__class__"=some (some (.builtin "object.__class__")))
   (hn:PySem.W.specialIn K (.builtin "object.__class__") "__get__"=some (some (.builtin "getset_descriptor.__get__"))) (htk:PySem.W.takesIn K (.builtin "object.__class__")=some true)
   (hm:PySem.W.mroIn K C (.type "object")=some true):TyOf K H (.ref a) (.ref C)
theorem vYr{x:V}{u t:Value}(I:Inv X pins σ H s)(rx:RelV x u)(ty:TyOf X.K H x t)(e:cX X.K t c=some b)(h:∀tk,Q (.bool b) {s with toks:=tk}):
  aI (model X.prog X.w) A (call (.builtin "isinstance") [u,c]) Q E s:=by
 cases ty with
 |non=>cases(show u=Value.none from rx);exact bI PySem.W.kitx_none I.kIn True.intro e (fun z=>nomatch z) h
 |bl y=>cases(show u=Value.bool y from rx);exact bI PySem.W.kitx_bool I.kIn True.intro e (fun z=>nomatch z) h
 |int i=>obtain⟨t,q⟩:=(show∃t,u=Value.int i t from rx);cases q;exact bI PySem.W.kitx_int I.kIn True.intro e (fun z=>nomatch z) h
 |str y=>obtain⟨t,q⟩:=(show∃t,u=Value.str y t from rx);cases q;exact bI PySem.W.kitx_str I.kIn True.intro e (fun z=>nomatch z) h
 |flt y=>obtain⟨t,q⟩:=(show∃t,u=Value.float y t from rx);cases q;exact bI PySem.W.kitx_float I.kIn True.intro e (fun z=>nomatch z) h
 | @lst a xs ea=>
   cases(show u=Value.ref a from rx);obtain⟨_,_,n,_,h1⟩:=(show vS X.prog X.w H s.heap a (.lst xs) from I.hok a _ ea)
   exact bI PySem.W.kitx_list I.kIn ⟨_,h1,rfl⟩ e (fun z=>nomatch z) h
 | @frz a ob xs ea=>
   cases(show u=Value.ref a from rx);obtain⟨_,_,_,n,_,h1⟩:=(show vS X.prog X.w H s.heap a (.frz ob (.lst xs)) from I.hok a _ ea)
   exact bI PySem.W.kitx_list I.kIn ⟨_,h1,rfl⟩ e (fun z=>nomatch z) h
 | @tup a xs ea=>
   cases(show u=Value.ref a from rx);obtain⟨_,_,_,p⟩:=(show vS X.prog X.w H s.heap a (.tup xs) from I.hok a _ ea)
   obtain⟨o,h1,h2,_⟩:=p;exact bI PySem.W.kitx_tuple I.kIn ⟨o,h1,h2⟩ e (fun z=>nomatch z) h
 | @dK a kvs ea=>
   cases(show u=Value.ref a from rx);obtain⟨_,_,vs,_,p⟩:=(show vS X.prog X.w H s.heap a (.dK kvs) from I.hok a _ ea)
   obtain⟨o,es,ep,h1,h2,_⟩:=p;exact bI PySem.W.kitx_dict I.kIn ⟨o,h1,h2.1⟩ e (fun z=>nomatch z) h
 | @dZ a ob kvs ea=>
   cases(show u=Value.ref a from rx);obtain⟨_,_,_,vs,_,p⟩:=(show vS X.prog X.w H s.heap a (.frz ob (.dK kvs)) from I.hok a _ ea)
   obtain⟨o,es,ep,h1,h2,_⟩:=p;exact bI PySem.W.kitx_dict I.kIn ⟨o,h1,h2.1⟩ e (fun z=>nomatch z) h
 | @dT a kvs ea=>
   cases(show u=Value.ref a from rx);obtain⟨_,_,xs,_,o,es,ep,h1,h2,_⟩:=(show vS X.prog X.w H s.heap a (.dT kvs) from I.hok a _ ea)
   exact bI PySem.W.kitx_dict I.kIn ⟨o,h1,h2.1⟩ e (fun z=>nomatch z) h
 | @ins a C dx fs ea cl ha hn htk hm=>
   cases(show u=Value.ref a from rx);obtain⟨mA,O,_⟩:=qXg I.hok ea;obtain⟨od,J,_⟩:=O.look;exact bI (PySem.W.kitx_own (cl.get _) cl.hd ha hn htk hm) I.kIn J e (fun z=>nomatch z) h
end
structure Room(k:Nat)(A:bR):Prop where
 hd:A.handled=none
 dp:A.depth+3 * k+5<recursionLimit
 un:A.units+16 * k+200<cG
 gd:A.guards=some []
theorem Room.mono{k:Nat}(r:Room k A)(h:j<=k):Room j A:=⟨r.hd,by have:=r.dp;omega,by have:=r.un;omega,r.gd⟩
theorem Room.deeper{k:Nat}(r:Room (k+1) A)(env:Env):Room k (A.deeper env):=
 ⟨r.hd,by have:=r.dp;show A.depth+1+3 * k+5<_;omega,by have:=r.un;show A.units+3+16 * k+200<_;omega,r.gd⟩
theorem vJt:(A.under (.builtin "type.__call__" ⟨.ref C::us,kw⟩)).depth =A.depth+1:=by
 first|rfl|simp[guardIds]
theorem vJs:(A.under (.builtin "type.__call__" ⟨.ref C::us,kw⟩)).units =A.units+1:=by
 first|rfl|simp[Code.frames]
theorem vZr:(A.under (.builtin "type.__call__" ⟨.ref C::us,kw⟩)).guards =A.guards:=by
 first|rfl|simp[guardIds]
theorem Room.make{k:Nat}(r:Room (k+1) A)(C:aZ)(us:List Value)(kw:List (Str×Value)):Room k (A.under (.builtin "type.__call__" ⟨.ref C::us,kw⟩)):=
 ⟨r.hd,by have:=r.dp;rw[vJt];omega,by have:=r.un;rw[vJs];omega,by rw[vZr];exact r.gd⟩
theorem Room.depth{k:Nat}(r:Room k A):A.depth<recursionLimit:=by have:=r.dp;omega
theorem Room.units{k:Nat}(r:Room k A):A.units+64<cG:=by have:=r.un;omega
noncomputable def tNil:TA:=fun _ H Q=>Q [] H
noncomputable def qKe(ta:TE)(tr:TA):TA:=fun σ H Q=>ta σ H fun x H1=>tr σ H1 fun xs H2=>Q (x::xs) H2
section
variable{X:Cx}{e:Expr}{es:List Expr}{te:TE}{t:TA}{pos:Pos}
theorem qZ7:PA X [] tNil:=fun _ _ _ _ H Q I h=>Calls.spliced_nil ⟨[],H,I,.nil,h⟩
theorem yH(ha:PE X e te)(hr:PA X es t)(hs:aY (e::es) X.env=(false,eval e X.env)::aY es X.env:=by rfl):PA X (e::es) (qKe te t):=by
 intro pos pins s σ H Q I h;rw[hs];refine Calls.spliced_cons (thn (ha pins s σ H _ I h) fun u s1 ⟨x,H1,I1,r1,q1⟩=>?_);exact thn (hr pos pins s1 σ H1 _ I1 q1) fun us s2 ⟨xs,H2,I2,r2,q2⟩=>⟨x::xs,H2,I2,.cons r1 r2,q2⟩
noncomputable def tTup(t:TA):TE:=fun σ H Q=>t σ H fun xs H1=>xs.length<=aA/\∀p,H1 p=none->Q (.ref p) (upd H1 p (.tup xs))
noncomputable def tLst(t:TA):TE:=fun σ H Q=>t σ H fun xs H1=>xs.length<=aA/\∀p,H1 p=none->Q (.ref p) (upd H1 p (.lst xs))
theorem zY1{x1}(h:PA X es t):PE X (.Tuple es x1 pos) (tTup t):=by
 intro pins s σ H Q I hq;refine wpAny_Tuple_spliced (thn (h pos pins s σ H _ I hq) fun us s1 ⟨xs,H1,I1,r,z,q⟩=>⟨by rw[←r.length];exact z,?_⟩);have hf:H1 s1.heap.objs.size=none:=I1.hok.fresh (aB _);refine⟨.ref s1.heap.objs.size,upd H1 s1.heap.objs.size (.tup xs),I1.laid (t' :=s1.toks) (fun b u e=>aX _ e) (aB _) ?_,rfl,q _ hf⟩;exact⟨z,us,r,⟨_,aC _ rfl,rfl,_,rfl⟩⟩
theorem zY5(h:PA X es t):PE X (.List es pos) (tLst t):=by
 intro pins s σ H Q I hq;refine wpAny_List_spliced (thn (h pos pins s σ H _ I hq) fun us s1 ⟨xs,H1,I1,r,z,q⟩=>⟨by rw[←r.length];exact z,?_⟩);have hf:H1 s1.heap.objs.size=none:=I1.hok.fresh (aB _);refine⟨.ref s1.heap.objs.size,upd H1 s1.heap.objs.size (.lst xs),I1.laid (t' :=s1.toks) (fun b u e=>aX _ e) (aB _) ?_,rfl,q _ hf⟩;exact⟨z,us,0,r,aC _ rfl⟩
end
noncomputable abbrev Sp:=List V->Hp->VK->XK->Prop
noncomputable abbrev CXT:=List Env->Hp->aJ->XK->Value->aJ->Prop
structure Env0(P:aT)(w:bY)(K:aQ)(mg:Str->Option Value)(base:Heap)(A:bR)(outer:List Env)(s:aJ)(H:Hp):Prop where
 frames:A.frames=some outer
 mod:Mod K mg base
 bs:∀b o,base.get? b=some o->s.heap.get? b=some o/\H b=none
 bsz:base.objs.size<=s.heap.objs.size
 funs:s.heap.FunFrames base outer
 frf:∀b∈frs outer,H b=none
 hok:HOk P w H s.heap
 bare:AllBare s.gens
noncomputable def CE(outer:List Env)(P:aT)(w:bY)(H:Hp)(s:aJ)(Q:VK)(u:Value)(s' :aJ):Prop:=
 ∃v H',s'.os=s.os/\AllBare s'.gens/\Un (frs outer) [] H H' s.heap s'.heap/\HOk P w H' s'.heap/\RelV v u/\Q v H'
noncomputable def CR(CX:CXT)(outer:List Env)(P:aT)(w:bY)(H:Hp)(s:aJ)(Q:VK)(E:XK)(r:Result)(s' :aJ):Prop:=
 match r with
 |.ok (.ret u)=>CE outer P w H s Q u s'
 |.ok _=>False
 |.error e=>CX outer H s E e s'
structure FnOk(P:aT)(w:bY)(K:aQ)(mg:Str->Option Value)(base:Heap)(CX:CXT)(k:Nat)(f:aZ)(fd:bZ)(ps:List Str)(sp:Sp):Prop where
 len:∀vs H Q E,sp vs H Q E->vs.length=ps.length
 run:∀(A:bR) (outer:List Env) (s:aJ) (H:Hp) (args:Args) (us:List Value) (vs:List V) (Q:VK) (E:XK),Room k A->Env0 P w K mg base A outer s H->BindsTo s fd args (ps.zip us)->Vals vs us->sp vs H Q E->
  codeAny (model P w) A (.call (.ref f) args) (CR CX outer P w H s Q E) s
theorem FnOk.imp{P:aT}{w:bY}{k:Nat}{f:aZ}{sp':Sp}(F:FnOk P w K mg base CX k f fd ps sp)(h:∀vs H Q E,sp' vs H Q E->sp vs H Q E):FnOk P w K mg base CX k f fd ps sp' :=
 ⟨fun vs H Q E q=>F.len vs H Q E (h _ _ _ _ q),fun A outer s H args us vs Q E hr he hb hv hs=>F.run A outer s H args us vs Q E hr he hb hv (h _ _ _ _ hs)⟩
theorem Env0.make{P:aT}{w:bY}{s:aJ}(e:Env0 P w K mg base A outer s H)(C:aZ)(us:List Value)(kw:List (Str×Value)):
  Env0 P w K mg base (A.under (.builtin "type.__call__" ⟨.ref C::us,kw⟩)) outer s H:=⟨by first|exact e.frames|(simpa[Around.under,Code.envs,Code.isFrame,pushEnvs] using e.frames),e.mod,e.bs,e.bsz,e.funs,e.frf,e.hok,e.bare⟩
section
variable{X:Cx}{pins:List (aZ×Obj)}{σ:St}{H:Hp}{s s' :aJ}
theorem Inv.env0(I:Inv X pins σ H s):Env0 X.prog X.w X.K X.mg X.base X.A X.stack s H:=
 ⟨I.ok.frames,I.ok.mod,I.bs,aM I.ok.bsz I.sz,I.stack,I.stkFree,I.hok,I.bare⟩
theorem Inv.after{Q:VK}{u:Value}(I:Inv X pins σ H s)(h:CE X.stack X.prog X.w H s Q u s'):EP X pins σ Q u s' :=by
 obtain⟨v,H',os,bare,un,hok,r,q⟩:=h;obtain⟨hh,g,d,t,os'⟩:=s';obtain rfl:os' =s.os:=os;exact⟨v,H',I.call (h' :=hh) (g' :=g) (d' :=d) (t' :=t) (ch:=[]) un hok bare (fun b z=>absurd z (by simp)),r,q⟩
end
noncomputable def vKk(sp:Sp)(dvs:List V)(E:XK)(t:TA):TE:=fun σ H Q=>t σ H fun vs H1=>sp (vs ++ dvs) H1 Q E
noncomputable def vJ2(C:aZ)(m:Str)(sp:Sp)(dvs:List V)(E:XK)(ta:TE)(t:TA):TE:=fun σ H Q=>ta σ H fun x H1=>∃a dx fs,x=.ref a/\H1 a=some (.ins C dx fs)/\fs.lookup m=none/\
 t σ H1 fun vs H2=>sp (x::(vs ++ dvs)) H2 Q E
noncomputable def vKj(C:aZ)(sp:Sp)(dvs:List V)(E:XK)(t:TA):TE:=fun σ H Q=>t σ H fun vs H1=>∀x dx,H1 x=none->H1 dx=none->dx≠x->
 sp (.ref x::(vs ++ dvs)) (upd (upd H1 dx (.own x)) x (.ins C dx [])) (fun v H2=>v=.non /\Q (.ref x) H2) E
noncomputable def wJ(K:aQ)(fd:bZ)(ps:List Str)(ds:List Value):Prop:=
 ∀(s:aJ) (us:List Value),K.In s.heap->(us ++ ds).length =ps.length->BindsTo s fd ⟨us,[]⟩ (ps.zip (us ++ ds))
theorem wJ.all(h:∀us:List Value,us.length=ps.length->bindArgs fd ⟨us,[]⟩=pure (ps.zip us)):wJ K fd ps []:=fun s us _ hl=>by
 rw[bL]at hl⊢;exact .of_eq (h us hl)
noncomputable def zC(CX:CXT)(X:Cx)(E:XK):Prop:=∀(pins:List (aZ×Obj)) (σ:St) (H:Hp) (s:aJ) (e:Value) (s' :aJ),Inv X pins σ H s->CX X.stack H s E e s' ->X.xe e s'
section
variable{X:Cx}{CX:CXT}{k:Nat}{f C:aZ}{fd:bZ}{ps:List Str}{sp:Sp}{dvs:List V}{ds:List Value}{E:XK}{x m:Str}{p pos apos:Pos}{e o:Expr}{es:List Expr}{ta:TE}{t:TA}
theorem qK6{σ:St}{s:aJ}{Q:VK}(F:FnOk X.prog X.w X.K X.mg X.base CX k f fd ps sp)(hr:Room k X.A)(hb:wJ X.K fd ps ds)(hd:Vals dvs ds)(hx:zC CX X E)(I:Inv X pins σ H s)(r:Vals vs us)(h:sp (vs ++ dvs) H Q E):aI (model X.prog X.w) X.A (call (.ref f) us) (EP X pins σ Q) X.xe s:=by
 have r2:Vals (vs ++ dvs) (us ++ ds):=r.append hd;have hl:(us ++ ds).length =ps.length:=by rw[←r2.length];exact F.len _ _ _ _ h
 refine wpAny_call (codeAny_mono (F.run X.A X.stack s H ⟨us,[]⟩ (us ++ ds) (vs ++ dvs) Q E hr I.env0 (hb s us I.kIn hl) r2 h) fun r s' hq=>?_);cases r with
 |error e=>exact hx pins σ H s e s' I hq
 | ok fl=>
   cases fl with
   |ret u=>exact I.after hq
   |next=>exact False.elim hq
   |brk=>exact False.elim hq
   |cont=>exact False.elim hq
theorem zJ9(F:FnOk X.prog X.w X.K X.mg X.base CX k f fd ps sp)(hr:Room k X.A)(hg:Gl X x)(hm:X.mg x=some (.ref f))(hk:cY X.K (.ref f)=true)(hb:wJ X.K fd ps ds)(hd:Vals dvs ds)(hx:zC CX X E)(ha:PA X (e::es) t)(hdb:(x == ("__debug__":Str))=false:=by decide)(he:aY (e::es) X.env=(false,eval e X.env)::aY es X.env:=by rfl)(hpl:(cV pos (aY es X.env)).any (·.1)=false:=by rfl):
  PE X (.Call (.Name x p) (e::es) [] pos) (vKk sp dvs E t):=by
 intro pins s σ H Q I h;refine eV (qJn I hg hm ?_ hdb);refine PySem.W.callWith_K (h₀:=X.base) I.ok.mod.kin hk (thn (ha pos pins s σ H _ I h) fun us s1 ⟨vs,H1,I1,r,q⟩=>⟨I1.kIn,?_⟩) he hpl;exact qK6 F hr hb hd hx I1 r q
theorem zVs(F:FnOk X.prog X.w X.K X.mg X.base CX k f fd ps sp)(hr:Room k X.A)(hg:Gl X x)(hm:X.mg x=some (.ref f))(hk:cY X.K (.ref f)=true)(hb:wJ X.K fd ps ds)(hd:Vals dvs ds)(hx:zC CX X E)(hdb:(x == ("__debug__":Str))=false:=by decide):PE X (.Call (.Name x p) [] [] pos) (vKk sp dvs E tNil):=by
 intro pins s σ H Q I h;refine eV (qJn I hg hm ?_ hdb);exact PySem.W.callWith_K0 I.kIn hk (qK6 (us:=[]) F hr hb hd hx I .nil h)
theorem vW0(he:PE X o ta)(c:Cls X.K C)(hm:Meth X.K C m f)(F:FnOk X.prog X.w X.K X.mg X.base CX k f fd ps sp)(hr:Room k X.A)(hb:wJ X.K fd ps ds)(hd:Vals dvs ds)(hx:zC CX X E)(ha:PA X (e::es) t)(hst:aY (e::es) X.env=(false,eval e X.env)::aY es X.env:=by rfl)(hpl:(cV pos (aY es X.env)).any (·.1)=false:=by rfl)(ht:eval (.Call (.Attribute o m apos) (e::es) [] pos) X.env=(do
   let ov ←eval o X.env;standAt apos.atName;let (f,first) ←holding [ov] (getMethod ov m pl);callWith pos f first (cV pos (aY (e::es) X.env)) (backToKw pos (keywordEach [] X.env))):=by rfl):
  PE X (.Call (.Attribute o m apos) (e::es) [] pos) (vJ2 C m sp dvs E ta t):=by
 intro pins s σ H Q I h;refine PySem.W.methodCall_KW (pl:=pl) (thn (he pins s σ H _ I h) fun u s1 ⟨x,H1,I1,rx,a,dx,fs,ex,ea,l,q⟩=>?_) ht;subst ex;obtain rfl:u=Value.ref a:=rx;refine qYp I1 ea c hm l ?_
 refine PySem.W.callWith_K (first:=[.ref a]) (h₀:=X.base) I.ok.mod.kin hm.kp (thn (ha pos pins s1 σ H1 _ I1 q) fun us s2 ⟨vs,H2,I2,r,q2⟩=>⟨I2.kIn,?_⟩) hst hpl;exact qK6 (us:=.ref a::us) (vs:=.ref a::vs) F hr hb hd hx I2 (.cons rfl r) q2
theorem zVo(he:PE X o ta)(c:Cls X.K C)(hm:Meth X.K C m f)(F:FnOk X.prog X.w X.K X.mg X.base CX k f fd ps sp)(hr:Room k X.A)(hb:wJ X.K fd ps ds)(hd:Vals dvs ds)(hx:zC CX X E)(ht:eval (.Call (.Attribute o m apos) [] [] pos) X.env=(do
   let ov ←eval o X.env;standAt apos.atName;let (f,first) ←holding [ov] (getMethod ov m pl);callWith pos f first (cV pos (aY [] X.env)) (backToKw pos (keywordEach [] X.env))):=by rfl):
  PE X (.Call (.Attribute o m apos) [] [] pos) (vJ2 C m sp dvs E ta tNil):=by
 intro pins s σ H Q I h;refine PySem.W.methodCall_KW (pl:=pl) (thn (he pins s σ H _ I h) fun u s1 ⟨x,H1,I1,rx,a,dx,fs,ex,ea,l,q⟩=>?_) ht;subst ex;obtain rfl:u=Value.ref a:=rx;refine qYp I1 ea c hm l ?_
 exact PySem.W.callWith_K0 (first:=[.ref a]) I1.kIn hm.kp (qK6 (us:=[.ref a]) (vs:=[.ref a]) F hr hb hd hx I1 (.cons rfl .nil) q)
structure Mk(K:aQ)(C f:aZ):Prop where
 makes:PySem.W.makesIn K C=true
 init:cW K (.ref C) "__init__"=some (some (.ref f))
 fn:PySem.W.isFn K (.ref f)=true
 kp:cY K (.ref C)=true
theorem vV1{σ:St}{s:aJ}{Q:VK}(M:Mk X.K C f)(F:FnOk X.prog X.w X.K X.mg X.base CX k f fd ps sp)(hr:Room (k+1) X.A)(hb:wJ X.K fd ps ds)(hd:Vals dvs ds)(hx:zC CX X E)(I:Inv X pins σ H s)(r:Vals vs us)(h:∀x dx,H x=none->H dx=none->dx≠x->sp (.ref x::(vs ++ dvs)) (upd (upd H dx (.own x)) x (.ins C dx [])) (fun v H2=>v=.non /\Q (.ref x) H2) E):
  aI (model X.prog X.w) X.A (call (.ref C) us) (EP X pins σ Q) X.xe s:=by
 have hq:=h (s.heap.objs.size+1) s.heap.objs.size (I.hok.fresh (Nat.le_succ _)) (I.hok.fresh (aB _)) (bV (Nat.lt_succ_self _));have I2:=Inv.made (C:=C) I;have r2:Vals (V.ref (s.heap.objs.size+1)::(vs ++ dvs)) (Value.ref (s.heap.objs.size+1)::(us ++ ds)):=.cons rfl (r.append hd);have hl:(Value.ref (s.heap.objs.size+1)::us ++ ds).length =ps.length:=by
  have e:=r2.length;rw[F.len _ _ _ _ hq]at e;exact e.symm
 refine wpAny_call (zV5 (f:=f) I.kIn M.makes M.init (beq_iff_eq.mp M.fn) (codeAny_mono (F.run _ X.stack _ _ ⟨Value.ref (s.heap.objs.size+1)::us,[]⟩ (Value.ref (s.heap.objs.size+1)::(us ++ ds)) _ _ E (hr.make C us [])
  (I2.env0.make C us []) (hb _ (Value.ref (s.heap.objs.size+1)::us) I2.kIn hl) r2 hq) fun r s' hq' =>?_))
 cases r with
 |error e=>exact hx pins σ _ _ e s' I2 hq'
 | ok fl=>
   cases fl with
   | ret u=>
     obtain⟨v,H',I3,rv,ev,q3⟩:=I2.after hq';subst ev;exact⟨rv,⟨V.ref (s.heap.objs.size+1),H',I3,rfl,q3⟩⟩
   |next=>exact False.elim hq'
   |brk=>exact False.elim hq'
   |cont=>exact False.elim hq'
theorem zJ6(M:Mk X.K C f)(F:FnOk X.prog X.w X.K X.mg X.base CX k f fd ps sp)(hr:Room (k+1) X.A)(hg:Gl X x)(hm:X.mg x=some (.ref C))(hb:wJ X.K fd ps ds)(hd:Vals dvs ds)(hx:zC CX X E)(ha:PA X (e::es) t)(hdb:(x == ("__debug__":Str))=false:=by decide)(he:aY (e::es) X.env=(false,eval e X.env)::aY es X.env:=by rfl)(hpl:(cV pos (aY es X.env)).any (·.1)=false:=by rfl):
  PE X (.Call (.Name x p) (e::es) [] pos) (vKj C sp dvs E t):=by
 intro pins s σ H Q I h;refine eV (qJn I hg hm ?_ hdb);refine PySem.W.callWith_K (h₀:=X.base) I.ok.mod.kin M.kp (thn (ha pos pins s σ H _ I h) fun us s1 ⟨vs,H1,I1,r,q⟩=>⟨I1.kIn,?_⟩) he hpl;exact vV1 M F hr hb hd hx I1 r q
theorem zVp(M:Mk X.K C f)(F:FnOk X.prog X.w X.K X.mg X.base CX k f fd ps sp)(hr:Room (k+1) X.A)(hg:Gl X x)(hm:X.mg x=some (.ref C))(hb:wJ X.K fd ps ds)(hd:Vals dvs ds)(hx:zC CX X E)(hdb:(x == ("__debug__":Str))=false:=by decide):PE X (.Call (.Name x p) [] [] pos) (vKj C sp dvs E tNil):=by
 intro pins s σ H Q I h;refine eV (qJn I hg hm ?_ hdb);exact PySem.W.callWith_K0 I.kIn M.kp (vV1 (us:=[]) M F hr hb hd hx I .nil h)
end
structure FnScope(N P:List Str)(sc:Scope):Prop where
 kind:sc.kind=.function
 co:sc.isCoroutine=false
 gen:sc.isGenerator=false
 nd:N.Nodup
 pre:N.take P.length=P
 par:∀x∈P,sc.names.lookup x=some .local \/sc.names.lookup x=some .cell
 nofree:∀y∈sc.names,y.2≠ .free
theorem qKz{x:Str}:∀{binds:List (Str×Value)} {m:Str->Option Value},(∀v,(x,v)∉binds)->bindL kindOf binds m x=m x
 |[],_,_=>rfl
 | (n,v)::r,m,h=>by
   unfold bindL;rw[qKz fun w hw=>h w (aO _ hw)];split
   ·grind
   ·rfl
theorem qK1{x:Str}:∀{binds:List (Str×Value)} {m:Str->Option Value},(∀v,(x,v)∉binds)->bindC kindOf binds m x=m x
 |[],_,_=>rfl
 | (n,v)::r,m,h=>by
   unfold bindC;rw[qK1 fun w hw=>h w (aO _ hw)];split
   ·rfl
   ·grind
theorem qK0{x:Str}{v:Value}:∀{P:List Str} {vs:List Value} {i:Nat} {m:Str->Option Value},P.Nodup->P[i]?=some x->vs[i]?=some v->kindOf x=some .local ->
  bindL kindOf (P.zip vs) m x=some v
 |[],_,_,_,_,h,_,_=>by simp at h
 |_::_,[],_,_,_,_,h,_=>by simp at h
 | p::P,w::vs,0,m,nd,h1,h2,hk=>by
   simp at h1 h2;subst h1;subst h2;show bindL kindOf ((p,w)::P.zip vs) m p=_;unfold bindL;rw[qKz fun v hv=>(cB.mp nd).1 (List.of_mem_zip hv).1,if_pos hk];simp
 | p::P,w::vs,i + 1,m,nd,h1,h2,hk=>by
   unfold bindL;exact qK0 (i:=i) (cB.mp nd).2 (by simpa using h1) (by simpa using h2) hk
theorem qK2{x:Str}{v:Value}:∀{P:List Str} {vs:List Value} {i:Nat} {m:Str->Option Value},P.Nodup->P[i]?=some x->vs[i]?=some v->kindOf x≠some .local ->
  bindC kindOf (P.zip vs) m x=some v
 |[],_,_,_,_,h,_,_=>by simp at h
 |_::_,[],_,_,_,_,h,_=>by simp at h
 | p::P,w::vs,0,m,nd,h1,h2,hk=>by
   simp at h1 h2;subst h1;subst h2;show bindC kindOf ((p,w)::P.zip vs) m p=_;unfold bindC;rw[qK1 fun v hv=>(cB.mp nd).1 (List.of_mem_zip hv).1,if_neg hk];simp
 | p::P,w::vs,i + 1,m,nd,h1,h2,hk=>by
   unfold bindC;exact qK2 (i:=i) (cB.mp nd).2 (by simpa using h1) (by simpa using h2) hk
noncomputable def qVh(N:List Str)(vs:List V):St:=vs.map some ++ List.replicate (N.length - vs.length) none
noncomputable def cxOf(CX:CXT)(P:aT)(w:bY)(K:aQ)(mg:Str->Option Value)(base:Heap)(N:List Str)(qual:Str)(scope:Scope)(f:aZ)(cd:Value)(A:bR)(outer:List Env)(s:aJ)(H:Hp)(E:XK):Cx where
 prog:=P;w:=w;K:=K;mg:=mg;base:=base;A:=A.deeper (envOfC qual scope s.heap.objs.size f cd);N:=N;s₀:=s;H₀:=H;env:=envOfC qual scope s.heap.objs.size f cd;outer:=outer;stack:=envOfC qual scope s.heap.objs.size f cd::outer;ex:=[]
 calm:=true;fn:=fun _=>true
 pn:=[]
 xe:=fun e s' =>aI (model P w) (A.deeper (envOfC qual scope s.heap.objs.size f cd)) (leaving (envOfC qual scope s.heap.objs.size f cd) e) (fun _ s'' =>CX outer H s E e s'') (fun e' s'' =>CX outer H s E e' s'') s'
theorem cell_has{sc:Scope}{x:Str}(h:sc.names.lookup x=some .cell):∃c,(cellsFrom n sc.names []).lookup x=some c:=by
 have q:=PySem.W.cellsFrom_some sc.names n [] (.inl h);exact Option.isSome_iff_exists.mp q
theorem vYs{P:aT}{w:bY}{f:aZ}{cd:Value}{s s1:aJ}{E:XK}(S:FnScope N ps scope)(hd:A.handled=none)(e0:Env0 P w K mg base A outer s H)(hl:vs.length=ps.length)(r:Vals vs us)(x:InCallC s s.heap.objs.size (bindL (envOfC qual scope s.heap.objs.size f cd).kindOf (ps.zip us) fun _=>none) (cellsFrom (s.heap.objs.size+1) scope.names []) (bindC (envOfC qual scope s.heap.objs.size f cd).kindOf (ps.zip us) fun _=>none) s1):
  Inv (cxOf CX P w K mg base N qual scope f cd A outer s H E) [] (qVh N vs) H s1:=by
 have hpl:ps.length<=N.length:=by have:=congrArg List.length S.pre;rw[List.length_take]at this;omega
 obtain⟨h1,tk,rfl,hk⟩:=x.done;have noA:∀b:aZ,b∉(cxOf CX P w K mg base N qual scope f cd A outer s H E).ex :=fun b z=>absurd (show b∈([]:List aZ) from z) (by simp)
 refine⟨⟨e0.mod,S.kind,rfl,rfl,aB _,fun y z c h1 h2=>?_,fun y hy=>?_,fun y c _ h=>?_,fun _=>hd,Around.frames_deeper e0.frames,.inr ⟨rfl,rfl⟩,fun b z=>absurd z (noA b),e0.bs,e0.bsz,fun b _ _=>noA b,fun b z=>absurd z (noA b),e0.funs,e0.frf⟩,
  rfl,e0.bare,Un.kept hk,⟨_,x.toInCall.ns,fun i y v h1 h2 h3=>?_⟩,fun y c h=>⟨_,x.cell y c h⟩,e0.hok.fresh (aB _),fun y c h=>?_,fun p hp=>absurd (show p∈([]:List (aZ×Obj)) from hp) (by simp),e0.hok.kept hk,?_⟩
 ·exact name_of_addr x.apart (cJ h1) (cJ h2)
 ·have hy:scope.names.lookup y=some .cell \/scope.names.lookup y=some .free :=hy;rcases hy with hy|hy
  ·exact cell_has hy
  ·exact absurd rfl (S.nofree _ (cJ hy))
 ·exact dB (x.above y c (cJ h))
 ·have hi:i<vs.length:=by
   unfold qVh at h2;grind
  have ha:vs[i]?=some v:=by
   unfold qVh at h2;grind
  obtain⟨u,hu,rv⟩:=r.get ha;have hp:ps[i]?=some y:=by
   rw[←S.pre,List.getElem?_take_of_lt (by omega)];exact h1
  have ndP:ps.Nodup:=by rw[←S.pre];exact S.nd.sublist (List.take_sublist _ _)
  refine⟨u,rv,?_⟩;rcases S.par y (List.mem_of_getElem? hp) with k|k
  ·exact .inl ⟨k,qK0 ndP hp hu k⟩
  ·obtain⟨c,e⟩:=cell_has (n:=s.heap.objs.size + 1) k;refine .inr ⟨.inl k,c,e,?_⟩;have q:=x.cell y c e;rw[qK2 ndP hp hu (by show scope.names.lookup y≠_;rw[k];decide)]at q;exact q
 ·exact e0.hok.fresh (dB (x.above y c (cJ h)))
 ·unfold qVh;show _=N.length;grind
theorem jVq{P:aT}{w:bY}{k:Nat}{f:aZ}{name:Str}{params:Arguments}{dV kV doc pm cdv ct oc:Value}{an od:Option aZ}{osl:Array (Option Value)}(lk:K.lookup f=some ⟨oc,od,.func (bA name qual params body scope dV kV doc pm an cdv ct),osl⟩)(hcd:PySem.W.codeIn K cdv qual=true)(S:FnScope N ps scope)(len:∀vs H Q E,sp vs H Q E->vs.length=ps.length)(hbody:∀(A:bR) (outer:List Env) (s:aJ) (H:Hp) (vs:List V) (Q:VK) (E:XK),Room k (A.deeper (envOfC qual scope s.heap.objs.size f cdv))->sp vs H Q E->
   ∃t,PSs (cxOf CX P w K mg base N qual scope f cdv A outer s H E) body t/\t {nx:=fun _ H' =>Q .non H',rt:=Q} (qVh N vs) H):
  FnOk P w K mg base CX (k+1) f (bA name qual params body scope dV kV doc pm an cdv ct) ps sp:=by
 refine⟨len,fun A outer s H args us vs Q E hr e0 hb r hsp=>?_⟩;have hl:=len _ _ _ _ hsp;have KX:K.In s.heap:=e0.mod.kin.keeps fun b o e=>(e0.bs b o e).1
 have lim:s.heap.NoLimit:=e0.mod.nolimit.keeps fun b o e=>(e0.bs b o e).1
 have hkind:∀y∈ps.zip us,scope.names.lookup y.1=some .local \/(scope.names.lookup y.1=some .cell /\((cellsFrom (s.heap.objs.size+1) scope.names []).lookup y.1).isSome =true):=fun⟨n,v⟩ hy=>by
  rcases S.par n (List.of_mem_zip hy).1 with q|q
  ·exact .inl q
  ·exact .inr ⟨q,PySem.W.cellsFrom_some _ _ _ (.inl q)⟩
 refine codeAny_call_function hr.depth (KX _ _ lk) rfl S.co S.gen rfl (PySem.W.codeRec_of KX hcd) (hb _ _ _ _ ?_);refine wpAny_newFunctionEnv_cells S.kind hkind fun env he s1 x=>?_
 subst he;refine⟨lim.keeps x.toInCall.keep,codeAny_func ?_⟩;obtain⟨t,ht,hq⟩:=hbody A outer s H vs Q E (hr.deeper _) hsp;have I:Inv (cxOf CX P w K mg base N qual scope f cdv A outer s H E) [] (qVh N vs) H s1:=vYs S hr.hd e0 hl r x;refine eQ (ht [] s1 (qVh N vs) H _ I hq) (fun fl s' hs=>?_) fun e s' hs=>hs
 have fin:∀{σ' :St} {H' :Hp} {v:V} {u:Value},Inv (cxOf CX P w K mg base N qual scope f cdv A outer s H E) [] σ' H' s' ->RelV v u->Q v H' ->CE outer P w H s Q u s' :=
  fun {σ' H' v u} J rv q=>⟨v,H',J.os,J.bare,J.base,J.hok,rv,q⟩
 cases fl with
 | ret u=>
   obtain⟨v,σ',H',J,rv,q⟩:=hs;exact fin J rv q
 | next=>
   obtain⟨σ',H',J,q⟩:=hs;exact fin (v:=V.non) (u:=Value.none) J rfl q
 | brk=>
   obtain⟨_,_,_,q⟩:=hs;exact False.elim q
 | cont=>
   obtain⟨_,_,_,q⟩:=hs;exact False.elim q
section
variable{X:Cx}{x:Str}{p pos:Pos}{e:Expr}{es:List Expr}{t:TA}{id T:String}{r:List V->Hp->VK->Prop}
noncomputable def tCB(r:List V->Hp->VK->Prop)(t:TA):TE:=fun σ H Q=>t σ H fun vs H1=>r vs H1 Q
theorem qX9(hc:zL X (.builtin id) r)(hg:Gl X x)(hm:X.mg x=none)(hv:cC x=some (.builtin id))(ha:PA X (e::es) t)(hn:x≠"__name__":=by decide)(hdb:(x == ("__debug__":Str))=false:=by decide)(he:aY (e::es) X.env=(false,eval e X.env)::aY es X.env:=by rfl)(hpl:(cV pos (aY es X.env)).any (·.1)=false:=by rfl):PE X (.Call (.Name x p) (e::es) [] pos) (tCB r t):=by
 intro pins s σ H Q I h;refine eV (qZ8 I hg hm hv ?_ hn hdb);exact PyProof.Rows.callWith_builtin1 (thn (ha pos pins s σ H _ I h) fun us s1 ⟨vs,H1,I1,r1,q1⟩=>hc pins s1 σ H1 vs us Q I1 r1 q1) he hpl
theorem qZl(hc:zL X (.type T) r)(hg:Gl X x)(hm:X.mg x=none)(hv:cC x=some (.type T))(ha:PA X (e::es) t)(hn:x≠"__name__":=by decide)(hdb:(x == ("__debug__":Str))=false:=by decide)(he:aY (e::es) X.env=(false,eval e X.env)::aY es X.env:=by rfl)(hpl:(cV pos (aY es X.env)).any (·.1)=false:=by rfl):PE X (.Call (.Name x p) (e::es) [] pos) (tCB r t):=by
 intro pins s σ H Q I h;refine eV (qZ8 I hg hm hv ?_ hn hdb);exact cH (thn (ha pos pins s σ H _ I h) fun us s1 ⟨vs,H1,I1,r1,q1⟩=>hc pins s1 σ H1 vs us Q I1 r1 q1) he hpl
end
end L2
namespace HT
open PySem PyProof.Rows
section
variable{prog:aT}{w:bY}{A:bR}{E:Value->aJ->Prop}{s:aJ}
noncomputable def sIx(n d:Nat):Option Int->Nat
 |none=>d
 |some v=>if v<0 then(v+(n:Int)).toNat else min v.toNat n
theorem zJj(n d k:Nat):sIx n d (some (k:Int))=min k n:=by
 show(if(k:Int)<0 then((k:Int)+(n:Int)).toNat else min (k:Int).toNat n)=min k n;rw[if_neg (by omega),eZ]
end
end HT
namespace L2
open PySem PySem.Spec PyProof.Rows
variable{n j t':Nat}{i:Int}{α:Type}{v u:Value}{pins:List (aZ×Obj)}{σ:St}{H:Hp}{p:aZ}{its its':List Value}{A:bR}{y:V}
noncomputable abbrev TO:=St->Hp->(Option Int->Hp->Prop)->Prop
noncomputable def PO(X:Cx)(e:Option Expr)(t:TO):Prop:=
 ∀(pins:List (aZ×Obj)) (s:aJ) (σ:St) (H:Hp) (Q:Option Int->Hp->Prop),Inv X pins σ H s->t σ H Q->
  aI (model X.prog X.w) X.A (evalPart e X.env) (fun u s' =>∃o H',Inv X pins σ H' s' /\IsPart u o/\Q o H') X.xe s
noncomputable def tNoPart:TO:=fun _ H Q=>Q none H
noncomputable def jQo(t:TE):TO:=fun σ H Q=>t σ H fun x H1=>∃i,x=.int i/\Q (some i) H1
theorem qYo{ns:List Int}:∀{us:List Value},Vals (ns.map V.int) us->IntsAre us ns:=by
 induction ns with
 |nil=>intro us r;cases r;exact .nil
 | cons n ns ih=>
   intro us r;cases r with
   | cons r1 r2=>
     obtain⟨t,e⟩:=r1;subst e;exact .cons n t (ih r2)
section
variable{X:Cx}{e:Expr}{te:TE}{lo hi:Option Expr}{tl th:TO}{pos p2:Pos}
theorem zJz:PO X none tNoPart:=by
 intro pins s σ H Q I h;exact aP ⟨none,H,I,.none,h⟩
theorem zJy(h:PE X e te):PO X (some e) (jQo te):=by
 intro pins s σ H Q I hw;refine thn (h pins s σ H _ I hw) fun u s1 ⟨x,H1,I1,r1,q1⟩=>?_
 obtain⟨i,rfl,q⟩:=q1;obtain⟨t,rfl⟩:=r1;exact⟨some i,H1,I1,.int i t,q⟩
noncomputable def SlR(X:Cx)(r:V->Option Int->Option Int->Hp->VK->Prop):Prop:=
 ∀(pins:List (aZ×Obj)) (s:aJ) (σ:St) (H:Hp) (x:V) (v vl vu:Value) (lo hi:Option Int) (sl:aZ) (Q:VK),Inv X pins σ H s->RelV x v->s.heap.IsSliceOf sl vl vu .none ->IsPart vl lo->IsPart vu hi->r x lo hi H Q->
  ∃T id,typeLookup (.type T) "__getitem__"=pure (some (.builtin id))/\s.TypeIs v T/\aI (model X.prog X.w) X.A (getItem v (.ref sl)) (EP X pins σ Q) X.xe s
noncomputable def tSl(r:V->Option Int->Option Int->Hp->VK->Prop)(te:TE)(tl th:TO):TE:=fun σ H Q=>te σ H fun x H1=>tl σ H1 fun l H2=>th σ H2 fun u H3=>r x l u H3 Q
theorem zVn{r:V->Option Int->Option Int->Hp->VK->Prop}(hr:SlR X r)(he:PE X e te)(hl:PO X lo tl)(hu:PO X hi th):PE X (.Subscript e (.Slice lo hi none p2) pos) (tSl r te tl th):=by
 intro pins s σ H Q I h;refine Subscript_ (thn (he pins s σ H _ I h) fun v s1 ⟨x,H1,I1,r1,q1⟩=>?_);refine wpAny_Slice (thn (hl pins s1 σ H1 _ I1 q1) fun vl s2 ⟨l,H2,I2,pl,q2⟩=>thn (hu pins s2 σ H2 _ I2 q2) fun vu s3 ⟨u,H3,I3,pu,q3⟩=>?_);rw[evalPart_none];refine aP ?_
 have I4:Inv X pins σ H3 {s3 with heap:=s3.heap.push {cls:=.type "slice",data:=.fields #[vl,vu,.none]}}:=I3.kept (t' :=s3.toks) fun b ob q=>aX _ q
 obtain⟨T,id,hT,ht,hg⟩:=hr pins {s3 with heap:=s3.heap.push {cls:=.type "slice",data:=.fields #[vl,vu,.none]}} σ H3 x v vl vu l u s3.heap.objs.size Q I4 r1 (Heap.IsSliceOf.new ..) pl pu q3;show aI (model X.prog X.w) X.A (subscriptTail e (.Slice lo hi none p2) v (.ref s3.heap.objs.size)) (EP X pins σ Q) X.xe {s3 with heap:=s3.heap.push {cls:=.type "slice",data:=.fields #[vl,vu,.none]}};exact tail_any (ops:=[.ref s3.heap.objs.size,v]) ht hT hg (by with_unfolding_all rfl)
noncomputable def cutV(xs:List V)(lo hi:Option Int):List V:=(xs.drop (HT.sIx xs.length 0 lo)).take (HT.sIx xs.length xs.length hi - HT.sIx xs.length 0 lo)
theorem vZy(xs:List V)(lo hi:Option Int):(cutV xs lo hi).length <=xs.length:=by
 unfold cutV;rw[List.length_take,List.length_drop];omega
end
noncomputable def ixN(n:Nat)(i:Int):Option Nat:=if 0<=i then(if i<n then some i.toNat else none) else if -(n:Int)<=i then some (i+n).toNat else none
noncomputable def atI{α:Type}(xs:List α)(i:Int):Option α:=(ixN xs.length i).bind fun j=>xs[j]?
theorem vQr(h:ixN n i=some j):seqIndex? i n=some j/\j<n/\ -(n:Int)<=i/\i<n:=by
 unfold ixN at h;by_cases h0:0<=i
 ·rw [if_pos h0] at h;by_cases h1:i<n
  ·rw [if_pos h1] at h;have e:i.toNat=j:=Option.some.inj h;exact⟨by rw[seqIndex_of h0 h1,e],by omega,by omega,h1⟩
  ·rw[if_neg h1]at h;cases h
 ·rw [if_neg h0] at h;by_cases h1: -(n:Int)<=i
  ·rw [if_pos h1] at h;have e:(i+n).toNat =j:=Option.some.inj h;exact⟨by rw[seqIndex_neg (by omega) h1,e],by omega,h1,by omega⟩
  ·rw[if_neg h1]at h;cases h
theorem vQy{xs:List α}{v:α}(h:atI xs i=some v):∃j,seqIndex? i xs.length=some j/\xs[j]?=some v/\j<xs.length/\ -(xs.length:Int)<=i/\i<xs.length:=by
 unfold atI at h;cases e:ixN xs.length i with
 |none=>rw[e]at h;cases h
 | some j=>
   rw[e]at h;obtain⟨h1,h2,h3,h4⟩:=vQr e;exact⟨j,h1,h,h2,h3,h4⟩
theorem vXs{xs:List α}{v:α}(h:xs[j]?=some v):atI xs (j:Int)=some v:=by
 have hj:j<xs.length:=(aL.mp h).1;have e:ixN xs.length (j:Int)=some j:=by
  unfold ixN;rw[if_pos (by omega),if_pos (by omega)];simp
 unfold atI;rw[e];exact h
noncomputable def qXm(b:Expr):Prop:=∀o i,subscripted b false o i=operate [o,i] (getItem o i)
noncomputable def IxR(X:Cx)(r:R2):Prop:=
 ∀(value slice:Expr) (pins:List (aZ×Obj)) (s:aJ) (σ:St) (H:Hp) (x y:V) (v u:Value) (Q:VK),Inv X pins σ H s->RelV x v->RelV y u->r x y H Q->
  subscripted slice false v u=operate [v,u] (getItem v u)->aI (model X.prog X.w) X.A (subscriptTail value slice v u) (EP X pins σ Q) X.xe s
noncomputable def MtR(X:Cx)(id:String)(r:V->List V->Hp->VK->Prop):Prop:=
 ∀(pins:List (aZ×Obj)) (s:aJ) (σ:St) (H:Hp) (x:V) (xs:List V) (v:Value) (us:List Value) (Q:VK),Inv X pins σ H s->RelV x v->Vals xs us->r x xs H Q->
  aI (model X.prog X.w) X.A (call (.builtin id) (v::us)) (EP X pins σ Q) X.xe s
section
variable{X:Cx}{a b:Expr}{ta tb:TE}{pos:Pos}
theorem IxR.or{r r' :R2}(h:IxR X r)(h' :IxR X r'):IxR X (fun x y H Q=>r x y H Q\/r' x y H Q):=by
 intro value slice pins s σ H x y v u Q I rx ry q hs;rcases q with q|q
 ·exact h value slice pins s σ H x y v u Q I rx ry q hs
 ·exact h' value slice pins s σ H x y v u Q I rx ry q hs
theorem jQ0{r:R2}(hr:IxR X r)(ha:PE X a ta)(hb:PE X b tb)(hs:qXm b):PE X (.Subscript a b pos) (tOp r ta tb):=by
 intro pins s σ H Q I h;exact Subscript_ (binT ha hb I h fun v u s2 x y H2 I2 rx ry q=>hr a b pins s2 σ H2 x y v u Q I2 rx ry q (hs _ _))
noncomputable def rIxL(K:aQ):R2:=fun x y H Q=>∃p xs i v,x=.ref p/\y=.int i/\SqL K H p xs/\atI xs i=some v/\Q v H
noncomputable def rIxT(K:aQ):R2:=fun x y H Q=>∃p xs i v,x=.ref p/\y=.int i/\SqT K H p xs/\atI xs i=some v/\Q v H
noncomputable def rIxS:R2:=fun x y H Q=>∃z i c,x=.str z/\y=.int i/\z.length<=aA/\atI z.cps.toList i=some c/\Q (.str ⟨#[c]⟩) H
theorem zWr:IxR X (rIxL X.K):=by
 intro value slice pins s σ H x y v u Q I rx ry h hs;obtain⟨p,xs,i,z,rfl,rfl,hq,he,q⟩:=h;cases rx;obtain⟨t,rfl⟩:=ry;obtain⟨its,r,pl,hz⟩:=I.list hq;obtain⟨j,h1,h2,h3,h4,h5⟩:=vQy he;obtain⟨w,ew,rw'⟩:=r.get h2;have hl:=r.length;have hn:=qJ7;have fin:EP X pins σ Q w s:=⟨z,H,I,rw',q⟩
 by_cases h0:0<=i
 ·have hj:i.toNat=j:=by
   rw[seqIndex_of h0 h5]at h1;exact Option.some.inj h1
  exact item_listR pl.isList h0 (by omega) (by rw[hj];simpa using ew) fin hs
 ·have hj:(i+(its.toArray.size:Int)).toNat =j:=by
   rw[seqIndex_neg (by omega) h4]at h1;rw[aH,←hl];exact Option.some.inj h1
  exact subscriptTail_builtinR (x:=w) pl.isList.typeIs slot_list_getitem.lookup
   (wpAny_getItem_list_neg (Q:=fun r s' =>r=w/\EP X pins σ Q r s') pl.isList (by omega) (by rw[aH] <;> omega) (by omega) (by rw[hj];simpa using ew) ⟨rfl,fin⟩) hs
theorem zKt:IxR X (rIxT X.K):=by
 intro value slice pins s σ H x y v u Q I rx ry h hs;obtain⟨p,xs,i,z,rfl,rfl,hq,he,q⟩:=h;cases rx;obtain⟨t,rfl⟩:=ry;obtain⟨its,r,pl,hz⟩:=I.tuple hq;obtain⟨j,h1,h2,h3,h4,h5⟩:=vQy he;obtain⟨w,ew,rw'⟩:=r.get h2;have hl:=r.length;have hn:=qJ7;have fin:EP X pins σ Q w s:=⟨z,H,I,rw',q⟩
 exact subscriptTail_builtinR (x:=w) pl.typeIs slot_tuple_getitem.lookup
  (getItem_tuple (j:=j) (Q:=fun r s' =>r=w/\EP X pins σ Q r s') pl (by omega) (by omega) (by rw[aH,←hl];exact h1) (by simpa using ew) ⟨rfl,fin⟩) hs
theorem zKu:IxR X rIxS:=by
 intro value slice pins s σ H x y v u Q I rx ry h hs;obtain⟨z,i,c,rfl,rfl,hz,he,q⟩:=h;obtain⟨t,rfl⟩:=rx;obtain⟨t',rfl⟩:=ry;obtain⟨j,h1,h2,h3,h4,h5⟩:=vQy he;have hl:z.cps.toList.length=z.length:=by simp[Str.length]
 rw[hl]at h1 h4 h5;have hn:=qJ7;exact tail_any (typeIs_str s z t) slot_str_getitem.lookup (getItem_str (c:=c) (by
  have e1:decide (i < -(2 ^ 63:Int))=false:=decide_eq_false (by omega);have e2:decide (i≥2 ^ 63)=false:=decide_eq_false (by omega);rw[e1,e2,Bool.or_false]) (by rw[h1];simpa using h2) ⟨.str ⟨#[c]⟩,H,I.tok _,⟨_,rfl⟩,q⟩) hs
noncomputable def rIx(K:aQ):R2:=fun x y H Q=>rIxL K x y H Q\/rIxT K x y H Q\/rIxS x y H Q
theorem zKv:IxR X (rIx X.K):=zWr.or (zKt.or zKu)
theorem vJr(its:List Value)(n j:Nat)(u:Value):Obj.mapSeq (·.setIfInBounds j u) {cls:=.type "list",data:=.seq its.toArray n}={cls:=.type "list",data:=.seq (its.set j u).toArray n}:=by
 simp[Obj.mapSeq]
theorem Inv.lst{s:aJ}{xs:List V}(I:Inv X pins σ H s)(h:H p=some (.lst xs)):
  ∃(its:List Value) (n:Nat),Vals xs its/\s.heap.get? p=some {cls:=.type "list",data:=.seq its.toArray n}/\xs.length<=aA:=by
 obtain⟨z,its,n,r,e⟩:=I.hok p _ h;exact⟨its,n,r,e,z⟩
theorem Inv.lstUpd{s:aJ}{xs ys:List V}{n':Nat}{f:Obj->Obj}(I:Inv X pins σ H s)(h:H p=some (.lst xs))(ho:s.heap.get? p=some {cls:=.type "list",data:=.seq its.toArray n})(hf:f {cls:=.type "list",data:=.seq its.toArray n}={cls:=.type "list",data:=.seq its'.toArray n' })(r:Vals ys its')(hz:ys.length<=aA)(t:Nat):
  Inv X pins σ (upd H p (.lst ys)) {s with heap:=s.heap.update p f,toks:=t}:=by
 have e:(s.heap.update p f).get? p=some {cls:=.type "list",data:=.seq its'.toArray n' }:=by
  rw[dA f ho (by rw[hf] <;> rfl),hf]
 refine I.write (x:=p) (e:=p) (by rw[h];trivial) (.inl rfl) (fun b u hb q=>(dN _ _ (Ne.symm hb)).trans q) ⟨_,e⟩ ?_
 exact⟨hz,its',n',r,e⟩
noncomputable def rSetL:V->V->V->Hp->(Hp->Prop)->Prop:=fun o i v H Q=>∃p xs k j,o=.ref p/\i=.int k/\H p=some (.lst xs)/\ixN xs.length k=some j/\Q (upd H p (.lst (xs.set j v)))
theorem zQ9:PSet X rSetL:=by
 intro pins s σ H o i v ov iv u Q I ro ri rv h;obtain⟨p,xs,k,j,rfl,rfl,hp,hj,q⟩:=h;cases ro;obtain⟨t,rfl⟩:=ri;obtain⟨its,n,r,ho,hz⟩:=I.lst hp;obtain⟨h1,h2,h3,h4⟩:=vQr hj;have hl:=r.length;have hn:=qJ7;have I' :Inv X pins σ (upd H p (.lst (xs.set j v))) {s with heap:=s.heap.update p (Obj.mapSeq (·.setIfInBounds j u))}:=
  I.lstUpd hp ho (vJr its n j u) (r.set rv j) (by rw[cQ];exact hz) s.toks
 by_cases h0:0<=k
 ·have hk:k.toNat=j:=by
   rw[seqIndex_of h0 h4]at h1;exact Option.some.inj h1
  exact PySem.W.ki_setAt ho h0 (by omega) (by rw[aH,←hl];exact h4) (by rw[hk];exact⟨_,I',q⟩)
 ·have hk:(k+(its.toArray.size:Int)).toNat =j:=by
   rw[seqIndex_neg (by omega) h3]at h1;rw[aH,←hl];exact Option.some.inj h1
  exact PySem.W.ki_setBack ho (by omega) (by rw[aH,←hl];exact h3) (by omega) (by rw[hk];exact⟨_,I',q⟩)
theorem vQ3(lo hi:Option Int)(n:Nat):(sliceBounds lo hi none n).1=((HT.sIx n 0 lo:Nat):Int)/\(sliceBounds lo hi none n).2.1=((HT.sIx n n hi:Nat):Int)/\(sliceBounds lo hi none n).2.2=1:=by
 refine⟨?_,?_,rfl⟩
 ·cases lo with
  |none=>simp[sliceBounds,HT.sIx]
  | some i=>
    simp only[sliceBounds,HT.sIx,Option.getD_none,if_true];grind
 ·cases hi with
  |none=>simp[sliceBounds,HT.sIx]
  | some i=>
    simp only[sliceBounds,HT.sIx,Option.getD_none,if_true];grind
theorem qY0(its:List Value)(lo hi:Option Int):slicePick its.toArray lo hi none=((its.drop (HT.sIx its.length 0 lo)).take (HT.sIx its.length its.length hi - HT.sIx its.length 0 lo)).toArray :=by
 obtain⟨h1,h2,h3⟩:=vQ3 lo hi its.toArray.size;unfold slicePick;rw[h1,h2,h3];simp only[sliceRange_one,pick_run] <;> rfl
noncomputable def rSlL(K:aQ):V->Option Int->Option Int->Hp->VK->Prop:=fun x lo hi H Q=>∃a xs,x=.ref a/\SqL K H a xs/\∀p,H p=none->Q (.ref p) (upd H p (.lst (cutV xs lo hi)))
theorem zJb:SlR X (rSlL X.K):=by
 intro pins s σ H x v vl vu lo hi sl Q I rx hs pl pu h;obtain⟨a,xs,rfl,hx,q⟩:=h;cases rx;obtain⟨its,r,ht,hz⟩:=I.list hx;have hlen:=r.length;refine⟨"list",_,slot_list_getitem.lookup,ht.isList.typeIs,?_⟩;refine wpAny_getItem_list_slice ht.isList hs pl pu .none (by simp) ?_ (by rw[aH] <;> omega)
 rw[qY0,←hlen];refine⟨.ref s.heap.objs.size,_,I.laid (t' :=s.toks) (o:=.lst (cutV xs lo hi)) (fun b ob q=>aX _ q) (aB _) ?_,rfl,q _ (I.hok.fresh (aB _))⟩;exact⟨aM (vZy xs lo hi) hz,_,0,(r.drop (HT.sIx xs.length 0 lo)).take (HT.sIx xs.length xs.length hi - HT.sIx xs.length 0 lo),aC _ rfl⟩
noncomputable def qZv:V->Bool
 |.non =>true
 |.bl _=>true
 |.int _=>true
 |.str _=>true
 |_=>false
noncomputable def eqV:V->V->Bool
 |.non,.non =>true
 |.bl a,.bl b=>a == b
 |.bl a,.int b=>(if a then 1 else 0) == b
 |.int a,.bl b=>a == (if b then 1 else 0)
 |.int a,.int b=>a == b
 |.str a,.str b=>a == b
 |_,_=>false
theorem jQc{s:aJ}{x:V}(ry:RelV y u)(rx:RelV x v)(fy:qZv y=true)(fx:qZv x=true):SeqAt.EqAt A s u v (eqV y x):=by
 cases y with
 | non=>
   cases ry;cases x with
   |non=>cases rx;exact SeqAt.EqAt.same _
   |bl b=>cases rx;exact SeqAt.EqAt.none_bool b
   |int b=>obtain⟨t,rfl⟩:=rx;exact SeqAt.EqAt.none_int b t
   |str b=>obtain⟨t,rfl⟩:=rx;exact SeqAt.EqAt.none_str b t
   |_=>exact absurd (show false=true from fx) aR
 | bl a=>
   cases ry;cases x with
   |non=>cases rx;exact SeqAt.EqAt.bool_none a
   |bl b=>cases rx;exact SeqAt.EqAt.bool_bool a b
   |int b=>obtain⟨t,rfl⟩:=rx;exact SeqAt.EqAt.bool_int a b t
   |str b=>obtain⟨t,rfl⟩:=rx;exact SeqAt.EqAt.bool_str a b t
   |_=>exact absurd (show false=true from fx) aR
 | int a=>
   obtain⟨t',rfl⟩:=ry;cases x with
   |non=>cases rx;exact SeqAt.EqAt.int_none a t'
   |bl b=>cases rx;exact SeqAt.EqAt.int_bool a t' b
   |int b=>obtain⟨t,rfl⟩:=rx;exact SeqAt.EqAt.int_int a t' b t
   |str b=>obtain⟨t,rfl⟩:=rx;exact SeqAt.EqAt.int_str a t' b t
   |_=>exact absurd (show false=true from fx) aR
 | str a=>
   obtain⟨t',rfl⟩:=ry;cases x with
   |non=>cases rx;exact SeqAt.EqAt.str_none a t'
   |bl b=>cases rx;exact SeqAt.EqAt.str_bool a t' b
   |int b=>obtain⟨t,rfl⟩:=rx;exact SeqAt.EqAt.str_int a t' b t
   |str b=>obtain⟨t,rfl⟩:=rx;exact SeqAt.EqAt.str_str a t' b t
   |_=>exact absurd (show false=true from fx) aR
 |_=>exact absurd (show false=true from fy) aR
noncomputable def eqU(x:V)(u:Value):Bool:=match u with
 |.none =>eqV .non x
 |.bool b=>eqV (.bl b) x
 |.int i _=>eqV (.int i) x
 |.str z _=>eqV (.str z) x
 |_=>false
theorem zQt{x:V}(r:RelV y u)(f:qZv y=true):eqU x u=eqV y x:=by
 cases y with
 |non=>cases r;rfl
 |bl b=>cases r;rfl
 |int i=>obtain⟨t,rfl⟩:=r;rfl
 |str z=>obtain⟨t,rfl⟩:=r;rfl
 |_=>exact absurd (show false=true from f) aR
theorem qJr{x:V}:∀{xs:List V} {us:List Value},Vals xs us->xs.all qZv=true->us.any (eqU x)=xs.any fun y=>eqV y x
 |_,_,.nil,_=>rfl
 | y::xs,u::us, .cons r t,f=>by
   rw[dR,aD]at f;rw[dC,dC,zQt r f.1,qJr t f.2]
theorem qVu{s:aJ}{x:V}(rx:RelV x v)(fx:qZv x=true):∀{xs:List V} {us:List Value},Vals xs us->xs.all qZv=true->∀u∈us,SeqAt.EqAt A s u v (eqU x u)
 |_,_,.nil,_=>fun u hu=>by cases hu
 | y::xs,u::us, .cons r t,f=>fun u' hu=>by
   rw[dR,aD]at f;rcases aG.mp hu with rfl|hu
   ·rw[zQt r f.1];exact jQc r rx f.1 fx
   ·exact qVu rx fx t f.2 u' hu
noncomputable def inV(x:V)(xs:List V):Bool:=xs.any fun y=>eqV y x
noncomputable def rIn(K:aQ)(neg:Bool):R2:=fun x y H Q=>∃p xs,y=.ref p/\(SqL K H p xs\/SqT K H p xs)/\qZv x=true/\xs.all qZv=true/\Q (.bl (if neg then !inV x xs else inV x xs)) H
theorem vYh:OpR X (bN .In) (rIn X.K false):=by
 intro pins s σ H x y v u Q I rx ry h;obtain⟨p,xs,rfl,hq,fx,fs,q⟩:=h;cases ry;rcases hq with hq|hq
 ·obtain⟨its,r,pl,hz⟩:=I.list hq;refine SeqAt.in_listAt (eqU x) pl.isList (fun w hw=>qVu rx fx r fs w (by simpa using hw)) ⟨.bl _,H,I,rfl,?_⟩;rw[show its.toArray.any (eqU x)=its.any (eqU x) by simp,qJr r fs];exact q
 ·obtain⟨its,r,pl,hz⟩:=I.tuple hq;refine SeqAt.in_tupleAt (eqU x) pl (fun w hw=>qVu rx fx r fs w (by simpa using hw)) ⟨.bl _,H,I,rfl,?_⟩;rw[show its.toArray.any (eqU x)=its.any (eqU x) by simp,qJr r fs];exact q
theorem vVa:OpR X (bN .NotIn) (rIn X.K true):=by
 intro pins s σ H x y v u Q I rx ry h;obtain⟨p,xs,rfl,hq,fx,fs,q⟩:=h;cases ry;rcases hq with hq|hq
 ·obtain⟨its,r,pl,hz⟩:=I.list hq;refine SeqAt.notIn_listAt (eqU x) pl.isList (fun w hw=>qVu rx fx r fs w (by simpa using hw)) ⟨.bl _,H,I,rfl,?_⟩;rw[show its.toArray.any (eqU x)=its.any (eqU x) by simp,qJr r fs];exact q
 ·obtain⟨its,r,pl,hz⟩:=I.tuple hq;refine SeqAt.notIn_tupleAt (eqU x) pl (fun w hw=>qVu rx fx r fs w (by simpa using hw)) ⟨.bl _,H,I,rfl,?_⟩;rw[show its.toArray.any (eqU x)=its.any (eqU x) by simp,qJr r fs];exact q
theorem vVi:zL X (.builtin "len") (fun xs H Q=>∃p ys,xs=[.ref p]/\(SqL X.K H p ys\/SqT X.K H p ys)/\Q (.int ys.length) H):=by
 intro pins s σ H xs us Q I r h;obtain⟨p,ys,rfl,hq,q⟩:=h;obtain⟨u,rfl,rx⟩:=qVb r;cases rx;have hn:=qJ7;rcases hq with hq|hq
 ·obtain⟨its,r',pl,hz⟩:=I.list hq;have hlen:=r'.length;exact Calls.call_len_list pl.isList (by simp only[aH] <;> omega) ⟨.int ys.length,H,I.tok _,⟨s.toks+1,by rw[aH,hlen]⟩,q⟩
 ·obtain⟨its,r',pl,hz⟩:=I.tuple hq;have hlen:=r'.length;exact len_tuple pl (by simp only[aH] <;> omega) ⟨.int ys.length,H,I.tok _,⟨s.toks+1,by rw[aH,hlen]⟩,q⟩
theorem vVh:zL X (.builtin "len") (fun xs H Q=>∃z,xs=[.str z]/\z.length<=aA/\Q (.int z.length) H):=by
 intro pins s σ H xs us Q I r h;obtain⟨z,rfl,hz,q⟩:=h;obtain⟨u,rfl,t,rfl⟩:=qVb r;have hn:=qJ7;exact len_str (by omega) ⟨.int z.length,H,I.tok _,⟨_,rfl⟩,q⟩
theorem zL.or{f:Value}{r r' :List V->Hp->VK->Prop}(h:zL X f r)(h' :zL X f r'):zL X f (fun xs H Q=>r xs H Q\/r' xs H Q):=by
 intro pins s σ H xs us Q I rs q;rcases q with q|q
 ·exact h pins s σ H xs us Q I rs q
 ·exact h' pins s σ H xs us Q I rs q
theorem vVg:zL X (.type "list") (fun xs H Q=>∃p ys,xs=[.ref p]/\(SqL X.K H p ys\/SqT X.K H p ys)/\∀l,H l=none->Q (.ref l) (upd H l (.lst ys))):=by
 intro pins s σ H xs us Q I r h;obtain⟨p,ys,rfl,hq,q⟩:=h;obtain⟨u,rfl,rx⟩:=qVb r;cases rx
 have fin:∀(its:List Value),Vals ys its->ys.length<=aA->∀(h' :Heap) (c' :Nat),(∀b o',s.heap.get? b=some o' ->h'.get? b=some o')->
   h'.get? s.heap.objs.size=some {cls:=.type "list",dict:=none,data:=.seq its.toArray c',slots:=#[]}->EP X pins σ Q (.ref s.heap.objs.size) {s with heap:=h' }:=fun its r' hz h' c' kp e=>
  ⟨.ref s.heap.objs.size,_,I.laid (t' :=s.toks) kp (aB _) (show vS X.prog X.w _ h' _ (.lst ys) from⟨hz,its,c',r',e⟩),rfl,q _ (I.hok.fresh (aB _))⟩
 rcases hq with hq|hq
 ·obtain⟨its,r',pl,hz⟩:=I.list hq;have hlen:=r'.length;obtain⟨o,ho,hc,n,hd⟩:=pl.isList;exact call_list_seq p (.inl rfl) ho hc hd (fun h' c' kp e=>fin its r' hz h' c' kp e) (by simp only[aH] <;> omega)
 ·obtain⟨its,r',pl,hz⟩:=I.tuple hq;have hlen:=r'.length;obtain⟨o,ho,hc,n,hd⟩:=pl;exact call_list_seq p (.inr rfl) ho hc hd (fun h' c' kp e=>fin its r' hz h' c' kp e) (by simp only[aH] <;> omega)
theorem qY9:zL X (.type "tuple") (fun xs H Q=>∃p ys,xs=[.ref p]/\((SqL X.K H p ys/\∀l,H l=none->Q (.ref l) (upd H l (.tup ys)))\/(SqT X.K H p ys/\Q (.ref p) H))):=by
 intro pins s σ H xs us Q I r h;obtain⟨p,ys,rfl,h⟩:=h;obtain⟨u,rfl,rx⟩:=qVb r;cases rx;rcases h with⟨hq,q⟩|⟨hq,q⟩
 ·obtain⟨its,r',pl,hz⟩:=I.list hq;have hlen:=r'.length;refine call_tuple_list pl.isList (fun h' kp=>?_) (by simp only[aH] <;> omega);have I1:Inv X pins σ H {s with heap:=h' }:=I.kept (t' :=s.toks) kp;have I2:Inv X pins σ (upd H h'.objs.size (.tup ys)) {s with heap:=h'.push {cls:=.type "tuple",data:=.seq its.toArray}}:=
   I1.laid (t' :=s.toks) (fun b o e=>aX _ e) (aB _) (show vS X.prog X.w _ _ _ (.tup ys) from⟨hz,its,r',IsTup.new _ _⟩)
  exact⟨.ref h'.objs.size,_,I2,rfl,q _ (I1.hok.fresh (aB _))⟩
 ·obtain⟨its,r',pl,hz⟩:=I.tuple hq;exact call_tuple_same pl ⟨.ref p,H,I,rfl,q⟩
noncomputable def tyV(K:aQ)(T:String)(x:V)(H:Hp):Prop:=match x with
 |.str _=>T="str"
 |.int _=>T="int"
 | .ref p=>(T="list"/\∃xs,SqL K H p xs)\/(T="tuple"/\∃o,K.lookup p=some o/\o.cls= .type "tuple"/\o.dict=none)\/
   (T="dict"/\((∃kvs,H p=some (.dK kvs))\/∃kvs,H p=some (.dT kvs)))\/(T="set"/\∃S n,H p=some (.set S n))
 |_=>False
theorem vK0{s:aJ}{T:String}{x:V}(I:Inv X pins σ H s)(r:RelV x v)(ty:tyV X.K T x H):
  s.TypeIs v T/\∀a,v=.ref a->∃ob,s.heap.get? a=some ob/\ob.dict=none:=by
 cases x with
 | str z=>
   obtain⟨t,rfl⟩:=r;cases(show T="str" from ty);exact⟨typeIs_str s z t,fun _ e=>nomatch e⟩
 | int i=>
   obtain⟨t,rfl⟩:=r;cases(show T="int" from ty);exact⟨typeIs_int s i t,fun _ e=>nomatch e⟩
 | ref p=>
   cases r;rcases ty with⟨rfl,xs,hq⟩|⟨rfl,o,hk,hc,hd⟩|⟨rfl,hk⟩|⟨rfl,S,n,hk⟩
   ·obtain⟨its,_,pl,_⟩:=I.list hq;refine⟨pl.isList.typeIs,fun a e=>?_⟩;cases e;obtain⟨o,n,e,c,hd,_⟩:=pl;exact⟨o,e,hd⟩
   ·refine⟨⟨o,I.kIn p o hk,hc⟩,fun a e=>?_⟩;cases e;exact⟨o,I.kIn _ o hk,hd⟩
   ·have z:∃o,s.heap.get? p=some o/\o.ExactDict:=by
     rcases hk with⟨kvs,hk⟩|⟨kvs,hk⟩
     ·obtain⟨_,_,_,_,o,_,_,e,ex,_⟩:=I.hok p _ hk;exact⟨o,e,ex⟩
     ·obtain⟨_,_,_,_,o,_,_,e,ex,_⟩:=I.hok p _ hk;exact⟨o,e,ex⟩
    obtain⟨o,e,ex⟩:=z;refine⟨⟨o,e,ex.1⟩,fun a e2=>?_⟩;cases e2;exact⟨o,e,ex.2.1⟩
   ·obtain⟨o,_,_,_,e,ex,_⟩:=I.hok p _ hk;refine⟨⟨o,e,ex.1⟩,fun a e2=>?_⟩;cases e2;exact⟨o,e,ex.2.1⟩
 |_=>exact False.elim ty
noncomputable def tBM0(K:aQ)(T:String)(r:V->List V->Hp->VK->Prop)(to:TE):TE:=fun σ H Q=>to σ H fun x H1=>tyV K T x H1/\r x [] H1 Q
noncomputable def tBM(K:aQ)(T:String)(r:V->List V->Hp->VK->Prop)(to:TE)(t:TA):TE:=fun σ H Q=>to σ H fun x H1=>tyV K T x H1/\t σ H1 fun xs H2=>r x xs H2 Q
variable{o e:Expr}{es:List Expr}{to:TE}{t:TA}{name:Str}{apos cpos:Pos}{T id:String}{r:V->List V->Hp->VK->Prop}
theorem zY7(pa:PlainAttrs T)(slot:Slot T name id)(hty:typeOf (.builtin id)=pure (.type "method_descriptor"))(hm:MtR X id r)(ho:PE X o to)(hbase:attributeBase o name X.env (eval o X.env)=eval o X.env:=by rfl)(hline:(apos.endLine == cpos.line)=true:=by rfl):PE X (.Call (.Attribute o name apos) [] [] cpos) (tBM0 X.K T r to):=by
 intro pins s σ H Q I h;refine wpAny_Call_method0_late hbase hline (thn (ho pins s σ H _ I h) fun v s1 ⟨x,H1,I1,r1,ty,q1⟩=>?_);obtain⟨h1,h2⟩:=vK0 I1 r1 ty;exact⟨T,id,pa,slot,hty,h1,h2,Calls.callWith_builtin rfl (PySem.evalArgs_none (hm pins s1 σ H1 x [] v [] Q I1 r1 .nil q1))⟩
theorem vKs(pa:PlainAttrs T)(slot:Slot T name id)(hty:typeOf (.builtin id)=pure (.type "method_descriptor"))(hm:MtR X id r)(ho:PE X o to)(ha:PA X (e::es) t)(hbase:attributeBase o name X.env (eval o X.env)=eval o X.env:=by rfl)(hfew:((cV cpos (aY (e::es) X.env)).all (fun x=>!x.1) && (backToKw cpos (keywordEach [] X.env)).all (fun x=>x.1.isSome)
   && decide ((e::es).length+([]:List Keyword).length+(if([]:List Keyword).isEmpty then 0 else 1)<30))=true:=by rfl)(hline:(apos.endLine == cpos.line)=true:=by rfl)(hs:aY (e::es) X.env=(false,eval e X.env)::aY es X.env:=by rfl)(hplain:(cV cpos (aY es X.env)).any (·.1)=false:=by rfl):
  PE X (.Call (.Attribute o name apos) (e::es) [] cpos) (tBM X.K T r to t):=by
 intro pins s σ H Q I h;refine wpAny_Call_method_late hbase hfew hline rfl (thn (ho pins s σ H _ I h) fun v s1 ⟨x,H1,I1,r1,ty,q1⟩=>?_);obtain⟨h1,h2⟩:=vK0 I1 r1 ty;refine⟨T,id,pa,slot,hty,h1,h2,?_⟩;have hA:=ha cpos pins s1 σ H1 _ I1 q1;rw[hs]at hA⊢;refine Calls.callWith_builtin (by show(false || (cV cpos (aY es X.env)).any (·.1))=false;rw[hplain] <;> rfl) (Calls.evalArgs_plain ?_);exact thn hA fun us s2 ⟨vs,H2,I2,r2,q2⟩=>hm pins s2 σ H2 x vs v us Q I2 r1 r2 q2
end
noncomputable def MtM(X:Cx)(id:String)(r:V->List V->Hp->VK->Prop):Prop:=
 ∀(pins:List (aZ×Obj)) (s:aJ) (σ:St) (H:Hp) (x:V) (xs:List V) (v:Value) (us:List Value) (Q:VK),Inv X pins σ H s->RelV x v->Vals xs us->r x xs H Q->
  aI (model X.prog X.w) X.A (call (.builtin id) (v::us)) (EP X pins σ Q) X.xe s
theorem Vals.one:∀{x:V} {us:List Value},Vals [x] us->∃u,us=[u]/\RelV x u
 |_,_,.cons r .nil =>⟨_,rfl,r⟩
theorem Vals.zero:∀{us:List Value},Vals [] us->us=[]
 |_,.nil =>rfl
section
variable{X:Cx}{pins:List (aZ×Obj)}{σ:St}{H:Hp}{s:aJ}{l b:aZ}{xs ys zs:List V}
theorem Inv.lset{f:Array Value->Array Value}(I:Inv X pins σ H s)(hH:H l=some (.lst xs))(e:s.heap.get? l=some {cls:=.type "list",data:=.seq its.toArray n})(hf:f its.toArray=its'.toArray)(hv:Vals ys its')(hz:ys.length<=aA):
  Inv X pins σ (upd H l (.lst ys)) {s with heap:=s.heap.update l (Obj.mapSeq f),toks:=t' }:=by
 have q:=PySem.IsL.update e f;rw[hf]at q;refine I.write (x:=l) (e:=l) (by rw[hH];exact trivial) (.inl rfl) (fun b' u hb hu=>(dN s.heap (Obj.mapSeq f) (Ne.symm hb)).trans hu) ⟨_,q⟩ ?_
 exact⟨hz,its',_,hv,q⟩
theorem Inv.lnew(I:Inv X pins σ H s)(hv:Vals ys its)(hz:ys.length<=aA):
  Inv X pins σ (upd H s.heap.objs.size (.lst ys)) {s with heap:=s.heap.push {cls:=.type "list",data:=.seq its.toArray},toks:=t' }:=
 I.laid (fun _ _ q=>aX _ q) (aB _) ⟨hz,its,0,hv,aC _ rfl⟩
theorem Inv.fresh(I:Inv X pins σ H s):H s.heap.objs.size=none:=I.hok.fresh (aB _)
theorem Inv.lstM(I:Inv X pins σ H s)(hH:H l=some (.lst xs)):xs.length<=aA/\∃(its:List Value) (n:Nat),Vals xs its/\xs.length=its.length/\s.heap.get? l=some {cls:=.type "list",data:=.seq its.toArray n}:=by
 obtain⟨z,its,n,r,e⟩:=I.hok l _ hH;exact⟨z,its,n,r,r.length,e⟩
theorem zVz(h:n<=aA):Builtin.List.listTooLong n=false:=by
 unfold Builtin.List.listTooLong;exact decide_eq_false (by omega)
end
section
variable{X:Cx}
noncomputable def rAppend:V->List V->Hp->VK->Prop:=fun x vs H Q=>∃l xs y,x=.ref l/\vs=[y]/\H l=some (.lst xs)/\xs.length<aA/\Q .non (upd H l (.lst (xs ++ [y])))
theorem qWl:MtM X "list.append" rAppend:=by
 intro pins s σ H x vs v us Q I rx rv h;obtain⟨l,xs,y,rfl,rfl,hH,hz,q⟩:=h;cases rx;obtain⟨u,rfl,ru⟩:=rv.one;obtain⟨z,its,n,r,hl,e⟩:=I.lstM hH;refine call_meets F.slot_list_append ⟨_,e,rfl⟩ F.entry_list_append (F.args_list_append_2 _ _) (PySem.list_append l its.toArray n u (by rw[aH];omega)) ⟨e,?_⟩;refine⟨.non,_,I.lset (its' :=its ++ [u]) hH e (by simp) (r.append (.cons ru .nil)) ?_,rfl,q⟩;rw[aU,List.length_singleton];omega
noncomputable def rExtend:V->List V->Hp->VK->Prop:=fun x vs H Q=>∃l b xs zs,x=.ref l/\vs=[.ref b]/\H l=some (.lst xs)/\H b=some (.lst zs)/\xs.length+zs.length<=aA/\Q .non (upd H l (.lst (xs ++ zs)))
theorem vYk:MtM X "list.extend" rExtend:=by
 intro pins s σ H x vs v us Q I rx rv h;obtain⟨l,b,xs,zs,rfl,rfl,hH,hB,hz,q⟩:=h;cases rx;obtain⟨u,rfl,ru⟩:=rv.one;cases ru;obtain⟨z,its,n,r,hl,e⟩:=I.lstM hH;obtain⟨z2,its2,n2,r2,hl2,e2⟩:=I.lstM hB;have hsz:its.toArray.size+its2.toArray.size<=aA:=by rw[aH,aH];omega
 have hlong:¬(!its.toArray.isEmpty && Builtin.List.listTooLong (its.toArray.size+its2.toArray.size))=true:=by
  rw[zVz hsz,Bool.and_false];exact aR
 refine call_meets F.slot_list_extend ⟨_,e,rfl⟩ F.entry_list_extend (F.args_list_extend_2 _ _)
  (AutoSeq1.list_extend_list_list_0 l its.toArray n b its2.toArray n2 hlong (by rw[aH];omega) (by omega)) ⟨e,e2,?_⟩
 refine⟨.non,_,I.lset (its' :=its ++ its2) hH e (by simp) (r.append r2) ?_,rfl,q⟩;rw[aU];omega
end
end L2
namespace Att
open PySem PySem.W PySem.Calls PyProof.Rows
variable{P:Params}{l:OpenLaw}{n:Nat}
theorem qXb{h:Heap}:∀(ns:List Int) (vs:List Value),WellAll P h vs (ns.map WData.int)->IntsAre vs ns:=by
 intro ns;induction ns with
 | nil=>
   intro vs w;cases w;exact .nil
 | cons n ns ih=>
   intro vs w;cases w with
   | cons a b=>
     cases a;exact .cons _ _ (ih _ b)
theorem vX5(hn:l.most=some n){h:Heap}{args:List WData}{vals:List Value}(hpre:l.row.toRowW.claim.pre args=true)(hwl:WellAll P h vals args):
  ∃a vs ns,vals=[Value.ref a]/\args=[WData.list (ns.map WData.int)]/\h.get? a=some {cls:=.type "list",data:=.seq vs.toArray}/\IntsAre vs ns/\ns.length<=n:=by
 have hsh:WShape.hasAll [] args [.list .int]=true:=(pre_splitW hpre).1;have hc:l.pre.holds [] {args:=args}=true:=(pre_splitW hpre).2;obtain⟨d,r,rfl,h1,h2⟩:=hasAllW_cons hsh;obtain rfl:=hasAllW_nil h2;obtain⟨xs,rfl,h3⟩:=hasW_list h1;obtain⟨ns,rfl⟩:=items_int h3;have hlen:ns.length<=n:=by
  unfold OpenLaw.pre at hc;have h4:(WTm.not (.lt (.lit (.int (n:Int))) (.len (.arg 0)))).holds [] {args:=[.list (ns.map .int)]}=true:=by
   have h4:=(holds_andW hc).1;rw[hn]at h4;exact h4
  have h5:=condW_of h4 (w_not (w_lt w_lit (w_len_list (w_arg rfl))));rw[aW]at h5;refine Nat.le_of_not_lt fun q=>?_
  have q' :(n:Int)<((ns.length:Nat):Int):=by omega
  first
   |(rw[decide_eq_true q']at h5;exact absurd h5 (by decide))
   |(simp at h5;omega)
 cases hwl with
 | cons w1 w2=>
   cases w2;cases w1 with
   |list ho hall=>exact⟨_,_,ns,rfl,rfl,ho,qXb ns _ hall,hlen⟩
theorem vX9(l:OpenLaw)(args:List WData):l.row.toRowW.claim.post args (.bool true) args=true:=
 postW_of (r:=l.row.toRowW) (X:=(true == true))
  (show WShape.has [] (.bool true) .bool =true by first|rfl|decide|simp[WShape.has,WShape.arms,WShape.armsAll])
  (show(WTm.eq .res (.lit (.bool true))).value [] {args:=args,res:=some (.bool true),after:=args}=some (.bool (true == true)) from w_eq_bool (w_res rfl) w_lit) rfl
theorem vZ0{q:aT}{loose:List Str}{XP:(Str->Option Value)->Heap->Prop}{YP:bY->Heap->Prop}{d:DefRec}(hn:l.most=some n)(hdf:d.params.defaults=[])(call:∀(w:bY) (s₀ s₁:aJ) (mg mb:Str->Option Value) (fa:aZ) (o:Obj) (pm cd doc:Value) (a:aZ) (vs:List Value) (ns:List Int),
   Ground q loose [] XP w s₀ mg mb s₁.heap->YP w s₁.heap->
   s₁.heap.get? fa=some o->o.data=.func (docDef d.name d.params d.body d.scope pm cd doc)->s₁.heap.CodeRec cd d.name->mg d.name=some (.ref fa)->
   s₁.heap.get? a=some {cls:=.type "list",data:=.seq vs.toArray}->IntsAre vs ns->ns.length<=n->s₁.gens=#[]->
   codeAny (model l.prog w) callerA (.call (.ref fa) ⟨[.ref a],[]⟩) (fun r s' =>r=.ok (.ret (.bool true))/\OldK s₁.heap s'.heap/\s'.os=s₁.os/\AllBare s'.gens) s₁):
  WalkO q loose XP YP l.row.toRowW d [] (fun f vs=>PySem.call f vs):=by
 intro w s₀ s₁ mg mb G Y fa o pm cd doc dV kV ho hd hcd hD hmg hg args vals as hpre hlay hrd hwl hlo
 obtain rfl:dV=.none :=Dflts.none hD hdf
 obtain rfl:kV=.none :=Dflts.noKw hD
 obtain⟨a,vs,ns,rfl,rfl,hobj,hints,hlen⟩:=vX5 hn hpre hwl
 refine enter_call (codeAny_mono (call w s₀ s₁ mg mb fa o pm cd doc a vs ns G Y ho (fd_plain hd) hcd hmg hobj hints hlen hg) fun r s' hq=>?_)
 obtain⟨rfl,h2,h3,h4⟩:=hq
 exact⟨.inl ⟨.bool true,.bool true,[],rfl,fun _=>rfl,.bool true,vX9 l _,fun _=>⟨List.Pairwise.nil,fun _ hm=>(nomatch hm)⟩⟩,h2,h3,h4⟩
end Att
namespace L2
open PySem PySem.Spec PyProof.Rows
variable{P:aT}{w:bY}{K:aQ}{mg:Str->Option Value}{fd:bZ}{ns:List Int}{n t' i:Nat}{qual:Str}{f p C:aZ}{ps:List Str}{oc doc pm cdv ct:Value}{od:Option aZ}{osl:Array (Option Value)}{A:bR}{pos:Pos}{H:Hp}{X:Cx}{pins:List (aZ×Obj)}{σ:St}{fp ch:List aZ}{its its2:List Value}{vs ws:List V}{v:V}{es:List Dt}{Q:Option Value->aJ->Prop}
theorem qWd:∀{vs:List Value} {ns:List Int},IntsAre vs ns->Vals (ns.map V.int) vs
 |_,_,.nil =>.nil
 |_,_,.cons n t h=>.cons ⟨t,rfl⟩ (qWd h)
noncomputable def Only(H:Hp):Prop:=∀b,H b=none\/∃o xs,H b=some (.frz o (.lst xs))
theorem zV8{mb:Str->Option Value}{CX:CXT}{k:Nat}{fa a:aZ}{x:Str}{sp:Sp}{s₁:aJ}{vs:List Value}(KX:K.In s₁.heap)(hns:s₁.heap.Ns cZ mg)(hb:s₁.heap.Ns builtinsNs mb)(hbb:∀x:Str,x≠"__name__"->mb x=cC x)(hlim:s₁.heap.NoLimit)(hg:s₁.gens=#[])(ha:s₁.heap.get? a=some {cls:=.type "list",data:=.seq vs.toArray})(hi:IntsAre vs ns)(hl:ns.length<=aA)(hr:Room k callerA)(F:∀base:Heap,K.In base->base.Ns cZ mg->FnOk P w K mg base CX k fa fd [x] sp)(hbind:∀(s:aJ) (u:Value),BindsTo s fd ⟨[u],[]⟩ [(x,u)])(hsp:∀H:Hp,Only H->SqL K H a (ns.map V.int)->sp [.ref a] H (fun v _=>v=.bl true) fun _ _ _=>False)(hCX:∀H e s',CX [] H s₁ (fun _ _ _=>False) e s' ->False):
  codeAny (model P w) callerA (.call (.ref fa) ⟨[.ref a],[]⟩) (fun r s' =>r=.ok (.ret (.bool true))/\OldK s₁.heap s'.heap/\s'.os=s₁.os/\AllBare s'.gens) s₁:=by
 have rv:=qWd hi;have lenV:=hi.length
 have core:∀H:Hp,Only H->SqL K H a (ns.map V.int)->HOk P w H s₁.heap->(∀b,H b≠none->b=a)->(H a≠none->K.lookup a=none)->
   codeAny (model P w) callerA (.call (.ref fa) ⟨[.ref a],[]⟩) (fun r s' =>r=.ok (.ret (.bool true))/\OldK s₁.heap s'.heap/\s'.os=s₁.os/\AllBare s'.gens) s₁:=by
  intro H hO hS hok hA hK;have base_of:∀{b:aZ} {o:Obj},s₁.heap.get? b=some o->H b=none->(hidT s₁.heap H).get? b=some o:=fun e n=>zZj e n
  have noA:∀{b:aZ} {o:Obj} {es:Array DictEntry} {ep:Nat},s₁.heap.get? b=some o->o.data=.dict es ep->H b=none:=fun {b o es ep} e d=>by
   cases q:H b with
   |none=>rfl
   | some u=>
     have e' :b=a:=hA b (by rw[q];simp);subst e';rw[ha]at e;cases e;have d' :Data.seq vs.toArray _=Data.dict es ep:=d;cases d'
  have nsK:∀{b:aZ} {m:Str->Option Value},s₁.heap.Ns b m->(hidT s₁.heap H).Ns b m:=fun {b m} ⟨o,es,ep,e,d,r⟩=>⟨o,es,ep,base_of e (noA e d),d,r⟩
  have hKb:K.In (hidT s₁.heap H):=fun b o e=>base_of (KX b o e) (by
   cases q:H b with
   |none=>rfl
   | some u=>
     have e' :b=a:=hA b (by rw[q];simp);subst e';rw[hK (by rw[q];simp)]at e;cases e)
  have hM:Mod K mg (hidT s₁.heap H):=⟨hKb,nsK hns,⟨mb,nsK hb,hbb⟩,let ⟨mc,h1,h2⟩:=hlim;⟨mc,nsK h1,h2⟩⟩
  have e0:Env0 P w K mg (hidT s₁.heap H) callerA [] s₁ H:=⟨rfl,hM,fun b o e=>zWk e,Nat.le_of_eq (vYt _ _),trivial,fun b hb=>absurd (show b∈([]:List aZ) from hb) (by simp),hok,.of_eq hg⟩
  refine codeAny_mono ((F _ hKb (nsK hns)).run callerA [] s₁ H ⟨[.ref a],[]⟩ [.ref a] [.ref a] _ _ hr e0 (hbind s₁ (.ref a)) (.cons rfl .nil) (hsp H hO hS)) fun r s' h=>?_
  cases r with
  |error e=>exact(hCX H e s' h).elim
  | ok fl=>
    cases fl with
    |next=>exact False.elim h
    |brk=>exact False.elim h
    |cont=>exact False.elim h
    | ret u=>
      obtain⟨v,H',os,bare,un,hok',r',q⟩:=h;have q' :v=.bl true:=q;subst q';obtain rfl:u=Value.bool true:=r';refine⟨rfl,OldK.of_keep fun b o e=>?_,os,bare⟩;cases q:H b with
      |none=>exact un.keep b o e q (by intro z;exact absurd (show b∈([]:List aZ) from z) (by simp)) (by simp)
      | some u=>
        rcases hO b with z|⟨ob,xs,z⟩
        ·rw[q]at z;cases z
        ·have z2:=un.frzs b ob _ z;obtain⟨e1,_⟩:=hok b _ z;obtain⟨e2,_⟩:=hok' b _ z2;rw[e]at e1;cases e1;exact e2
 cases hk:K.lookup a with
 | some o=>
   have e:=KX a o hk;rw[ha]at e;cases e;refine core (fun _=>none) (fun _=>.inl rfl) (.inr ⟨_,vs.toArray,_,hk,rfl,rfl,rfl,by rw[aH,lenV];exact hl,by simpa using rv⟩) (fun b u z=>by have z' :(none:Option HO)=some u:=z;cases z') (fun b z=>absurd rfl z) fun z=>absurd rfl z
 | none=>
   refine core (fun b=>if b=a then some (.frz {cls:=.type "list",data:=.seq vs.toArray} (.lst (ns.map V.int))) else none) (fun b=>?_) (.inl (.inr ⟨{cls:=.type "list",data:=.seq vs.toArray},if_pos rfl⟩)) (fun b u z=>?_) (fun b z=>?_) fun _=>hk
   ·by_cases hb:b=a
    ·exact .inr ⟨_,_,if_pos hb⟩
    ·exact .inl (if_neg hb)
   ·by_cases hb:b=a
    ·have z' :=(if_pos hb).symm.trans z;cases z';subst hb;exact⟨ha,by rw[aW];exact hl,vs,_,rv,ha⟩
    ·have z' :=(if_neg hb).symm.trans z;cases z'
   ·by_cases hb:b=a
    ·exact hb
    ·exact absurd (if_neg hb) z
theorem zZ6{l:PySem.W.OpenLaw}{k:Nat}{q:aT}{loose:List Str}{XP:(Str->Option Value)->Heap->Prop}{YP:bY->Heap->Prop}{d:DefRec}{K:Params->aQ}{CX:bY->CXT}{sp:bY->Sp}{x:Str}(hn:l.most=some n)(hn2:n<=aA)(hdf:d.params.defaults=[])(hr:Room k callerA)(hY:∀(w:bY) (h:Heap),YP w h->(K w.params).In h)(F:∀(w:bY) (mg:Str->Option Value) (fa:aZ) (h:Heap),(K w.params).In h->h.Ns cZ mg->mg d.name=some (.ref fa)->
   ∃fd:bZ,(∀(s:aJ) (u:Value),BindsTo s fd ⟨[u],[]⟩ [(x,u)])/\
    ∀base:Heap,(K w.params).In base->base.Ns cZ mg->FnOk l.prog w (K w.params) mg base (CX w) k fa fd [x] (sp w))(hsp:∀(w:bY) (H:Hp) (a:aZ) (ns:List Int),ns.length<=n->Only H->SqL (K w.params) H a (ns.map V.int)->sp w [.ref a] H (fun v _=>v=.bl true) fun _ _ _=>False)(hCX:∀(w:bY) (H:Hp) (s:aJ) (e:Value) (s' :aJ),CX w [] H s (fun _ _ _=>False) e s' ->False):
  PySem.W.WalkO q loose XP YP l.row.toRowW d [] (fun f vs=>PySem.call f vs):=by
 refine Att.vZ0 hn hdf fun w s₀ s₁ mg mb fa o pm cd doc a vs ns G Y ho hd hcd hmg hobj hints hlen hg=>?_
 have KX:=hY w _ Y;obtain⟨fd,hb,hF⟩:=F w mg fa _ KX G.T.g hmg;exact zV8 KX G.T.g G.T.b G.T.builtins G.T.nolimit hg hobj hints (aM hlen hn2) hr hF hb (fun H hO hS=>hsp w H a ns hlen hO hS) fun H e s' =>hCX w H s₁ e s'
structure Fun(K:aQ)(x qual:Str)(st:Stmt)(f:aZ)(fd:bZ):Prop where
 ex:∃(oc:Value) (od:Option aZ) (kV doc pm:Value) (an:Option aZ) (cdv ct:Value) (osl:Array (Option Value)),
  fd=bA x qual (zS st) (zU st) (qK st) .none kV doc pm an cdv ct/\K.lookup f=some ⟨oc,od,.func fd,osl⟩/\PySem.W.codeIn K cdv qual=true
 kp:cY K (.ref f)=true
section
variable{P:aT}{w:bY}{K:aQ}{mg:Str->Option Value}{base:Heap}
theorem Fun.binds{x:Str}{st:Stmt}(F:Fun K x qual st f fd)(h:∀(kV doc pm:Value) (an:Option aZ) (cdv ct:Value) (us:List Value),us.length=ps.length->bindArgs (bA x qual (zS st) (zU st) (qK st) .none kV doc pm an cdv ct) ⟨us,[]⟩=pure (ps.zip us)):wJ K fd ps []:=by
 obtain⟨oc,od,kV,doc,pm,an,cdv,ct,osl,rfl,lk,hcd⟩:=F.ex;exact .all (h kV doc pm an cdv ct)
theorem vQb{x:Str}{st:Stmt}{an:Option aZ}{kV:Value}(l:K.lookup f=some ⟨oc,od,.func (bA x qual (zS st) (zU st) (qK st) .none kV doc pm an cdv ct),osl⟩)(c:PySem.W.codeIn K cdv qual=true)(k:cY K (.ref f)=true):Fun K x qual st f (bA x qual (zS st) (zU st) (qK st) .none kV doc pm an cdv ct):=⟨⟨oc,od,kV,doc,pm,an,cdv,ct,osl,rfl,l,c⟩,k⟩
end
theorem qVm{k:Nat}(hr:Room k A):A.units+1<cG:=Nat.lt_of_le_of_lt (Nat.add_le_add_left (by decide:1<=64) _) hr.units
theorem vX3(h:n<=1000):n<aA:=Nat.lt_of_le_of_lt h (by decide)
section
variable{X:Cx}
theorem pv(i:Nat){x:Str}(hN:X.N[i]?=some x:=by rfl)(hv:Vis X.env.scope x:=by first|exact Or.inl rfl|exact Or.inr (Or.inl rfl)|exact Or.inr (Or.inr rfl))(hd:(x == ("__debug__":Str))=false:=by decide)(hcd:(x == ("__classdict__":Str))=false:=by decide):PE X (.Name x pos) (tVar i):=zYz hN hv hd hcd
end
noncomputable def Same(H H' :Hp):Prop:=∀b o,H b=some o->H' b=some o
theorem Same.refl(H:Hp):Same H H:=fun _ _ h=>h
theorem Same.trans{H1 H2:Hp}(a:Same H H1)(b:Same H1 H2):Same H H2:=fun c o h=>b c o (a c o h)
structure FnAt(K:aQ)(mg:Str->Option Value)(x:Str)(st:Stmt)(ps:List Str)(f:aZ)(fd:bZ):Prop where
 F:Fun K x x st f fd
 b:wJ K fd ps []
 m:mg x=some (.ref f)
theorem Same.upd{o:HO}(h:H p=Option.none):Same H (upd H p o):=fun b u e=>by
 rw[vQ (v9 e h)];exact e
theorem Same.tup{H':Hp}{a:aZ}{xs:List V}(e:Same H H')(h:SqT K H a xs):SqT K H' a xs:=by
 rcases h with(h|⟨o,h⟩)|h
 ·exact .inl (.inl (e _ _ h))
 ·exact .inl (.inr ⟨o,e _ _ h⟩)
 ·exact .inr h
theorem vK1:(2:Nat)<=aA:=by decide
theorem vXb{h:Heap}{x:Str}{st:Stmt}{an:Option aZ}{kV:Value}(X:K.In h)(G:h.Ns cZ mg)(a:PySem.W.nsIn K cZ x=some (some (.ref f)))(l:K.lookup f=some ⟨oc,od,.func (bA x x (zS st) (zU st) (qK st) .none kV doc pm an cdv ct),osl⟩)(c:PySem.W.codeIn K cdv x=true)(k:cY K (.ref f)=true)(b:∀(kV doc pm:Value) (an:Option aZ) (cdv ct:Value) (us:List Value),us.length=ps.length->bindArgs (bA x x (zS st) (zU st) (qK st) .none kV doc pm an cdv ct) ⟨us,[]⟩=pure (ps.zip us)):
  FnAt K mg x st ps f (bA x x (zS st) (zU st) (qK st) .none kV doc pm an cdv ct):=
 ⟨vQb l c k,(vQb l c k).binds b,PySem.W.mg_of X G a⟩
section
variable{X:Cx}
theorem zWg:OpR X (binaryOp .Mult) (rI IntMulOk fun i j=>.int (i * j)):=opI fun _ _ _ _ _ _ _ hc q=>mul_int q hc
noncomputable def vWd(_ j:Int):Prop:=0<j/\j.natAbs.log2<9000
theorem zVy:OpR X (binaryOp .FloorDiv) (rI vWd fun i j=>.int (i / j)):=opI fun i j _ _ _ _ _ hc q=>by
 have h0:(0:Int)<j:=hc.1;refine floordiv_int (by omega) ?_ (.inl (PyProof.noPylong_of_log2 hc.2))
 rw[Int.fdiv_eq_ediv_of_nonneg _ (Int.le_of_lt h0)];exact q
noncomputable def rIsi(K:aQ):List V->Hp->VK->Prop:=fun xs H Q=>∃x n t b,xs=[x,.ty n]/\TyOf K H x t/\cX K t (.type n)=some b/\Q (.bl b) H
theorem zZ2:zL X (.builtin "isinstance") (rIsi X.K):=by
 intro pins s σ H xs us Q I r h;obtain⟨x,n,t,b,rfl,ty,e,q⟩:=h;obtain⟨u,w',rfl,r1,r2⟩:=vKi r;cases(show w' =Value.type n from r2);exact vYr I r1 ty e fun tk=>⟨.bl b,H,I.tok tk,rfl,q⟩
end
noncomputable def cCx(X:Cx)(scope:Scope)(cl:List (Str×aZ))(C:aZ)(Nc:List Str)(s:aJ)(H:Hp)(fp:List aZ):Cx where
 prog:=X.prog;w:=X.w;K:=X.K;mg:=X.mg;base:=X.base;A:=X.A;N:=Nc;s₀:=s;H₀:=H;env:=compEnvC scope cl C X.env;outer:=X.stack;stack:=X.stack;ex:=fp;fn:=fun _=>false
 calm:=X.calm;pn:=[]
 xe:=fun _ _=>False
noncomputable def PTs(X:Cx)(ifs:List Expr)(t:TT):Prop:=
 ∀(pins:List (aZ×Obj)) (s:aJ) (σ:St) (H:Hp) (Q:Bool->Hp->Prop),Inv X pins σ H s->t σ H Q->
  aI (model X.prog X.w) X.A (forIn ifs true fun c r=>if r=true then do let ok ←isTrue c X.env (eval c X.env);pure (ForInStep.yield ok) else pure (ForInStep.yield r)) (TP X pins σ Q) X.xe s
noncomputable def tTrue:TT:=fun _ H Q=>Q true H
theorem zJr:PTs X [] tTrue:=fun _ _ _ H _ I h=>wpAny_tests_nil ⟨H,I,h⟩
theorem zJq{c:Expr}{t:TT}(h:PT X c t):PTs X [c] t:=fun pins s σ H Q I q=>wpAny_tests_one (h pins s σ H Q I q)
theorem vJz{prog:aT}{R:Result->aJ->Prop}{s:aJ}{elt target iter:Expr}{ifs:List Expr}{scope:Scope}{it acc:Value}{env:Env}(I:Nat->aJ->Prop)(turn:∀n s,I n s->aI (model prog w) A (pyNext it) (fun r s₁=>match r with
   |none=>R (.ok .next) s₁
   | some v=>aI (model prog w) A (letOwnedTupleGo target it v) (fun _ s₂=>aI (model prog w) A (assign target env v) (fun _ s₃=>
     aI (model prog w) A (forIn ifs true fun c r=>if r=true then do let ok ←isTrue c env (eval c env);pure (ForInStep.yield ok) else pure (ForInStep.yield r)) (fun ok s₄=>
      if ok=true then aI (model prog w) A (eval elt env) (fun x s₅=>
       aI (model prog w) A (call (.builtin "list.append") [acc,x]) (fun _ s₆=>∃m,m<n/\I m s₆) (fun _ _=>False) s₅) (fun _ _=>False) s₄
      else∃m,m<n/\I m s₄) (fun _ _=>False) s₃) (fun _ _=>False) s₂) (fun _ _=>False) s₁) (fun _ _=>False) s)(n:Nat)(h:I n s):
  codeAny (model prog w) A (.compLoop (.ListComp elt [⟨target,iter,ifs,0⟩] scope pos) 0 it acc env) R s:=by
 refine codeAny_loop rfl I (fun n s hI=>?_) n h;refine wpAny_noted ?_
 refine aV (wpAny_standAt (aV (eQ (turn n s hI) (fun r s₁ h₁=>?_) fun _ _ h' =>h'.elim)));cases r with
 |none=>exact aP h₁
 | some v=>
   refine aV (eQ h₁ (fun _ s₂ h₂=>aV (eQ h₂ (fun _ s₃ h₃=>aV (eQ h₃ (fun ok s₄ h₄=>?_) fun _ _ h' =>h'.elim)) fun _ _ h' =>h'.elim)) fun _ _ h' =>h'.elim);cases ok with
   |false=>exact aP ⟨rfl,h₄⟩
   | true=>
     exact aV (aV (eQ h₄ (fun x s₅ h₅=>aV (eQ h₅ (fun _ s₆ h₆=>aP (aP ⟨rfl,h₆⟩)) fun _ _ h' =>h'.elim)) fun _ _ h' =>h'.elim))
noncomputable def zX7(J:It)(g:TG)(tt:TT)(te:TE)(σ0:St)(Q:VK)(D:aZ)(H1:Hp):Prop:=
 ∃W:Nat->Nat->St->List V->Hp->Prop,(∃m,W 0 m σ0 [] H1)/\∀i m σ2 ys H2,W i m σ2 ys H2->H2 D=some (.lst ys)/\ys.length<aA/\
  ((J.stop i H2/\Q (.ref D) H2)\/(J.go i H2/\∀x H3,J.yld i H2 x H3->g x σ2 H3 fun σ4 H4=>tt σ4 H4 fun b H5=>
    if b=true then te σ4 H5 fun v H6=>H6 D=some (.lst ys)/\∃m',m'<m/\W (i+1) m' σ4 (ys ++ [v]) (upd H6 D (.lst (ys ++ [v])))
    else∃m',m'<m/\W (i+1) m' σ4 ys H5))
noncomputable def tComp(wi:TI)(g:TG)(tt:TT)(te:TE)(σc:St->St):TE:=fun σ H Q=>wi σ H fun J H1=>∀D,H1 D=none->zX7 J g tt te (σc σ) Q D (upd H1 D (.lst []))
structure Caps(X:Cx)(scope:Scope)(cl:List (Str×aZ))(Nc:List Str)(σc:St->St):Prop where
 clos:closureFor scope X.env=pure cl
 kind:scope.kind=.function
 nocell:∀y∈scope.names,y.2≠ .cell
 names:∀y∈scope.names,y.2=.local ->scope.names.lookup y.1=some .local
 cells:∀x c,cl.lookup x=some c->X.env.cells.lookup x=some c
 has:∀x,((relabel scope X.env).names.lookup x=some .cell \/(relabel scope X.env).names.lookup x=some .free)->∃c,cl.lookup x=some c
 len:∀σ,(σc σ).length =Nc.length
 cap:∀σ (i:Nat) x v,Nc[i]?=some x->(σc σ)[i]?=some (some v)->Vis (relabel scope X.env) x->
  ((relabel scope X.env).names.lookup x=some .cell \/(relabel scope X.env).names.lookup x=some .free)/\
  (X.env.kindOf x=some .cell \/X.env.kindOf x=some .free)/\∃j:Nat,X.N[j]?=some x/\σ[j]?=some (some v)/\Vis X.env.scope x
section
variable{X:Cx}{tg iter elt:Expr}{ifs:List Expr}{scope:Scope}{cl:List (Str×aZ)}{Nc:List Str}{σc:St->St}{pos:Pos}{wi:TI}{g:TG}{tt:TT}{te:TE}
theorem zQx{s:aJ}(I:Inv X pins σ H s)(c:Caps X scope cl Nc σc)(hC:s.heap.objs.size<=C)(hf:∀b∈fp,FpOk X pins H b)(hlt:∀b∈fp,b<s.heap.objs.size):
  (cCx X scope cl C Nc s H fp).Ok where
 mod:=I.ok.mod;kind:=c.kind;glob:=I.ok.glob;blt:=I.ok.blt;above:=hC;inj:=fun x y a h1 h2=>I.ok.inj x y a (c.cells x a h1) (c.cells y a h2)
 has:=c.has;cab:=fun _ _ h _=>absurd (show false=true from h) aR
 hd:=I.ok.hd;frames:=I.ok.frames;stk:=.inl rfl;exf:=fun b hb=>⟨fun z=>absurd (aN (hlt b hb) hC) (by
    have z' :b=C:=z;rw[z'];exact bM _),fun x a h z=>(hf b hb).2.2.2.2.1 x a (c.cells x a h) z⟩
 bs:=I.bs;bsz:=aM I.ok.bsz I.sz;noex:=fun b o e hb=>by
  rcases(hf b hb).2.2.2.1 with z|z
  ·exact I.ok.noex b o e z
  ·exact absurd (aN (aE e) (aM I.ok.bsz z)) (bM _)
 exfs:=fun b hb z=>by
  rcases aG.mp (I.stkSub b z) with q|q
  ·exact(hf b hb).2.1 q
  ·exact(hf b hb).2.2.1 q
 funs:=I.stack;frf:=I.stkFree
theorem zXd{s:aJ}{h' :Heap}{m:Str->Option Value}(I:Inv X pins σ H s)(c:Caps X scope cl Nc σc)(hC:s.heap.objs.size<=C)(hf:∀b∈fp,FpOk X pins H b)(hlt:∀b∈fp,b<s.heap.objs.size)(hk:∀b o,s.heap.get? b=some o->h'.get? b=some o)(hn:h'.Ns C m):
  Inv (cCx X scope cl C Nc s H fp) [] (σc σ) H {s with heap:=h',toks:=t' }:=by
 refine⟨zQx I c hC hf hlt,rfl,I.bare,Un.kept hk,⟨m,hn,fun i x v e1 e2 e3=>?_⟩,fun x a h=>?_,I.hok.fresh hC,fun x a h=>I.freeC x a (c.cells x a h),fun p hp=>absurd (show p∈([]:List (aZ×Obj)) from hp) (by simp),I.hok.kept hk,c.len σ⟩
 ·obtain⟨k1,k2,j,n1,n2,n3⟩:=c.cap σ i x v e1 e2 e3;obtain⟨m0,_,hl⟩:=I.loc;obtain⟨u,ru,lk⟩:=hl j x v n1 n2 n3;refine⟨u,ru,.inr ⟨k1,?_⟩⟩;rcases lk with⟨z,_⟩|⟨_,a,ha,hcell⟩
  ·rcases k2 with k2|k2 <;> rw[k2]at z <;> cases z
  ·obtain⟨a',ha'⟩:=c.has x k1;have e:=c.cells x a' ha';rw[ha]at e;cases e;obtain⟨o,ho,hd⟩:=hcell;exact⟨a,ha',⟨o,hk _ _ ho,hd⟩⟩
 ·obtain⟨v,o,ho,hd⟩:=I.cell x a (c.cells x a h);exact⟨v,o,hk _ _ ho,hd⟩
theorem qYt{s:aJ}{Q:VK}{J:It}{it:aZ}{tn:Nat->Heap->Prop}{RR:Value->aZ->Result->aJ->Prop}{E:Value->aJ->Prop}(hc:X.calm=true)(c:Caps X scope cl Nc σc)(hg:∀C s H fp,PG (cCx X scope cl C Nc s H fp) tg g)(ht:∀C s H fp,PTs (cCx X scope cl C Nc s H fp) ifs tt)(he:∀C s H fp,PE (cCx X scope cl C Nc s H fp) elt te)(I:Inv X pins σ H s)(T:Turn X.prog X.w X.K tg J fp it tn)(st:tn 0 s.heap)(hf:∀b∈fp,FpOk X pins H b)(h:∀D,H D=none->zX7 J g tt te (σc σ) Q D (upd H D (.lst [])))(hRR:∀D C H' s' m,Inv X pins σ H' s' ->H' C=none->s.heap.objs.size<=C->s'.heap.Ns C m->Q (.ref D) H' ->RR (.ref D) C (.ok .next) s'):
  aI (model X.prog X.w) X.A (newList []) (fun acc s₃=>aI (model X.prog X.w) X.A (newFunctionEnv scope X.env.globals cl [] X.env.qual none .none (some X.env)) (fun cenv s₄=>
   codeAny (model X.prog X.w) X.A (.compStart (.ListComp elt [⟨tg,iter,ifs,0⟩] scope pos) 0 (.ref it) acc {cenv with scope:=relabel scope X.env}) (RR acc cenv.locals) s₄) E s₃) E s:=by
 have fit:∀b∈fp,b<s.heap.objs.size:=fun b hb=>by
  obtain⟨o,e,_⟩:=T.obj _ _ st b hb;exact aE e
 obtain⟨W,⟨m0,w0⟩,turn⟩:=h s.heap.objs.size (I.hok.fresh (aB _));refine cD (wpAny_newFunctionEnv c.nocell (by intro y hy;simp at hy) (fun h₁ hns₁ hsb₁=>?_) c.kind);dsimp only at hns₁ hsb₁⊢;have I1:Inv X pins σ (upd H s.heap.objs.size (.lst [])) {s with heap:=s.heap.push {cls:=.type "list",dict:=none,data:=.seq ([]:List Value).toArray }}:=
  I.laid (t' :=s.toks) (fun b u e=>aX _ e) (aB _) ⟨bO _,[],0,.nil,aC _ rfl⟩
 generalize hH2:s.heap.push {cls:=.type "list",dict:=none,data:=.seq ([]:List Value).toArray }=G at hns₁ hsb₁ I1⊢;have hG:G.objs.size=s.heap.objs.size+1:=by rw[←hH2,bU]
 have old:∀b o,G.get? b=some o->h₁.get? b=some o:=fun b o e=>hsb₁.extBut b o (bV (aE e)) (aX _ e)
 have hf1:∀b∈fp,FpOk X pins (upd H s.heap.objs.size (.lst [])) b:=fun b hb=>
  ⟨by rw[vQ (bV (fit b hb))];exact(hf b hb).1,(hf b hb).2⟩
 have hlt1:∀b∈fp,b<G.objs.size:=fun b hb=>aN (fit b hb) (by rw[hG];exact Nat.le_succ _)
 have I2:=zXd (C:=G.objs.size) (t' :=s.toks+([]:List (Str×Value)).length) I1 c (aB _) hf1 hlt1 old hns₁;have st1:tn 0 h₁:=T.keep _ _ _ st fun b hb o e=>old b o (by rw[←hH2];exact aX _ e)
 have fpB:∀{H' :Hp},(∀b∈fp,H' b=none)->∀b∈fp,FpOk (cCx X scope cl G.objs.size Nc {s with heap:=G} (upd H s.heap.objs.size (.lst [])) fp) [] H' b:=fun {H'} hn b hb=>by
  have ok:=zQx (C:=G.objs.size) I1 c (aB _) hf1 hlt1;obtain⟨e1,e2⟩:=ok.exf b hb;exact⟨hn b hb,e1,ok.exfs b hb,.inl hb,e2,fun p hp=>absurd (show p∈([]:List (aZ×Obj)) from hp) (by simp)⟩
 have loop:∀s₃:aJ,s₃={s with heap:=h₁,toks:=s.toks+([]:List (Str×Value)).length }->
   codeAny (model X.prog X.w) X.A (.compLoop (.ListComp elt [⟨tg,iter,ifs,0⟩] scope pos) 0 (.ref it) (.ref s.heap.objs.size) (compEnvC scope cl G.objs.size X.env))
    (RR (.ref s.heap.objs.size) G.objs.size) s₃:=by
  rintro s₃ rfl
  refine vJz (fun n s' =>∃i σ' ys H',Inv (cCx X scope cl G.objs.size Nc {s with heap:=G} (upd H s.heap.objs.size (.lst [])) fp) [] σ' H' s' /\tn i s'.heap/\(∀b∈fp,H' b=none)/\W i n σ' ys H') ?_ m0
   ⟨0,σc σ,[],_,I2,st1,fun b hb=>(hf1 b hb).1,w0⟩
  rintro n s5 ⟨i,σ5,ys,H5,I5,st5,fr5,w5⟩;obtain⟨hD,hsz,alt⟩:=turn i n σ5 ys H5 w5;rcases alt with⟨stop,q⟩|⟨go,step⟩
  ·refine thn (T.done (cCx X scope cl G.objs.size Nc {s with heap:=G} (upd H s.heap.objs.size (.lst [])) fp) rfl rfl rfl hc i [] s5 σ5 H5 _ I5 (fpB fr5) st5 stop) fun r s6 ⟨hr,I6⟩=>?_
   subst hr;obtain⟨m6,n6,_⟩:=I6.loc;have I7:Inv X pins σ H5 s6:=I1.call' I6.os I6.base I6.hok I6.bare fun b hb=>⟨(hf1 b hb).2.2.2.1,(hf1 b hb).2.1,(hf1 b hb).2.2.2.2.1,(hf1 b hb).2.2.2.2.2⟩
   exact hRR _ _ H5 s6 m6 I7 I6.free (by rw[hG];exact Nat.le_succ _) n6 q
  ·refine thn (T.item (cCx X scope cl G.objs.size Nc {s with heap:=G} (upd H s.heap.objs.size (.lst [])) fp) rfl rfl rfl hc i [] s5 σ5 H5 _ I5 (fpB fr5) st5 go) fun r s6 ⟨u,hr,h6⟩=>?_
   subst hr;refine thn h6 fun _ s7 ⟨x,H7,I7,r7,y7,st7,fr7⟩=>?_
   have I7' :=I7.pinned (fpB fr7) (T.obj _ _ st7);refine thn (hg _ _ _ _ _ s7 σ5 H7 x u _ I7' r7 (step x H7 y7)) fun _ s8 ⟨σ8,H8,I8,q8⟩=>?_
   refine thn (ht _ _ _ _ _ s8 σ8 H8 _ I8 q8) fun ok s9 ⟨H9,I9,q9⟩=>?_
   have again:∀{σ' :St} {H' :Hp} {s' :aJ} {ys' :List V} {m' :Nat},Inv (cCx X scope cl G.objs.size Nc {s with heap:=G} (upd H s.heap.objs.size (.lst [])) fp) ([] ++ qXv fp s7.heap) σ' H' s' ->m'<n->W (i+1) m' σ' ys' H' ->
     ∃m,m<n/\∃i σ' ys H',Inv (cCx X scope cl G.objs.size Nc {s with heap:=G} (upd H s.heap.objs.size (.lst [])) fp) [] σ' H' s' /\tn i s'.heap/\(∀b∈fp,H' b=none)/\W i m σ' ys H' :=fun {σ' H' s' ys' m'} J7 hm hw=>by
    refine⟨m',hm,i+1,σ',ys',H',J7.unpinned,T.keep _ _ _ st7 fun b hb o e=>(J7.pin (b,o) (bF _ (bF _ (qQ0 hb e)))).1,fun b hb=>?_,hw⟩;obtain⟨o,e,d⟩:=T.obj _ _ st7 b hb;exact(J7.pin (b,o) (bF _ (bF _ (qQ0 hb e)))).2.1
   cases ok with
   | false=>
     rw[if_neg aR]at q9⊢;obtain⟨m',hm,hw⟩:=q9;exact again I9 hm hw
   | true=>
     rw[if_pos rfl]at q9⊢;refine thn (he _ _ _ _ _ s9 σ8 H9 _ I9 q9) fun v s10 ⟨y,H10,I10,r10,hD10,m',hm,hw⟩=>?_
     refine thn (qWl _ s10 σ8 H10 (.ref s.heap.objs.size) [y] (.ref s.heap.objs.size) [v] (fun _ H' =>H' =upd H10 s.heap.objs.size (.lst (ys ++ [y]))) I10 rfl (.cons r10 .nil) ⟨_,ys,y,rfl,rfl,hD10,hsz,rfl⟩) fun _ s11 ⟨z,H11,I11,_,e11⟩=>?_
     subst e11;exact again I11 hm hw
 exact codeAny_compStart_list (loop _ rfl) (T.self _ 0 _ _ _ st1 (loop _ rfl))
theorem zJ7(hc:X.calm=true)(c:Caps X scope cl Nc σc)(hi:PI X tg iter wi)(hg:∀C s H fp,PG (cCx X scope cl C Nc s H fp) tg g)(ht:∀C s H fp,PTs (cCx X scope cl C Nc s H fp) ifs tt)(he:∀C s H fp,PE (cCx X scope cl C Nc s H fp) elt te)(hs:∀x,foldedSetIterable iter X.env x=pure x:=by intro _;rfl):PE X (.ListComp elt [⟨tg,iter,ifs,0⟩] scope pos) (tComp wi g tt te σc):=by
 intro pins s σ H Q I h;rw[eval_ListComp];refine wpAny_comprehension_free (use:=none) rfl hs c.clos c.kind c.names (thn (hi pins s σ H _ I h) fun v s1 h1=>thn h1 fun itv s2 h2=>?_);obtain⟨it,fp,tn,J,H2,rfl,I2,T,st2,f2,W⟩:=h2;refine qYt (Q:=Q) hc c hg ht he I2 T st2 f2 W ?_
 intro D C H' s' m I' hC hCs hn q;refine⟨m,hn,fun h' sb=>⟨.ref D,H',?_,rfl,q⟩⟩;have nl:C≠X.env.locals:=dU (aN I2.lt hCs);refine I'.turned (t' :=s'.toks) (it:=C) (fun b o hb e=>sb.extBut b o hb e) hC nl (.inr (aM I2.sz hCs)) (fun x a e z=>?_) (fun p hp z=>?_)
 ·obtain⟨v,q⟩:=I2.cell x a e;exact absurd (aN q.lt hCs) (by rw[z];exact bM _)
 ·exact absurd (aN (aE (I2.pin p hp).1) hCs) (by rw[z];exact bM _)
theorem zJv{y:Str}{py spos:Pos}(hc:X.calm=true)(hN:X.N.Nodup)(hiy:X.N[i]?=some y)(hy:Loc X.env.scope y)(c:Caps X scope cl Nc σc)(hi:PI X tg iter wi)(hg:∀C s H fp,PG (cCx X scope cl C Nc s H fp) tg g)(ht:∀C s H fp,PTs (cCx X scope cl C Nc s H fp) ifs tt)(he:∀C s H fp,PE (cCx X scope cl C Nc s H fp) elt te)(hsw:swapsWith (.ListComp elt [⟨tg,iter,ifs,0⟩] scope pos) (some (.Name y py)) spos.line X.env=pure true:=by rfl)(hs:∀x,foldedSetIterable iter X.env x=pure x:=by intro _;rfl)(hf:X.fn y=true\/X.env.scope.names.lookup y=some .local :=by first|exact .inl rfl|exact .inr rfl|assumption):
  PS X (.Assign [.Name y py] (.ListComp elt [⟨tg,iter,ifs,0⟩] scope pos) spos) (tAsg (tComp wi g tt te σc) (vVr i)):=by
 intro pins s σ H D I h;rw[exec_Assign_Name_used _ _ _ _ hsw];refine aV (wpAny_standAt (aV ?_));show aI _ X.A (do let _ ←comprehension (.ListComp elt [⟨tg,iter,ifs,0⟩] scope pos) scope X.env _ (newList []) false (eval iter X.env) (some (assign (.Name y py) X.env))) _ _ s
 refine aV (eQ (wpAny_comprehension_free (use:=some (assign (.Name y py) X.env)) (Q:=fun _ s' =>SP X pins D .next s') rfl hs c.clos c.kind c.names
  (thn (hi pins s σ H _ I h) fun v s1 h1=>thn h1 fun itv s2 h2=>?_)) (fun _ s' hq=>aP (aP hq)) fun _ _ e=>e)
 obtain⟨it,fp,tn,J,H2,rfl,I2,T,st2,f2,W⟩:=h2;refine qYt (Q:=fun v H' =>D.nx (σ.set i (some v)) H') hc c hg ht he I2 T st2 f2 W ?_
 intro L C H' s' m I' hC hCs hn q;have nl:C≠X.env.locals:=dU (aN I2.lt hCs);have nfs:C∉X.fs:=I2.nofs hCs;obtain⟨oC,es,ep,hoC,hdC,hrC⟩:=id hn;have ncell:∀v,oC.data≠ .cell v:=fun v z=>by rw[hdC]at z;cases z
 have I'' :Inv X (pins ++ [(C,oC)]) σ H' s' :=I'.pins_of fun p hp=>by
  rcases cL.mp hp with z|z
  ·exact I'.pin p (bF _ z)
  ·have e:p=(C,oC):=by simpa using z
   subst e;exact⟨hoC,hC,nl,nfs,ncell⟩
 show aI _ X.A (assign (.Name y py) X.env (.ref L)) _ _ _;refine wpAny_assign_Name (qX4 I'' hN hiy hy (v:=.ref L) rfl (fun s3 I3=>?_) hf);have hn3:s3.heap.Ns C m:=⟨oC,es,ep,(I3.pin (C,oC) (by simp)).1,hdC,hrC⟩
 refine⟨m,hn3,fun h' sb=>⟨σ.set i (some (.ref L)),H',?_,q⟩⟩;refine I3.unpinned.turned (t' :=s3.toks) (it:=C) (fun b o hb e=>sb.extBut b o hb e) hC nl (.inr (aM I2.sz hCs)) (fun x a e z=>?_) (fun p hp z=>?_)
 ·obtain⟨v,q⟩:=I2.cell x a e;exact absurd (aN q.lt hCs) (by rw[z];exact bM _)
 ·exact absurd (aN (aE (I2.pin p hp).1) hCs) (by rw[z];exact bM _)
theorem jV1(hk:scope.kind=.function)(hfree:∀x∈scope.names,x.2≠ .free)(hcell:∀x∈scope.names,x.2≠ .cell)(hnames:∀y∈scope.names,y.2=.local ->scope.names.lookup y.1=some .local):
  Caps X scope [] Nc (fun _=>List.replicate Nc.length none) where
 clos:=closureFor_none hfree;kind:=hk;nocell:=hcell;names:=hnames;cells:=fun x c e=>by cases e
 has:=fun x h=>by
  have hm:(relabel scope X.env).names =scope.names:=by
   unfold relabel;refine map_eq_self fun y hy=>?_
   obtain⟨n,k⟩:=y;have:(k == NameKind.free)=false:=by simpa using hfree _ hy
   simp[this]
  rw[hm]at h;rcases h with h|h
  ·exact absurd rfl (hcell _ (cJ h))
  ·exact absurd rfl (hfree _ (cJ h))
 len:=fun _=>by simp
 cap:=fun σ i x v _ e _=>by
  rw[List.getElem?_replicate]at e;split at e <;> cases e
end
section
variable{X:Cx}{pins:List (aZ×Obj)}{σ:St}{H:Hp}{s:aJ}{h' :Heap}
theorem Inv.turnedLaid{o:HO}(I:Inv X pins σ H s)(k:∀b u,b∉ch->s.heap.get? b=some u->h'.get? b=some u)(hf:∀b∈ch,FpOk X pins H b)(hp:s.heap.objs.size<=p)(new:vS X.prog X.w (upd H p o) h' p o):Inv X pins σ (upd H p o) {s with heap:=h',toks:=t' }:=by
 have hn:=I.hok.fresh hp;have nch:∀b u,H b=some u->b∉ch:=fun b u e z=>by rw[(hf b z).1]at e;cases e
 refine I.call (g' :=s.gens) (d' :=s.drawn) (ch:=ch) ⟨fun b u e _ _ hc=>k b u hc e,fun b u e _ _ hc=>⟨u.slots,k b u hc e⟩,fun b u e n _=>?_,fun b u e hc=>⟨u,k b u hc e⟩,fun b xs e=>?_,fun b u xs e=>?_,fun b ps e=>?_⟩ (fun b u e=>?_) I.bare
  fun b hb=>⟨(hf b hb).2.2.2.1,(hf b hb).2.1,(hf b hb).2.2.2.2.1,(hf b hb).2.2.2.2.2⟩
 ·rw [vQ (bV (aN (aE e) hp))];exact n
 ·rw [vQ (v9 e hn)];exact e
 ·rw [vQ (v9 e hn)];exact e
 ·exact⟨#[],by rw[vQ (v9 e hn),e];simp⟩
 ·by_cases hb:b=p
  ·subst hb;rw[upd_same]at e;cases e;exact new
  ·rw [vQ hb] at e;refine(I.hok b u e).stay (fun c v hc q=>k c v ?_ q) (fun c q=>by rw[vQ (v9 q hn)];exact q) fun c xs q=>by rw[vQ (v9 q hn)];exact q
   rcases hc with z|z
   ·rw [z];exact nch b u e
   ·exact nch c _ z
theorem Inv.turnedAll(I:Inv X pins σ H s)(k:∀b u,b∉ch->s.heap.get? b=some u->h'.get? b=some u)(hf:∀b∈ch,FpOk X pins H b):Inv X pins σ H {s with heap:=h',toks:=t' }:=by
 have nch:∀b u,H b=some u->b∉ch:=fun b u e z=>by rw[(hf b z).1]at e;cases e
 refine I.call (g' :=s.gens) (d' :=s.drawn) (ch:=ch) ⟨fun b u e _ _ hc=>k b u hc e,fun b u e _ _ hc=>⟨u.slots,k b u hc e⟩,fun b u e n _=>n,fun b u e hc=>⟨u,k b u hc e⟩,fun b xs e=>e,fun b u xs e=>e,fun b ps e=>⟨#[],by rw[e];simp⟩⟩ (fun b u e=>?_) I.bare
  fun b hb=>⟨(hf b hb).2.2.2.1,(hf b hb).2.1,(hf b hb).2.2.2.2.1,(hf b hb).2.2.2.2.2⟩
 refine(I.hok b u e).stay (fun c v hc q=>k c v ?_ q) (fun c q=>q) fun c xs q=>q
 rcases hc with z|z
 ·rw [z];exact nch b u e
 ·exact nch c _ z
end
theorem vS.there{h:Heap}{a:aZ}{o:HO}(x:vS P w H h a o):∃ob,h.get? a=some ob:=by
 cases o with
 |lst xs=>obtain⟨_,_,_,_,e⟩:=x;exact⟨_,e⟩
 |tup xs=>obtain⟨_,_,_,_,e,_⟩:=x;exact⟨_,e⟩
 |dK kvs=>obtain⟨_,_,_,_,o,_,_,e,_⟩:=x;exact⟨_,e⟩
 |dT kvs=>obtain⟨_,_,_,_,o,_,_,e,_⟩:=x;exact⟨_,e⟩
 |set S n=>obtain⟨o,_,_,_,e,_⟩:=x;exact⟨_,e⟩
 |ins C dx fs=>obtain⟨_,_,_,e,_⟩:=x;exact⟨_,e⟩
 |own y=>exact x
 |xd fs=>obtain⟨_,⟨_,_,_,e,_⟩,_⟩:=x;exact⟨_,e⟩
 |rng lo hi=>obtain⟨_,_,_,e⟩:=x;exact⟨_,e⟩
 |frz ob u=>obtain⟨e,_⟩:=x;exact⟨_,e⟩
 |tbl ps=>exact⟨_,(show h.get? a=some _ from x)⟩
 |tab l c q=>obtain⟨_,e,_⟩:=x;exact⟨_,e⟩
 |met f y=>exact⟨_,(show h.get? a=some _ from x)⟩
 |ext φ=>obtain⟨_,e,_⟩:=x;exact e
theorem HOk.there{h:Heap}{a:aZ}{o:HO}(x:HOk P w H h)(e:H a=some o):∃ob,h.get? a=some ob:=(x a o e).there
section
variable{X:Cx}
theorem zZg(i:IntsAre its ns):∀(j:Nat) v,its[j]?=some v->∃t,v=Value.int (ns.getD j 0) t:=by
 induction i with
 |nil=>grind
 |cons n t i ih=>grind
theorem zZ1(hc:X.calm=true):zL X (.builtin "sum") (fun xs H Q=>∃(p:aZ) (ns:List Int),xs=[.ref p]/\SqL X.K H p (ns.map V.int)/\Q (.int ns.sum) H):=by
 intro pins s σ H xs us Q I r h;obtain⟨p,ns,rfl,hp,q⟩:=h;obtain⟨u,rfl,ru⟩:=qVb r;cases ru;obtain⟨its,rv,pl,_⟩:=I.list hp;have i1:IntsAre its ns:=qYo rv;have lp:p<s.heap.objs.size:=by obtain⟨_,e,_⟩:=pl.isList;exact aE e
 refine call_sum_walkG (wpAny_pyIter_list pl.isList ?_);refine⟨s.heap.objs.size,_,_,_,_,_,fun j=>ns.getD j 0,rfl,Walks.list (A:=X.A.in1) (I.ok.hd hc) s.heap.objs.size p (bV lp) its.toArray,⟨⟨_,aC _ rfl,rfl,rfl⟩,pl.isList.at fun o e=>aX _ e⟩,fun b hb=>?_,fun j v hj=>zZg i1 j v (by simpa using hj),fun h' tk t' kk=>?_⟩
 ·have hb' :b=s.heap.objs.size\/b=p:=by simpa using hb
  rcases hb' with rfl|rfl
  ·rw[bU];exact Nat.lt_succ_self _
  ·rw[bU];exact Nat.lt_succ_of_lt lp
 ·refine⟨.int ns.sum,H,I.kept (t' :=tk) fun b o e=>kk b o (fun z=>?_) (aX _ e),⟨t',?_⟩,q⟩
  ·have z' :b=s.heap.objs.size:=by simpa using z
   exact absurd (aE e) (by rw[z'];exact bM _)
  ·have l1:its.toArray.size=ns.length:=by rw [aH];exact i1.length
   rw[preSum_getD,l1,List.take_of_length_le (aB _)]
end
inductive Dt where
 |non|int (i:Int)|str (x:Str)|tup (ds:List Dt)
mutual
def Dt.beq:Dt->Dt->Bool
 |.non,.non =>true
 |.int i,.int j=>i == j
 |.str x,.str y=>x == y
 |.tup a,.tup b=>Dt.beqs a b
 |_,_=>false
def Dt.beqs:List Dt->List Dt->Bool
 |[],[]=>true
 |x::xs,y::ys=>Dt.beq x y && Dt.beqs xs ys
 |_,_=>false
end
mutual
def Dt.hgt:Dt->Nat
 |.tup ds=>Dt.hgts ds+1
 |_=>0
def Dt.hgts:List Dt->Nat
 |[]=>0
 |d::r=>max (Dt.hgt d) (Dt.hgts r)
end
mutual
def qB(K:aQ)(H:Hp):V->Dt->Prop
 |v,.non =>v=.non
 |v,.int i=>v=.int i
 |v,.str x=>v=.str x
 |v,.tup ds=>∃r vs,v=.ref r/\SqT K H r vs/\DatsAt K H vs ds
def DatsAt(K:aQ)(H:Hp):List V->List Dt->Prop
 |[],[]=>True
 |v::vs,d::ds=>qB K H v d/\DatsAt K H vs ds
 |_,_=>False
end
mutual
theorem Dt.beq_iff:∀(x y:Dt),Dt.beq x y=true↔x=y
 |.non,y=>by cases y <;> simp[Dt.beq]
 |.int i,y=>by cases y <;> simp[Dt.beq]
 |.str i,y=>by cases y <;> simp[Dt.beq]
 | .tup a,y=>by
   cases y with
   | tup b=>
     have:=Dt.beqs_iff a b;simp[Dt.beq,this]
   |_=>simp[Dt.beq]
theorem Dt.beqs_iff:∀(x y:List Dt),Dt.beqs x y=true↔x=y
 |[],y=>by cases y <;> simp[Dt.beqs]
 | a::r,y=>by
   cases y with
   |nil=>simp[Dt.beqs]
   | cons b t=>
     have h1:=Dt.beq_iff a b;have h2:=Dt.beqs_iff r t;simp[Dt.beqs,h1,h2]
end
theorem Dt.beq_self(x:Dt):Dt.beq x x=true:=(Dt.beq_iff x x).mpr rfl
theorem Dt.beqs_ne{x y:List Dt}(h:x≠y):Dt.beqs x y=false:=by
 cases e:Dt.beqs x y with
 |false=>rfl
 |true=>exact absurd ((Dt.beqs_iff x y).mp e) h
theorem Dt.hgt_mem:∀{ds:List Dt} {d:Dt},d∈ds->d.hgt<=Dt.hgts ds
 | e::r,d,h=>by
   have e1:Dt.hgts (e::r)=max (Dt.hgt e) (Dt.hgts r):=by simp[Dt.hgts]
   rcases aG.mp h with z|z
   ·rw[z];omega
   ·have:=Dt.hgt_mem z;omega
section
variable{K:aQ}{H H' :Hp}
theorem qB.non:qB K H .non .non :=by simp[qB]
theorem qB.int(i:Int):qB K H (.int i) (.int i):=by simp[qB]
theorem qB.str(i:Str):qB K H (.str i) (.str i):=by simp[qB]
theorem qB.tup{r:aZ}{ds:List Dt}(h:SqT K H r vs)(k:DatsAt K H vs ds):qB K H (.ref r) (.tup ds):=by
 exact⟨r,vs,rfl,h,k⟩
theorem DatsAt.nil:DatsAt K H [] []:=by simp[DatsAt]
theorem DatsAt.cons{d:Dt}{ds:List Dt}(h:qB K H v d)(k:DatsAt K H vs ds):DatsAt K H (v::vs) (d::ds):=by
 exact⟨h,k⟩
theorem qB.un{ds:List Dt}(h:qB K H v (.tup ds)):∃r vs,v=.ref r/\SqT K H r vs/\DatsAt K H vs ds:=by
 exact h
theorem DatsAt.un{d:Dt}{ds:List Dt}(h:DatsAt K H vs (d::ds)):∃v r,vs=v::r/\qB K H v d/\DatsAt K H r ds:=by
 cases vs with
 |nil=>simp[DatsAt]at h
 | cons v r=>
   exact⟨v,r,rfl,h.1,h.2⟩
theorem DatsAt.un0(h:DatsAt K H vs []):vs=[]:=by
 cases vs with
 |nil=>rfl
 |cons v r=>simp[DatsAt]at h
theorem DatsAt.length:∀{vs:List V} {ds:List Dt},DatsAt K H vs ds->vs.length=ds.length
 |vs,[],h=>by rw[h.un0];rfl
 | vs,d::ds,h=>by
   obtain⟨v,r,rfl,_,h2⟩:=h.un;simp[DatsAt.length h2]
theorem DatsAt.get:∀{vs:List V} {ds:List Dt} {i:Nat} {d:Dt},DatsAt K H vs ds->ds[i]?=some d->∃v,vs[i]?=some v/\qB K H v d
 |vs,[],i,d,h,e=>by simp at e
 | vs,c::ds,i,d,h,e=>by
   obtain⟨v,r,rfl,h1,h2⟩:=h.un;cases i with
   | zero=>
     have e' :c=d:=by simpa using e
     subst e';exact⟨v,rfl,h1⟩
   | succ i=>
     obtain⟨u,e1,e2⟩:=DatsAt.get (i:=i) (d:=d) h2 (by simpa using e);exact⟨u,by simpa using e1,e2⟩
end
theorem Dt.all_beqs:∀(a b:List Dt),((List.range (min a.length b.length)).all (fun j=>Dt.beq (a.getD j .non) (b.getD j .non)) && a.length == b.length)=Dt.beqs a b
 |[],[]=>by simp[Dt.beqs]
 |[],_::_=>by simp[Dt.beqs]
 |_::_,[]=>by simp[Dt.beqs]
 | x::a,y::b=>by
   have ih:=Dt.all_beqs a b;have e:min (x::a).length (y::b).length =min a.length b.length+1:=by simp
   rw[e,List.range_succ_eq_map];simp only[dR,List.all_map,Dt.beqs,aK];rw[←ih,Bool.and_assoc];congr 1;congr 1;rw[Bool.eq_iff_iff];simp
section
variable{X:Cx}{pins:List (aZ×Obj)}{σ:St}{H:Hp}{s:aJ}
mutual
theorem qB.inj(I:Inv X pins σ H s):∀{v:V} {d e:Dt},qB X.K H v d->qB X.K H v e->d=e
 | v, .non,e,h,k=>by
   have h' :v=.non :=by simpa[qB] using h
   subst h';cases e <;> simp[qB]at k⊢
 | v, .int i,e,h,k=>by
   have h' :v=.int i:=by simpa[qB] using h
   subst h';cases e <;> simp[qB]at k⊢
   exact k
 | v, .str i,e,h,k=>by
   have h' :v=.str i:=by simpa[qB] using h
   subst h';cases e <;> simp[qB]at k⊢
   exact k
 | v, .tup ds,e,h,k=>by
   obtain⟨r,vs,rfl,h1,h2⟩:=h.un;cases e with
   | tup es=>
     obtain⟨r',ws,e',k1,k2⟩:=k.un;cases e';have:=I.tuple_inj h1 k1;subst this;rw[DatsAt.inj I h2 k2]
   |_=>simp[qB]at k
theorem DatsAt.inj(I:Inv X pins σ H s):∀{vs:List V} {ds es:List Dt},DatsAt X.K H vs ds->DatsAt X.K H vs es->ds=es
 | vs,[],es,h,k=>by
   have:=h.un0;subst this;cases es with
   |nil=>rfl
   |cons _ _=>simp[DatsAt]at k
 | vs,d::ds,es,h,k=>by
   obtain⟨v,r,rfl,h1,h2⟩:=h.un;cases es with
   |nil=>simp[DatsAt]at k
   | cons e es=>
     simp only[DatsAt]at k;rw[qB.inj I h1 k.1,DatsAt.inj I h2 k.2]
end
theorem vW9{α:Type}{xs:List α}{x d:α}(h:xs[i]?=some x):xs.getD i d=x:=by
 rw[cU,h];rfl
theorem qVw{ds:List Dt}(h:DatsAt X.K H vs ds)(k:DatsAt X.K H ws es)(r1:Vals vs its)(r2:Vals ws its2)(ih:∀(d e:Dt) (x y:V) (u v:Value),d∈ds->qB X.K H x d->qB X.K H y e->RelV x u->RelV y v->SeqAt.EqAt A s u v (Dt.beq d e))(j:Nat)(h1:j<its.toArray.size)(h2:j<its2.toArray.size):
  SeqAt.EqAt A s its.toArray[j] its2.toArray[j] (Dt.beq (ds.getD j .non) (es.getD j .non)):=by
 have l1:=r1.length;have l2:=r2.length;have m1:=h.length;have m2:=k.length;rw[aH]at h1 h2;have g1:ds[j]?=some ds[j]:=aF (by omega);have g2:es[j]?=some es[j]:=aF (by omega);obtain⟨x,ex,hx⟩:=h.get g1;obtain⟨y,ey,hy⟩:=k.get g2;obtain⟨u,eu,ru⟩:=r1.get ex;obtain⟨v,ev,rv⟩:=r2.get ey;have f1:its.toArray[j]=u:=by
  have:=(aL.mp eu).2;simpa using this
 have f2:its2.toArray[j]=v:=by
  have:=(aL.mp ev).2;simpa using this
 rw[f1,f2,vW9 g1,vW9 g2];exact ih _ _ x y u v (List.getElem_mem _) hx hy ru rv
theorem qZk{ds:List Dt}(h:DatsAt X.K H vs ds)(k:DatsAt X.K H ws es)(r1:Vals vs its)(r2:Vals ws its2):
  ((List.range (min its.toArray.size its2.toArray.size)).all (fun j=>Dt.beq (ds.getD j .non) (es.getD j .non)) && its.toArray.size == its2.toArray.size)=Dt.beqs ds es:=by
 have l1:=r1.length;have l2:=r2.length;have m1:=h.length;have m2:=k.length;rw[←Dt.all_beqs,aH,aH,←l1,←l2,m1,m2]
theorem qJy(I:Inv X pins σ H s):∀(n:Nat) (A:bR) (d e:Dt) (x y:V) (u v:Value),d.hgt<=n->A.units+n<cG->qB X.K H x d->qB X.K H y e->RelV x u->RelV y v->SeqAt.EqAt A s u v (Dt.beq d e):=by
 intro n;induction n with
 | zero=>
   intro A d e x y u v hd hu hx hy ru rv;have hu' :A.units<cG:=by omega
   cases d with
   | non=>
     have hx' :x=.non :=by simpa[qB] using hx
     subst hx';cases(show u=Value.none from ru);cases e with
     | non=>
       have hy' :y=.non :=by simpa[qB] using hy
       subst hy';cases(show v=Value.none from rv);exact SeqAt.EqAt.same _
     | int j=>
       have hy' :y=.int j:=by simpa[qB] using hy
       subst hy';obtain⟨t,rfl⟩:=(show∃t,v=Value.int j t from rv)
       exact SeqAt.EqAt.none_int _ _
     | str j=>
       have hy' :y=.str j:=by simpa[qB] using hy
       subst hy';obtain⟨t,rfl⟩:=(show∃t,v=Value.str j t from rv)
       exact SeqAt.EqAt.none_str _ _
     | tup es=>
       obtain⟨r,ws,rfl,k1,k2⟩:=hy.un;cases(show v=Value.ref r from rv);obtain⟨its,_,p,_⟩:=I.tuple k1;exact SeqAt.EqAt.none_tuple p hu'
   | int i=>
     have hx' :x=.int i:=by simpa[qB] using hx
     subst hx';obtain⟨t,rfl⟩:=(show∃t,u=Value.int i t from ru)
     cases e with
     | non=>
       have hy' :y=.non :=by simpa[qB] using hy
       subst hy';cases(show v=Value.none from rv);exact SeqAt.EqAt.int_none _ _
     | int j=>
       have hy' :y=.int j:=by simpa[qB] using hy
       subst hy';obtain⟨t,rfl⟩:=(show∃t,v=Value.int j t from rv)
       exact SeqAt.EqAt.int_int _ _ _ _
     | str j=>
       have hy' :y=.str j:=by simpa[qB] using hy
       subst hy';obtain⟨t,rfl⟩:=(show∃t,v=Value.str j t from rv)
       exact SeqAt.EqAt.int_str _ _ _ _
     | tup es=>
       obtain⟨r,ws,rfl,k1,k2⟩:=hy.un;cases(show v=Value.ref r from rv);obtain⟨its,_,p,_⟩:=I.tuple k1;exact SeqAt.EqAt.int_tuple _ _ p hu'
   | str i=>
     have hx' :x=.str i:=by simpa[qB] using hx
     subst hx';obtain⟨t,rfl⟩:=(show∃t,u=Value.str i t from ru)
     cases e with
     | non=>
       have hy' :y=.non :=by simpa[qB] using hy
       subst hy';cases(show v=Value.none from rv);exact SeqAt.EqAt.str_none _ _
     | int j=>
       have hy' :y=.int j:=by simpa[qB] using hy
       subst hy';obtain⟨t,rfl⟩:=(show∃t,v=Value.int j t from rv)
       exact SeqAt.EqAt.str_int _ _ _ _
     | str j=>
       have hy' :y=.str j:=by simpa[qB] using hy
       subst hy';obtain⟨t,rfl⟩:=(show∃t,v=Value.str j t from rv)
       exact SeqAt.EqAt.str_str _ _ _ _
     | tup es=>
       obtain⟨r,ws,rfl,k1,k2⟩:=hy.un;cases(show v=Value.ref r from rv);obtain⟨its,_,p,_⟩:=I.tuple k1;exact SeqAt.EqAt.str_tuple _ _ p hu'
   |tup ds=>simp[Dt.hgt]at hd
 | succ n ih=>
   intro A d e x y u v hd hu hx hy ru rv;have hu' :A.units<cG:=by omega
   by_cases hflat:d.hgt<=n
   ·exact ih A d e x y u v hflat (by omega) hx hy ru rv
   ·cases d with
    | tup ds=>
      have hds:Dt.hgts ds<=n:=by simpa[Dt.hgt] using hd
      obtain⟨a,vs,rfl,h1,h2⟩:=hx.un;cases(show u=Value.ref a from ru);obtain⟨its,r1,p1,_⟩:=I.tuple h1;cases e with
      | non=>
        have hy' :y=.non :=by simpa[qB] using hy
        subst hy';cases(show v=Value.none from rv);exact SeqAt.EqAt.tuple_none p1 hu'
      | int j=>
        have hy' :y=.int j:=by simpa[qB] using hy
        subst hy';obtain⟨t,rfl⟩:=(show∃t,v=Value.int j t from rv)
        exact SeqAt.EqAt.tuple_int _ _ p1 hu'
      | str j=>
        have hy' :y=.str j:=by simpa[qB] using hy
        subst hy';obtain⟨t,rfl⟩:=(show∃t,v=Value.str j t from rv)
        exact SeqAt.EqAt.tuple_str _ _ p1 hu'
      | tup es=>
        obtain⟨b,ws,rfl,k1,k2⟩:=hy.un;cases(show v=Value.ref b from rv);obtain⟨its2,r2,p2,_⟩:=I.tuple k1;by_cases hab:a=b
        ·subst hab;have e1:Dt.tup ds=Dt.tup es:=qB.inj I hx hy;rw[e1,Dt.beq_self];exact SeqAt.EqAt.same _
        ·have e2:Dt.beq (.tup ds) (.tup es)=Dt.beqs ds es:=by simp [Dt.beq]
         rw[e2,←qZk h2 k2 r1 r2];refine SeqAt.EqAt.of_refs hab (SeqAt.RcAt.tuples p1 p2 hu' fun j j1 j2=>qVw h2 k2 r1 r2 (fun d e x y u v hm q1 q2 q3 q4=>?_) j j1 j2);exact ih A.in1 d e x y u v (aM (Dt.hgt_mem hm) hds) (by show A.units+1+n<cG;omega) q1 q2 q3 q4
    |_=>exact absurd (bO n) (by simpa[Dt.hgt] using hflat)
noncomputable def rEqD(K:aQ):R2:=fun x y H Q=>∃d e,qB K H x d/\qB K H y e/\d.hgt<=30/\Q (.bl (Dt.beq d e)) H
noncomputable def rNeD(K:aQ):R2:=fun x y H Q=>∃d e,qB K H x d/\qB K H y e/\d.hgt<=30/\Q (.bl (!Dt.beq d e)) H
theorem zKi(hu:X.A.units+64<cG):OpR X (bN .Eq) (rEqD X.K):=by
 intro pins s σ H x y u v Q I ru rv h;obtain⟨d,e,hx,hy,hd,q⟩:=h;have hu' :X.A.units<cG:=by omega
 have fin:∀{k:Bool},SeqAt.RcAt X.A s u v k->k=Dt.beq d e->aI (model X.prog X.w) X.A (bN .Eq u v) (EP X pins σ Q) X.xe s:=fun {k} r ek=>by
  subst ek;exact r _ _ _ _ (vX I q rfl)
 cases d with
 | non=>
   have hx' :x=.non :=by simpa[qB] using hx
   subst hx';cases(show u=Value.none from ru);cases e with
   | non=>
     have hy' :y=.non :=by simpa[qB] using hy
     subst hy';cases(show v=Value.none from rv);exact fin SeqAt.RcAt.none_none rfl
   | int j=>
     have hy' :y=.int j:=by simpa[qB] using hy
     subst hy';obtain⟨t,rfl⟩:=(show∃t,v=Value.int j t from rv)
     exact fin (SeqAt.RcAt.none_int _ _) rfl
   | str j=>
     have hy' :y=.str j:=by simpa[qB] using hy
     subst hy';obtain⟨t,rfl⟩:=(show∃t,v=Value.str j t from rv)
     exact fin (SeqAt.RcAt.none_str _ _) rfl
   | tup es=>
     obtain⟨r,ws,rfl,k1,k2⟩:=hy.un;cases(show v=Value.ref r from rv);obtain⟨its,_,p,_⟩:=I.tuple k1;exact fin (SeqAt.RcAt.none_tuple p hu') rfl
 | int i=>
   have hx' :x=.int i:=by simpa[qB] using hx
   subst hx';obtain⟨t,rfl⟩:=(show∃t,u=Value.int i t from ru)
   cases e with
   | non=>
     have hy' :y=.non :=by simpa[qB] using hy
     subst hy';cases(show v=Value.none from rv);exact fin (SeqAt.RcAt.int_none _ _) rfl
   | int j=>
     have hy' :y=.int j:=by simpa[qB] using hy
     subst hy';obtain⟨t,rfl⟩:=(show∃t,v=Value.int j t from rv)
     exact fin (SeqAt.RcAt.int_int _ _ _ _) rfl
   | str j=>
     have hy' :y=.str j:=by simpa[qB] using hy
     subst hy';obtain⟨t,rfl⟩:=(show∃t,v=Value.str j t from rv)
     exact fin (SeqAt.RcAt.int_str _ _ _ _) rfl
   | tup es=>
     obtain⟨r,ws,rfl,k1,k2⟩:=hy.un;cases(show v=Value.ref r from rv);obtain⟨its,_,p,_⟩:=I.tuple k1;exact fin (SeqAt.RcAt.int_tuple _ _ p hu') rfl
 | str i=>
   have hx' :x=.str i:=by simpa[qB] using hx
   subst hx';obtain⟨t,rfl⟩:=(show∃t,u=Value.str i t from ru)
   cases e with
   | non=>
     have hy' :y=.non :=by simpa[qB] using hy
     subst hy';cases(show v=Value.none from rv);exact fin (SeqAt.RcAt.str_none _ _) rfl
   | int j=>
     have hy' :y=.int j:=by simpa[qB] using hy
     subst hy';obtain⟨t,rfl⟩:=(show∃t,v=Value.int j t from rv)
     exact fin (SeqAt.RcAt.str_int _ _ _ _) rfl
   | str j=>
     have hy' :y=.str j:=by simpa[qB] using hy
     subst hy';obtain⟨t,rfl⟩:=(show∃t,v=Value.str j t from rv)
     exact fin (SeqAt.RcAt.str_str _ _ _ _) rfl
   | tup es=>
     obtain⟨r,ws,rfl,k1,k2⟩:=hy.un;cases(show v=Value.ref r from rv);obtain⟨its,_,p,_⟩:=I.tuple k1;exact fin (SeqAt.RcAt.str_tuple _ _ p hu') rfl
 | tup ds=>
   obtain⟨a,vs,rfl,h1,h2⟩:=hx.un;cases(show u=Value.ref a from ru);obtain⟨its,r1,p1,_⟩:=I.tuple h1;cases e with
   | non=>
     have hy' :y=.non :=by simpa[qB] using hy
     subst hy';cases(show v=Value.none from rv);exact fin (SeqAt.RcAt.tuple_none p1 hu') rfl
   | int j=>
     have hy' :y=.int j:=by simpa[qB] using hy
     subst hy';obtain⟨t,rfl⟩:=(show∃t,v=Value.int j t from rv)
     exact fin (SeqAt.RcAt.tuple_int _ _ p1 hu') rfl
   | str j=>
     have hy' :y=.str j:=by simpa[qB] using hy
     subst hy';obtain⟨t,rfl⟩:=(show∃t,v=Value.str j t from rv)
     exact fin (SeqAt.RcAt.tuple_str _ _ p1 hu') rfl
   | tup es=>
     obtain⟨b,ws,rfl,k1,k2⟩:=hy.un;cases(show v=Value.ref b from rv);obtain⟨its2,r2,p2,_⟩:=I.tuple k1;refine fin (SeqAt.RcAt.tuples p1 p2 hu' fun j j1 j2=>qVw h2 k2 r1 r2 (fun d e x y u v hm q1 q2 q3 q4=>?_) j j1 j2) ((qZk h2 k2 r1 r2).trans (by simp[Dt.beq]));exact qJy I 30 X.A.in1 d e x y u v (aM (Dt.hgt_mem hm) (by simp[Dt.hgt]at hd;omega)) (by show X.A.units+1+30<cG;omega) q1 q2 q3 q4
theorem zKd(hu:X.A.units+64<cG):OpR X (bN .NotEq) (rNeD X.K):=by
 intro pins s σ H x y u v Q I ru rv h;obtain⟨d,e,hx,hy,hd,q⟩:=h;have hu' :X.A.units<cG:=by omega
 have fin:∀{k:Bool},SeqAt.RcNeAt X.A s u v k->k= !Dt.beq d e->aI (model X.prog X.w) X.A (bN .NotEq u v) (EP X pins σ Q) X.xe s:=fun {k} r ek=>by
  subst ek;exact r _ _ _ _ (vX I q rfl)
 cases d with
 | non=>
   have hx' :x=.non :=by simpa[qB] using hx
   subst hx';cases(show u=Value.none from ru);cases e with
   | non=>
     have hy' :y=.non :=by simpa[qB] using hy
     subst hy';cases(show v=Value.none from rv);exact fin SeqAt.RcNeAt.none_none rfl
   | int j=>
     have hy' :y=.int j:=by simpa[qB] using hy
     subst hy';obtain⟨t,rfl⟩:=(show∃t,v=Value.int j t from rv)
     exact fin (SeqAt.RcNeAt.none_int _ _) rfl
   | str j=>
     have hy' :y=.str j:=by simpa[qB] using hy
     subst hy';obtain⟨t,rfl⟩:=(show∃t,v=Value.str j t from rv)
     exact fin (SeqAt.RcNeAt.none_str _ _) rfl
   | tup es=>
     obtain⟨r,ws,rfl,k1,k2⟩:=hy.un;cases(show v=Value.ref r from rv);obtain⟨its,_,p,_⟩:=I.tuple k1;exact fin (SeqAt.RcNeAt.none_tuple p hu') rfl
 | int i=>
   have hx' :x=.int i:=by simpa[qB] using hx
   subst hx';obtain⟨t,rfl⟩:=(show∃t,u=Value.int i t from ru)
   cases e with
   | non=>
     have hy' :y=.non :=by simpa[qB] using hy
     subst hy';cases(show v=Value.none from rv);exact fin (SeqAt.RcNeAt.int_none _ _) rfl
   | int j=>
     have hy' :y=.int j:=by simpa[qB] using hy
     subst hy';obtain⟨t,rfl⟩:=(show∃t,v=Value.int j t from rv)
     exact fin (SeqAt.RcNeAt.int_int _ _ _ _) rfl
   | str j=>
     have hy' :y=.str j:=by simpa[qB] using hy
     subst hy';obtain⟨t,rfl⟩:=(show∃t,v=Value.str j t from rv)
     exact fin (SeqAt.RcNeAt.int_str _ _ _ _) rfl
   | tup es=>
     obtain⟨r,ws,rfl,k1,k2⟩:=hy.un;cases(show v=Value.ref r from rv);obtain⟨its,_,p,_⟩:=I.tuple k1;exact fin (SeqAt.RcNeAt.int_tuple _ _ p hu') rfl
 | str i=>
   have hx' :x=.str i:=by simpa[qB] using hx
   subst hx';obtain⟨t,rfl⟩:=(show∃t,u=Value.str i t from ru)
   cases e with
   | non=>
     have hy' :y=.non :=by simpa[qB] using hy
     subst hy';cases(show v=Value.none from rv);exact fin (SeqAt.RcNeAt.str_none _ _) rfl
   | int j=>
     have hy' :y=.int j:=by simpa[qB] using hy
     subst hy';obtain⟨t,rfl⟩:=(show∃t,v=Value.int j t from rv)
     exact fin (SeqAt.RcNeAt.str_int _ _ _ _) rfl
   | str j=>
     have hy' :y=.str j:=by simpa[qB] using hy
     subst hy';obtain⟨t,rfl⟩:=(show∃t,v=Value.str j t from rv)
     exact fin (SeqAt.RcNeAt.str_str _ _ _ _) rfl
   | tup es=>
     obtain⟨r,ws,rfl,k1,k2⟩:=hy.un;cases(show v=Value.ref r from rv);obtain⟨its,_,p,_⟩:=I.tuple k1;exact fin (SeqAt.RcNeAt.str_tuple _ _ p hu') rfl
 | tup ds=>
   obtain⟨a,vs,rfl,h1,h2⟩:=hx.un;cases(show u=Value.ref a from ru);obtain⟨its,r1,p1,_⟩:=I.tuple h1;cases e with
   | non=>
     have hy' :y=.non :=by simpa[qB] using hy
     subst hy';cases(show v=Value.none from rv);exact fin (SeqAt.RcNeAt.tuple_none p1 hu') rfl
   | int j=>
     have hy' :y=.int j:=by simpa[qB] using hy
     subst hy';obtain⟨t,rfl⟩:=(show∃t,v=Value.int j t from rv)
     exact fin (SeqAt.RcNeAt.tuple_int _ _ p1 hu') rfl
   | str j=>
     have hy' :y=.str j:=by simpa[qB] using hy
     subst hy';obtain⟨t,rfl⟩:=(show∃t,v=Value.str j t from rv)
     exact fin (SeqAt.RcNeAt.tuple_str _ _ p1 hu') rfl
   | tup es=>
     obtain⟨b,ws,rfl,k1,k2⟩:=hy.un;cases(show v=Value.ref b from rv);obtain⟨its2,r2,p2,_⟩:=I.tuple k1;refine fin (SeqAt.RcNeAt.tuples p1 p2 hu' fun j j1 j2=>qVw h2 k2 r1 r2 (fun d e x y u v hm q1 q2 q3 q4=>?_) j j1 j2) (congrArg not ((qZk h2 k2 r1 r2).trans (by simp[Dt.beq])));exact qJy I 30 X.A.in1 d e x y u v (aM (Dt.hgt_mem hm) (by simp[Dt.hgt]at hd;omega)) (by show X.A.units+1+30<cG;omega) q1 q2 q3 q4
theorem vZc{ds:List Dt}(h:DatsAt X.K H vs ds)(k:DatsAt X.K H ws es)(r1:Vals vs its)(r2:Vals ws its2)(hsz:its.toArray.size=its2.toArray.size):
  (List.range its.toArray.size).all (fun j=>Dt.beq (ds.getD j .non) (es.getD j .non))=Dt.beqs ds es:=by
 have e:=qZk h k r1 r2;rw[hsz,Nat.min_self,beq_self_eq_true,Bool.and_true]at e;rw[hsz];exact e
theorem vZb{ds:List Dt}(h:DatsAt X.K H vs ds)(k:DatsAt X.K H ws es)(r1:Vals vs its)(r2:Vals ws its2)(hsz:its.toArray.size≠its2.toArray.size):Dt.beqs ds es=false:=by
 refine Dt.beqs_ne fun z=>hsz ?_
 have l1:=r1.length;have l2:=r2.length;have m1:=h.length;have m2:=k.length;grind
noncomputable def rEqL(K:aQ):R2:=fun x y H Q=>∃a b vs ws ds es,x=.ref a/\y=.ref b/\SqL K H a vs/\SqL K H b ws/\DatsAt K H vs ds/\DatsAt K H ws es/\Dt.hgts ds<=30/\Q (.bl (Dt.beqs ds es)) H
noncomputable def rNeL(K:aQ):R2:=fun x y H Q=>∃a b vs ws ds es,x=.ref a/\y=.ref b/\SqL K H a vs/\SqL K H b ws/\DatsAt K H vs ds/\DatsAt K H ws es/\Dt.hgts ds<=30/\Q (.bl (!Dt.beqs ds es)) H
theorem zKh(hu:X.A.units+64<cG):OpR X (bN .Eq) (rEqL X.K):=by
 intro pins s σ H x y u v Q I ru rv h;obtain⟨a,b,vs,ws,ds,es,rfl,rfl,ha,hb,h2,k2,hd,q⟩:=h;have hu' :X.A.units<cG:=by omega
 cases(show u=Value.ref a from ru);cases(show v=Value.ref b from rv);obtain⟨its,r1,p1,_⟩:=I.list ha;obtain⟨its2,r2,p2,_⟩:=I.list hb;by_cases hsz:its.toArray.size=its2.toArray.size
 ·have r:=SeqAt.RcAt.lists p1.isList p2.isList hsz hu' fun j j1 j2=>qVw h2 k2 r1 r2 (fun d e x y u v hm q1 q2 q3 q4=>
   qJy I 30 X.A.in1 d e x y u v (aM (Dt.hgt_mem hm) hd) (by show X.A.units+1+30<cG;omega) q1 q2 q3 q4) j j1 j2
  rw[vZc h2 k2 r1 r2 hsz]at r;exact r _ _ _ _ (vX I q rfl)
 ·have r:=SeqAt.RcAt.lists_lengths p1.isList p2.isList (by simpa using hsz) hu';rw[vZb h2 k2 r1 r2 hsz]at q;exact r _ _ _ _ (vX I q rfl)
theorem zKc(hu:X.A.units+64<cG):OpR X (bN .NotEq) (rNeL X.K):=by
 intro pins s σ H x y u v Q I ru rv h;obtain⟨a,b,vs,ws,ds,es,rfl,rfl,ha,hb,h2,k2,hd,q⟩:=h;have hu' :X.A.units<cG:=by omega
 cases(show u=Value.ref a from ru);cases(show v=Value.ref b from rv);obtain⟨its,r1,p1,_⟩:=I.list ha;obtain⟨its2,r2,p2,_⟩:=I.list hb;by_cases hsz:its.toArray.size=its2.toArray.size
 ·have r:=SeqAt.RcNeAt.lists p1.isList p2.isList hsz hu' fun j j1 j2=>qVw h2 k2 r1 r2 (fun d e x y u v hm q1 q2 q3 q4=>
   qJy I 30 X.A.in1 d e x y u v (aM (Dt.hgt_mem hm) hd) (by show X.A.units+1+30<cG;omega) q1 q2 q3 q4) j j1 j2
  rw[vZc h2 k2 r1 r2 hsz]at r;exact r _ _ _ _ (vX I q rfl)
 ·have r:=SeqAt.RcNeAt.lists_lengths p1.isList p2.isList (by simpa using hsz) hu';rw[vZb h2 k2 r1 r2 hsz]at q;exact r _ _ _ _ (vX I q rfl)
theorem vKe:zL X (.builtin "isinstance") (fun xs H Q=>∃a vs n b,xs=[.ref a,.ty n]/\SqT X.K H a vs/\cX X.K (.type "tuple") (.type n)=some b/\Q (.bl b) H):=by
 intro pins s σ H xs us Q I r h;obtain⟨a,vs,n,b,rfl,ht,e,q⟩:=h;obtain⟨u,w',rfl,r1,r2⟩:=vKi r;cases(show u=Value.ref a from r1);cases(show w' =Value.type n from r2);obtain⟨its,_,⟨o,h1,h2,_⟩,_⟩:=I.tuple ht;exact bI PySem.W.kitx_tuple I.kIn ⟨o,h1,h2⟩ e (fun z=>nomatch z) fun tk=>⟨.bl b,H,I.tok tk,rfl,q⟩
end
structure Feed(i l:aZ)(P:Nat->Heap->Prop)(f:Nat->Option Value):Prop where
 obj:∀k h,P k h->∃o,h.get? i=some o/\∀v,o.data≠ .cell v
 keep:∀k (h g:Heap),P k h->(∀b o,b=i\/b=l->h.get? b=some o->g.get? b=some o)->P k g
 item:∀{prog:aT} {w:bY} {A:bR} {E:Value->aJ->Prop} {s:aJ} {k:Nat} {x:Value} {Q:Value->aJ->Prop},P k s.heap->f k=some x->
  (∀g,P (k+1) g->dL i s.heap g->Q x {s with heap:=g})->aI (model prog w) A (Builtin.SmallTypes.nextOf (.ref i)) Q E s
 stop:∀{prog:aT} {w:bY} {A:bR} {E:Value->aJ->Prop} {s:aJ} {k:Nat} {Q:Value->aJ->Prop},A.handled=none->P k s.heap->f k=none->
  (∀g e,Heap.ExtBut i s.heap g->(∃o,g.get? e=some o/\o.cls=.type "StopIteration")->E (.ref e) {s with heap:=g})->aI (model prog w) A (Builtin.SmallTypes.nextOf (.ref i)) Q E s
section
variable{prog:aT}{w:bY}{A:bR}{E:Value->aJ->Prop}{s:aJ}
theorem vJx{i l:aZ}(hil:l≠i)(xs:Array Value):Feed i l (fun k h=>h.IsTupleIter i l k/\h.IsTuple l xs) (fun k=>xs[k]?) where
 obj:=fun k h p=>by
  obtain⟨⟨o,e,_,d⟩,_⟩:=p;exact⟨o,e,fun v z=>by rw[d]at z;cases z⟩
 keep:=fun k h g p q=>⟨p.1.at fun o e=>q i o (.inl rfl) e,by
  obtain⟨o,e,r⟩:=p.2;exact⟨o,q l o (.inr rfl) e,r⟩⟩
 item:=by
  intro prog w A E s k x Q p hx hQ;obtain⟨⟨oi,ei,ci,di⟩,⟨ol,el,cl,nl,dl⟩⟩:=id p;unfold Builtin.SmallTypes.nextOf;refine aV (dO (name:=Str.ofString "__next__") p.1.typeIs dJ (cS dJ p.1.typeIs PySem.F.entry_tuple_iterator_next ?_ (PySem.F.args_tuple_iterator_next_1 _)));show aI _ _ (field (.ref i) 0 >>=_) _ _ s;refine aV (cN ei di (x:=.ref l) rfl ?_);show aI _ _ (if(Value.ref l == Value.none)=true then _ else _) _ _ s;rw[if_neg (show¬((Value.ref l == Value.none)=true) from aR)];show aI _ _ (field (.ref i) 1 >>=_) _ _ s;refine aV (cN ei di (x:=.int k 0) rfl ?_);show aI _ _ (seqItems? (.ref l) >>=_) _ _ s;refine aV (dY el dl ?_);have hx' :xs[k]?=some x:=hx;simp only[eZ,hx'];refine aV (wpAny_setField ei di (by simp) (aP ⟨x,rfl,aP (hQ _ ⟨?_,?_⟩ (Heap.SameBut.update ..))⟩))
  ·exact⟨_,dA _ ei (Obj.isFreed_of_fields (Obj.data_mapFields di _)),(Obj.cls_mapFields ..).trans ci,by rw[Obj.data_mapFields di];simp[rawInt]⟩
  ·exact⟨ol,((Heap.SameBut.update ..).2 l hil).trans el,cl,nl,dl⟩
 stop:=by
  intro prog w A E s k Q hh p hx hE;obtain⟨⟨oi,ei,ci,di⟩,⟨ol,el,cl,nl,dl⟩⟩:=id p;unfold Builtin.SmallTypes.nextOf;refine aV (dO (name:=Str.ofString "__next__") p.1.typeIs dJ (cS dJ p.1.typeIs PySem.F.entry_tuple_iterator_next ?_ (PySem.F.args_tuple_iterator_next_1 _)));show aI _ _ (field (.ref i) 0 >>=_) _ _ s;refine aV (cN ei di (x:=.ref l) rfl ?_);show aI _ _ (if(Value.ref l == Value.none)=true then _ else _) _ _ s;rw[if_neg (show¬((Value.ref l == Value.none)=true) from aR)];show aI _ _ (field (.ref i) 1 >>=_) _ _ s;refine aV (cN ei di (x:=.int k 0) rfl ?_);show aI _ _ (seqItems? (.ref l) >>=_) _ _ s;refine aV (dY el dl ?_);have hx' :xs[k]?=none:=hx;simp only[eZ,hx'];refine aV (wpAny_rule (aV (wpAny_setField ei di (by simp) ?_)));show aI _ _ (newExc (.type "StopIteration") [] >>=_) _ _ _;refine aV ?_
  simp only[newExc,newTuple];refine aV (cD ?_ (by size_fits));refine aV (m:=firstArgMember _ _) (wpAny_of_eq (a:=Value.none) (by first|rfl|(simp only[firstArgMember];rfl)) (cD ?_ (by size_fits)));simp only[raiseNew];refine aV (wpAny_handled ?_);first|rw[show A.in1.handled=none from hh]|rw[hh]
  refine aV (aP (wpAny_throw ?_));exact hE _ _ (((Heap.SameBut.update ..).extBut.push _).push _) ⟨_,aC _ rfl,rfl⟩
variable{z TI TO i1 i2 l1 l2:aZ}{P1 P2:Nat->Heap->Prop}{f1 f2:Nat->Option Value}{k1 k2:Nat}{x y a b:Value}
theorem vXu(F1:Feed i1 l1 P1 f1)(F2:Feed i2 l2 P2 f2)(D:ZipApart z TI TO i1 i2 l1 l2)(hz:IsZip s.heap z TI TO .none)(hI:IsPair s.heap TI (.ref i1) (.ref i2))(hO:IsPair s.heap TO a b)(p1:P1 k1 s.heap)(p2:P2 k2 s.heap)(hx:f1 k1=some x)(hy:f2 k2=some y)(hQ:∀g,IsZip g z TI TO (rawInt s.heap.objs.size)->IsPair g TO x y->P1 (k1+1) g->P2 (k2+1) g->IsPair g s.heap.objs.size x y->
   (∀c o,c≠z->c≠TO->c≠i1->c≠i2->s.heap.get? c=some o->g.get? c=some o)->Q (some (.ref s.heap.objs.size)) {s with heap:=g}):
  aI (model prog w) A (pyNext (.ref z)) Q E s:=by
 have ty:s.TypeIs (.ref z) "zip":=⟨_,hz,rfl⟩
 unfold pyNext;refine aV (wpAny_attempt (dO (name:=Str.ofString "__next__") ty PySem.F.slot_zip_next (cS PySem.F.slot_zip_next ty PySem.F.entry_zip_next ?_ (PySem.F.args_zip_next_1 _))));show aI _ _ (field (.ref z) 2 >>=_) _ _ _;refine aV (cN hz rfl (x:=.bool false) rfl ?_);show aI _ _ (field (.ref z) 3 >>=_) _ _ _;refine aV (cN hz rfl (x:=.ref TI) rfl (aV (dY hI rfl ?_)));show aI _ _ (Builtin.SmallTypes.ownedTupleIsFree (.ref z) >>=_) _ _ _;refine aV ?_
 unfold Builtin.SmallTypes.ownedTupleIsFree;refine aV (cN hz rfl (x:=.none) rfl (aP ?_));simp only[if_true];refine aV (wpAny_rule (aV (cN hz rfl (x:=.ref TO) rfl ?_)));refine aV (dW hz (by simp) fun g1 z1 b1=>?_);replace z1:IsZip g1 z TI TO .ellipsis :=z1;refine aV ?_
 simp only[List.zipIdx_cons,List.zipIdx_nil,List.forIn_cons,List.forIn_nil];refine aV (aV (wpAny_onRaise ?_));show aI _ _ (Builtin.SmallTypes.nextOf (.ref i1) >>=_) _ _ _;have q1:P1 k1 g1:=F1.keep _ _ _ p1 fun c o hc e=>b1.extBut _ _ (by rcases hc with rfl|rfl;exact D.i1z;exact D.l1z) e
 refine aV (F1.item q1 hx fun g2 r1 b2=>aP ?_);have O2:IsPair g2 TO a b:=b2.extBut _ _ D.TOi1 (b1.extBut _ _ D.TOz hO);refine aV (dY O2 rfl (aV (wpAny_updateSeq_pair O2 fun g3 O3 b3=>?_)));replace O3:IsPair g3 TO x b:=O3;refine aV (wpAny_letGo (aP (aV (aV (wpAny_onRaise ?_)))));show aI _ _ (Builtin.SmallTypes.nextOf (.ref i2) >>=_) _ _ _;have q2:P2 k2 g3:=F2.keep _ _ _ p2 fun c o hc e=>b3.extBut _ _ (by rcases hc with rfl|rfl;exact D.TOi2.symm;exact D.l2TO) (b2.extBut _ _ (by rcases hc with rfl|rfl;exact D.i12.symm;exact D.l2i1) (b1.extBut _ _ (by rcases hc with rfl|rfl;exact D.i2z;exact D.l2z) e))
 refine aV (F2.item q2 hy fun g4 r2 b4=>aP ?_);have O4:IsPair g4 TO x b:=b4.extBut _ _ D.TOi2 O3;refine aV (dY O4 rfl (aV (wpAny_updateSeq_pair O4 fun g5 O5 b5=>?_)));replace O5:IsPair g5 TO x y:=O5;refine aV (wpAny_letGo (aP (aP (aV (dY O5 rfl (aV (wpAny_newTuple ?_)))))));have sz:g5.objs.size=s.heap.objs.size:=by rw[b5.1,b4.1,b3.1,b2.1,b1.1]
 have z5:IsZip g5 z TI TO .ellipsis :=b5.extBut _ _ D.TOz.symm (b4.extBut _ _ D.i2z.symm (b3.extBut _ _ D.TOz.symm (b2.extBut _ _ D.i1z.symm z1)));have all5:∀c o,c≠z->c≠TO->c≠i1->c≠i2->s.heap.get? c=some o->g5.get? c=some o:=fun c o n1 n2 n3 n4 e=>
  b5.extBut _ _ n2 (b4.extBut _ _ n4 (b3.extBut _ _ n2 (b2.extBut _ _ n3 (b1.extBut _ _ n1 e))))
 have s1:P1 (k1+1) g5:=F1.keep _ _ _ r1 fun c o hc e=>b5.extBut _ _ (by rcases hc with rfl|rfl;exact D.TOi1.symm;exact D.l1TO) (b4.extBut _ _ (by rcases hc with rfl|rfl;exact D.i12;exact D.l1i2) (b3.extBut _ _ (by rcases hc with rfl|rfl;exact D.TOi1.symm;exact D.l1TO) e))
 have s2:P2 (k2+1) g5:=F2.keep _ _ _ r2 fun c o hc e=>b5.extBut _ _ (by rcases hc with rfl|rfl;exact D.TOi2.symm;exact D.l2TO) e
 have ltz:z<g5.objs.size:=aE z5;show aI _ _ (Builtin.SmallTypes.ownedTupleHandOut (.ref z) (.ref g5.objs.size) >>=_) _ _ _;refine aV ?_
 unfold Builtin.SmallTypes.ownedTupleHandOut;have z6:IsZip (g5.push {cls:=.type "tuple",data:=.seq #[x,y]}) z TI TO .ellipsis :=aX _ z5;refine aV (dW z6 (by simp) fun g7 z7 b7=>?_);replace z7:IsZip g7 z TI TO (rawInt g5.objs.size):=z7;refine dW z7 (by simp) fun g8 z8 b8=>?_
 replace z8:IsZip g8 z TI TO (rawInt g5.objs.size):=z8;have up:∀c o,c≠z->g5.get? c=some o->g8.get? c=some o:=fun c o n e=>b8.extBut _ _ n (b7.extBut _ _ n (aX _ e))
 have T8:IsPair g8 g5.objs.size x y:=b8.extBut _ _ (dU ltz) (b7.extBut _ _ (dU ltz) (aC _ rfl));rw[sz]at z8 T8;refine aP ⟨_,rfl,aP ?_⟩;show Q (some (.ref g5.objs.size)) _;rw[sz]
 exact hQ g8 z8 (up _ _ D.TOz O5) (F1.keep _ _ _ s1 fun c o hc e=>up c o (by rcases hc with rfl|rfl;exact D.i1z;exact D.l1z) e) (F2.keep _ _ _ s2 fun c o hc e=>up c o (by rcases hc with rfl|rfl;exact D.i2z;exact D.l2z) e) T8
  fun c o n1 n2 n3 n4 e=>up c o n1 (all5 c o n1 n2 n3 n4 e)
theorem zQz(hh:A.handled=none)(F1:Feed i1 l1 P1 f1)(F2:Feed i2 l2 P2 f2)(D:ZipApart z TI TO i1 i2 l1 l2)(hz:IsZip s.heap z TI TO .none)(hI:IsPair s.heap TI (.ref i1) (.ref i2))(hO:IsPair s.heap TO a b)(p1:P1 k1 s.heap)(p2:P2 k2 s.heap)(ends:f1 k1=none\/f2 k2=none)(hQ:∀g,(∀c o,c≠z->c≠TO->c≠i1->c≠i2->s.heap.get? c=some o->g.get? c=some o)->Q none {s with heap:=g}):aI (model prog w) A (pyNext (.ref z)) Q E s:=by
 have ty:s.TypeIs (.ref z) "zip":=⟨_,hz,rfl⟩
 have last:∀(g:Heap) (e:aZ),(∀c o,c≠z->c≠TO->c≠i1->c≠i2->s.heap.get? c=some o->g.get? c=some o)->(∃o,g.get? e=some o/\o.cls=.type "StopIteration")->
   aI (model prog w) A (do let b ←isInstance (.ref e) (.type "StopIteration");if b=true then pure none else throw (.ref e)) Q E {s with heap:=g}:=fun g e k1 k2=>by
  obtain⟨o,ho,hc⟩:=k2;refine aV (wpAny_isInstance (T:="StopIteration") (b:=true) ⟨o,ho,hc⟩ isSubtype_stop ?_);exact aP (hQ g k1)
 unfold pyNext;refine aV (wpAny_attempt (dO (name:=Str.ofString "__next__") ty PySem.F.slot_zip_next (cS PySem.F.slot_zip_next ty PySem.F.entry_zip_next ?_ (PySem.F.args_zip_next_1 _))));show aI _ _ (field (.ref z) 2 >>=_) _ _ _;refine aV (cN hz rfl (x:=.bool false) rfl ?_);show aI _ _ (field (.ref z) 3 >>=_) _ _ _;refine aV (cN hz rfl (x:=.ref TI) rfl (aV (dY hI rfl ?_)));show aI _ _ (Builtin.SmallTypes.ownedTupleIsFree (.ref z) >>=_) _ _ _;refine aV ?_
 unfold Builtin.SmallTypes.ownedTupleIsFree;refine aV (cN hz rfl (x:=.none) rfl (aP ?_));simp only[if_true];refine aV (wpAny_rule (aV (cN hz rfl (x:=.ref TO) rfl ?_)));refine aV (dW hz (by simp) fun g1 z1 b1=>?_);replace z1:IsZip g1 z TI TO .ellipsis :=z1;refine aV ?_
 simp only[List.zipIdx_cons,List.zipIdx_nil,List.forIn_cons,List.forIn_nil];refine aV (aV (wpAny_onRaise ?_));show aI _ _ (Builtin.SmallTypes.nextOf (.ref i1) >>=_) _ _ _;have q1:P1 k1 g1:=F1.keep _ _ _ p1 fun c o hc e=>b1.extBut _ _ (by rcases hc with rfl|rfl;exact D.i1z;exact D.l1z) e
 cases hx:f1 k1 with
 | none=>
   refine aV (F1.stop hh q1 hx fun g2 e b2 he=>?_);obtain⟨oe,hoe,hce⟩:=he;have z2:IsZip g2 z TI TO .ellipsis :=b2 _ _ D.i1z.symm z1;have ez:e≠z:=fun q=>by subst q;rw[z2]at hoe;cases hoe;simp at hce
   exact dW z2 (by simp) fun g3 _ b3=>last g3 e (fun c o n1 _ n3 _ q=>b3.extBut _ _ n1 (b2 _ _ n3 (b1.extBut _ _ n1 q))) ⟨oe,b3.extBut _ _ ez hoe,hce⟩
 | some x=>
   have hy:f2 k2=none:=by
    rcases ends with q|q
    ·rw[hx]at q;cases q
    ·exact q
   refine aV (F1.item q1 hx fun g2 r1 b2=>aP ?_);have O2:IsPair g2 TO a b:=b2.extBut _ _ D.TOi1 (b1.extBut _ _ D.TOz hO);refine aV (dY O2 rfl (aV (wpAny_updateSeq_pair O2 fun g3 O3 b3=>?_)));refine aV (wpAny_letGo (aP (aV (aV (wpAny_onRaise ?_)))));show aI _ _ (Builtin.SmallTypes.nextOf (.ref i2) >>=_) _ _ _;have q2:P2 k2 g3:=F2.keep _ _ _ p2 fun c o hc e=>b3.extBut _ _ (by rcases hc with rfl|rfl;exact D.TOi2.symm;exact D.l2TO) (b2.extBut _ _ (by rcases hc with rfl|rfl;exact D.i12.symm;exact D.l2i1) (b1.extBut _ _ (by rcases hc with rfl|rfl;exact D.i2z;exact D.l2z) e))
   refine aV (F2.stop hh q2 hy fun g4 e b4 he=>?_);obtain⟨oe,hoe,hce⟩:=he;have z4:IsZip g4 z TI TO .ellipsis :=b4 _ _ D.i2z.symm (b3.extBut _ _ D.TOz.symm (b2.extBut _ _ D.i1z.symm z1));have ez:e≠z:=fun q=>by subst q;rw[z4]at hoe;cases hoe;simp at hce
   exact dW z4 (by simp) fun g5 _ b5=>last g5 e (fun c o n1 n2 n3 n4 q=>b5.extBut _ _ n1 (b4 _ _ n4 (b3.extBut _ _ n2 (b2.extBut _ _ n3 (b1.extBut _ _ n1 q))))) ⟨oe,b5.extBut _ _ ez hoe,hce⟩
end
end L2
namespace L2
open PySem PySem.Spec PySem.W PyProof.Rows
noncomputable def qQh(ns:List Int):List Int:=firstMet (fun i=>ns.getD i 0) ns.length
theorem vJh(ns:List Int):(List.range ns.length).map (fun i=>ns.getD i 0)=ns:=by
 refine List.ext_getElem (by simp) fun i h1 h2=>?_
 simp[aF h2]
theorem qKt(ns:List Int)(k:Int):k∈qQh ns↔k∈ns:=by
 have h:=firstMet_any (fun i=>ns.getD i 0) ns.length k;rw[vJh]at h;have e:∀l:List Int,l.any (· == k)=true↔k∈l:=fun l=>by
  rw[List.any_eq_true];exact⟨fun⟨x,hx,z⟩=>(by simpa using z:x=k)▸hx,fun z=>⟨k,z,by simp⟩⟩
 rw[←e,←e];unfold qQh;rw[h]
theorem qV9(ns:List Int):(qQh ns).Nodup :=by
 unfold qQh firstMet;have:∀(l acc:List Int),acc.Nodup->(l.foldl step_dedup acc).Nodup :=fun l=>by
  induction l with
  |nil=>intro acc h;exact h
  | cons x l ih=>
    intro acc h;refine ih _ ?_
    unfold step_dedup;split
    ·exact h
    ·rename_i hn;rw[List.nodup_append];refine⟨h,List.pairwise_singleton _ _,fun a ha b hb z=>?_⟩;cases bJ.mp hb;subst z;exact hn (List.any_eq_true.mpr ⟨a,ha,by simp⟩)
 exact this _ _ List.nodup_nil
end L2
namespace L2
open PySem PySem.Spec PyProof.Rows
variable{u:Value}{y:V}{P:aT}{w:bY}{H H':Hp}{xs:List (List Key×aZ×Value)}{a:aZ}{Q:Value->aJ->Prop}{h':Heap}{X:Cx}{pins:List (aZ×Obj)}{σ:St}
section
variable{κ:Type}[DecidableEq κ]
noncomputable def valV(kvs:List (κ×V))(k:κ):Option V:=(kvs.find? fun kv=>decide (kv.1=k)).map (·.2)
noncomputable def putK(kvs:List (κ×V))(k:κ)(v:V):List (κ×V):=
 if(kvs.any fun kv=>decide (kv.1=k))=true then kvs.map (fun kv=>if kv.1=k then(kv.1,v) else kv) else kvs ++ [(k,v)]
theorem qJs{p:κ×V}{r:List (κ×V)}{k:κ}(e:p.1=k):valV (p::r) k=some p.2:=by simp[valV,List.find?_cons,e]
theorem qJt{p:κ×V}{r:List (κ×V)}{k:κ}(e:¬p.1=k):valV (p::r) k=valV r k:=by simp[valV,List.find?_cons,e]
theorem vVv(k:κ):∀kvs:List (κ×V),(kvs.any fun kv=>decide (kv.1=k))=(valV kvs k).isSome
 |[]=>rfl
 | p::r=>by
   rw[dC];by_cases e:p.1=k
   ·simp only[qJs e,decide_eq_true e,Bool.true_or,Option.isSome_some]
   ·rw[qJt e,decide_eq_false e,Bool.false_or];exact vVv k r
theorem qW3(kvs:List (κ×V))(k:κ)(v:V):(putK kvs k v).length <=kvs.length+1:=by
 unfold putK;grind
theorem RelO.isSome_eq{o:Option V}{u:Option Value}(r:RelO o u):o.isSome=u.isSome:=by
 cases o with
 | none=>cases u with
   |none=>rfl
   |some _=>exact(show False from r).elim
 | some _=>cases u with
   |none=>exact(show False from r).elim
   |some _=>rfl
theorem RelO.getD{o:Option V}{u:Option Value}{d:V}{d' :Value}(r:RelO o u)(rd:RelV d d'):RelV (o.getD d) (u.getD d'):=by
 cases o with
 | none=>cases u with
   |none=>exact rd
   |some _=>exact(show False from r).elim
 | some _=>cases u with
   |none=>exact(show False from r).elim
   |some _=>exact r
theorem KV.val{kvs:List (κ×V)}{vs:List (κ×Value)}(r:KV kvs vs)(k:κ):RelO (valV kvs k) (valueAt vs k):=by
 unfold KV at r;induction r with
 |nil=>exact True.intro
 | @cons p q ps qs h t ih=>
   obtain⟨h1,h2⟩:=h;by_cases e:p.1=k
   ·have e' :q.1=k:=h1.symm.trans e;have b:valueAt (q::qs) k=some q.2:=by simp[valueAt,List.find?_cons,e']
    rw[qJs e,b];exact h2
   ·have e' :¬q.1=k:=fun z=>e (h1.trans z)
    have b:valueAt (q::qs) k=valueAt qs k:=by simp[valueAt,List.find?_cons,e']
    rw[qJt e,b];exact ih
theorem KV.any{kvs:List (κ×V)}{vs:List (κ×Value)}(r:KV kvs vs)(k:κ):(kvs.any fun kv=>decide (kv.1=k))=vs.any fun kv=>decide (kv.1=k):=by
 unfold KV at r;induction r with
 |nil=>rfl
 |cons h t ih=>rw[dC,dC,ih,h.1]
theorem KV.repl{kvs:List (κ×V)}{vs:List (κ×Value)}(r:KV kvs vs)(k:κ)(ry:RelV y u):
  KV (kvs.map fun kv=>if kv.1=k then(kv.1,y) else kv) (vs.map fun kv=>if kv.1=k then(kv.1,u) else kv):=by
 induction r with
 |nil=>exact .nil
 | @cons p q ps qs h t ih=>
   rw[aS,aS];refine .cons ?_ ih;grind
theorem KV.put{kvs:List (κ×V)}{vs:List (κ×Value)}(r:KV kvs vs)(k:κ)(ry:RelV y u):KV (putK kvs k y) (stored vs k u):=by
 unfold putK stored;rw[r.any k];by_cases e:(vs.any fun kv=>decide (kv.1=k))=true
 ·rw[if_pos e,if_pos e];exact r.repl k ry
 ·rw[if_neg e,if_neg e];exact Paired.snoc r ⟨rfl,ry⟩
theorem KV.length{kvs:List (κ×V)}{vs:List (κ×Value)}(r:KV kvs vs):kvs.length=vs.length:=Paired.length r
end
theorem qKk{k:Key}(r:RelV (kV k) u):(zG P w).is k u=true:=by
 cases k with
 |inl i=>obtain⟨t,e⟩:=(show∃t,u=Value.int i t from r);subst e;exact vZq P w i t
 |inr x=>obtain⟨t,e⟩:=(show∃t,u=Value.str x t from r);subst e;exact vZp P w x t
theorem qKv:∀{ks:List Key} {us:List Value},Vals (ks.map kV) us->ItemsAre (zG P w) ks us
 |[],_,r=>by rw[List.map_nil]at r;cases r;exact .nil
 | k::ks,_,r=>by
   cases r with
   |cons h t=>exact .cons (qKk h) (qKv t)
noncomputable abbrev KT(H:Hp):List (List Key×V)->List (List Key×aZ×Value)->Prop:=Paired fun p q=>p.1=q.1/\H q.2.1=some (.tup (p.1.map kV))/\RelV p.2 q.2.2
theorem KT.val{kvs:List (List Key×V)}(r:KT H kvs xs)(k:List Key):RelO (valV kvs k) ((atKey xs k).map (·.2)):=by
 induction r with
 |nil=>exact True.intro
 | @cons p q ps qs h t ih=>
   obtain⟨h1,_,h2⟩:=h;by_cases e:p.1=k
   ·have e' :q.1=k:=h1.symm.trans e;have b:atKey (q::qs) k=some q.2:=by simp[atKey,e']
    rw[qJs e,b];exact h2
   ·have e' :¬q.1=k:=fun z=>e (h1.trans z)
    have b:atKey (q::qs) k=atKey qs k:=by simp[atKey,e']
    rw[qJt e,b];exact ih
theorem KT.repl{kvs:List (List Key×V)}(r:KT H kvs xs)(k:List Key)(ry:RelV y u):
  KT H (kvs.map fun kv=>if kv.1=k then(kv.1,y) else kv) (xs.map (putAt k u)):=by
 induction r with
 |nil=>exact .nil
 | @cons p q ps qs h t ih=>
   rw[aS,aS];refine .cons ?_ ih;obtain⟨h1,h2,h3⟩:=h;unfold putAt;grind
theorem KT.put{kvs:List (List Key×V)}(r:KT H kvs xs)(k:List Key){b:aZ}(hb:H b=some (.tup (k.map kV)))(ry:RelV y u):
  KT H (putK kvs k y) (storedH xs k b u):=by
 have e:(kvs.any fun kv=>decide (kv.1=k))=(atKey xs k).isSome :=by
  rw[vVv,(r.val k).isSome_eq,Option.isSome_map]
 unfold putK storedH;rw[e];by_cases q:(atKey xs k).isSome =true
 ·rw[if_pos q,if_pos q];exact r.repl k ry
 ·rw[if_neg q,if_neg q];exact Paired.snoc r ⟨rfl,hb,ry⟩
theorem KT.keeps{kvs:List (List Key×V)}(r:KT H kvs xs)(ht:∀b ys,H b=some (.tup ys)->H' b=some (.tup ys)):KT H' kvs xs:=
 Paired.mapP r fun _ _ z=>⟨z.1,ht _ _ z.2.1,z.2.2⟩
section
variable{P:aT}{w:bY}{H:Hp}{h:Heap}{a:aZ}
theorem zXn{u:HO}(ok:HOk P w H h)(e:Rd H a u):vS P w H h a u:=e.ok ok
theorem qWy{kvs:List (Key×V)}(ok:HOk P w H h)(e:Rd H a (.dK kvs)):kvs.length<=aA/\(a == eK)=false/\∃vs,KV kvs vs/\h.DictOf (zG P w) a vs:=
 show vS P w H h a (.dK kvs) from zXn ok e
theorem jVu{kvs:List (Key×V)}(ok:HOk P w H h)(e:H a=some (.dK kvs)):kvs.length<=aA/\(a == eK)=false/\∃vs,KV kvs vs/\h.DictOf (zG P w) a vs:=qWy ok (.inl e)
theorem qWa{ks:List Key}(ok:HOk P w H h)(e:H a=some (.tup (ks.map kV))):(tupleKind (zG P w)).is h ks a:=by
 obtain⟨_,its,r,o,h1,h2,n,h3⟩:=(show vS P w H h a (.tup (ks.map kV)) from ok a _ e)
 exact⟨o,its.toArray,n,h1,h2,h3,by simpa using qKv r⟩
theorem qXs{kvs:List (List Key×V)}(ok:HOk P w H h)(e:Rd H a (.dT kvs)):kvs.length<=aA/\(a == eK)=false/\
  ∃xs,KT H kvs xs/\h.DictOfH (tupleKind (zG P w)) a xs:=by
 obtain⟨z,y,xs,r,o,es,ep,h1,h2,h3,h4,h5⟩:=(show vS P w H h a (.dT kvs) from zXn ok e)
 refine⟨z,y,xs,r,o,es,ep,h1,h2,h3,h4,fun x hx=>?_,h5⟩;have all:∀{l:List (List Key×V)} {m:List (List Key×aZ×Value)},KT H l m->∀x∈m,(tupleKind (zG P w)).is h x.1 x.2.1:=by
  intro l m q;induction q with
  |nil=>intro x hx;exact nomatch hx
  | @cons p q ps qs hq t ih=>
    intro x hx;rcases aG.mp hx with e|hx
    ·subst e;exact qWa ok (by rw[←hq.1];exact hq.2.1)
    ·exact ih x hx
 exact all r x hx
theorem jVs{kvs:List (List Key×V)}(ok:HOk P w H h)(e:H a=some (.dT kvs)):kvs.length<=aA/\(a == eK)=false/\
  ∃xs,KT H kvs xs/\h.DictOfH (tupleKind (zG P w)) a xs:=qXs ok (.inl e)
end
noncomputable def DGet(H:Hp)(a:aZ)(y:V)(r:Option V):Prop:=
 (∃kvs k,Rd H a (.dK kvs)/\y=kV k/\r=valV kvs k)\/∃kvs k b,Rd H a (.dT kvs)/\y=.ref b/\H b=some (.tup (k.map kV))/\r=valV kvs k
noncomputable def DPut(H:Hp)(a:aZ)(y v:V)(H' :Hp):Prop:=
 (∃kvs k,H a=some (.dK kvs)/\y=kV k/\kvs.length<aA/\H' =upd H a (.dK (putK kvs k v)))\/
 ∃kvs k b,H a=some (.dT kvs)/\y=.ref b/\H b=some (.tup (k.map kV))/\kvs.length<aA/\H' =upd H a (.dT (putK kvs k v))
theorem DGet.k{kvs:List (Key×V)}{k:Key}(e:H a=some (.dK kvs)):DGet H a (kV k) (valV kvs k):=.inl ⟨kvs,k,.inl e,rfl,rfl⟩
theorem DPut.k{kvs:List (Key×V)}{k:Key}{v:V}(e:H a=some (.dK kvs))(hl:kvs.length<aA):DPut H a (kV k) v (upd H a (.dK (putK kvs k v))):=.inl ⟨kvs,k,e,rfl,hl,rfl⟩
section
variable{X:Cx}{pins:List (aZ×Obj)}{σ:St}{H:Hp}{s:aJ}{a:aZ}{y v:V}{u r:Value}{o:Option V}{A:bR}{E:Value->aJ->Prop}
theorem Inv.big(I:Inv X pins σ H s):eK<s.heap.objs.size:=by
 have h:cZ<s.heap.objs.size:=(I.mod.glob.keeps I.bk).lt;exact Nat.lt_trans (by decide) h
theorem vY3(hu:A.units+1<cG)(I:Inv X pins σ H s)(g:DGet H a y (some v))(ry:RelV y u)(h:∀w' s',Inv X pins σ H s' ->RelV v w' ->Q w' s'):
  aI (model X.prog X.w) A (getItem (.ref a) u) Q E s:=by
 rcases g with⟨kvs,k,e,ey,l⟩|⟨kvs,k,b,e,ey,eb,l⟩
 ·subst ey;obtain⟨z,hd,vs,rel,dd⟩:=qWy I.hok e;obtain⟨w',hw,rw'⟩:=RelO.some_of (v:=v) (o:=valueAt vs k) (by rw[l];exact rel.val k);exact wpAny_getItem_of (qKk ry) dd.mapOf hw (h w' _ (I.tok _) rw')
 ·subst ey;cases(show u=Value.ref b from ry);obtain⟨z,hd,xs,rel,dd⟩:=qXs I.hok e;obtain⟨w',hw,rw'⟩:=RelO.some_of (v:=v) (o:=(atKey xs k).map (·.2)) (by rw[l];exact rel.val k);obtain⟨p,hp,hp2⟩:=bX.mp hw;refine wpAny_getItem_heap (tupleKind_room_in1 hu) (qWa I.hok eb) dd hp ?_
  rw[hp2];exact h w' _ (I.tok _) rw'
theorem d_in(hu:A.units+1<cG)(I:Inv X pins σ H s)(g:DGet H a y o)(ry:RelV y u)(h:∀s',Inv X pins σ H s' ->Q (.bool o.isSome) s'):
  aI (model X.prog X.w) A (bN .In u (.ref a)) Q E s:=by
 rcases g with⟨kvs,k,e,ey,l⟩|⟨kvs,k,b,e,ey,eb,l⟩
 ·subst ey;obtain⟨z,hd,vs,rel,dd⟩:=qWy I.hok e;refine wpAny_in_of (qKk ry) hd dd.mapOf ?_
  rw[←(rel.val k).isSome_eq,←l];exact h _ (I.tok _)
 ·subst ey;cases(show u=Value.ref b from ry);obtain⟨z,hd,xs,rel,dd⟩:=qXs I.hok e;refine wpAny_in_heap (tupleKind_room_in1 hu) (qWa I.hok eb) hd dd ?_
  have q:=(rel.val k).isSome_eq;rw[Option.isSome_map]at q;rw[←q,←l];exact h _ (I.tok _)
theorem zXb(hu:A.units+1<cG)(I:Inv X pins σ H s)(g:DGet H a y o)(ry:RelV y u)(h:∀s',Inv X pins σ H s' ->Q (.bool (!o.isSome)) s'):
  aI (model X.prog X.w) A (bN .NotIn u (.ref a)) Q E s:=by
 rcases g with⟨kvs,k,e,ey,l⟩|⟨kvs,k,b,e,ey,eb,l⟩
 ·subst ey;obtain⟨z,hd,vs,rel,dd⟩:=qWy I.hok e;refine wpAny_notIn_of (qKk ry) hd dd.mapOf ?_
  rw[←(rel.val k).isSome_eq,←l];exact h _ (I.tok _)
 ·subst ey;cases(show u=Value.ref b from ry);obtain⟨z,hd,xs,rel,dd⟩:=qXs I.hok e;refine wpAny_notIn_heap (tupleKind_room_in1 hu) (qWa I.hok eb) hd dd ?_
  have q:=(rel.val k).isSome_eq;rw[Option.isSome_map]at q;rw[←q,←l];exact h _ (I.tok _)
theorem vXm{t' :Nat}{ob:HO}(I:Inv X pins σ H s)(mu:Mut (H a))(hs:dL a s.heap h')(he:∃q,h'.get? a=some q)(new:vS X.prog X.w (upd H a ob) h' a ob):
  Inv X pins σ (upd H a ob) {s with heap:=h',toks:=t' }:=
 I.write (x:=a) (e:=a) mu (.inl rfl) (fun b q hb z=>(hs.2 b hb).trans z) he new
theorem jQf{kvs:List (Key×V)}{vs:List (Key×Value)}(z:kvs.length<=aA)(hd:(a == eK)=false)(rel:KV kvs vs)(dd:h'.DictOf (zG P w) a vs):
  vS P w H' h' a (.dK kvs):=⟨z,hd,vs,rel,dd⟩
theorem vY2{Q:Unit->aJ->Prop}(hu:A.units+1<cG)(I:Inv X pins σ H s)(g:DPut H a y v H')(ry:RelV y u)(rv:RelV v r)(h:∀s',Inv X pins σ H' s' ->Q () s'):
  aI (model X.prog X.w) A (setItem (.ref a) u r) Q E s:=by
 rcases g with⟨kvs,k,e,ey,l,eH⟩|⟨kvs,k,b,e,ey,eb,l,eH⟩
 ·subst ey eH;obtain⟨z,hd,vs,rel,dd⟩:=jVu I.hok e;have hz:vs.length<=aA:=by rw[←rel.length];exact z
  have hl:(putK kvs k v).length <=aA:=by have:=qW3 kvs k v;omega
  refine wpAny_setItem_pairs (hsz:=hz) (qKk ry) dd fun h' dd' hs=>h _ ?_
  have he:∃q,h'.get? a=some q:=let ⟨q,_,_,hq,_⟩:=dd';⟨q,hq⟩;exact vXm I (by rw[e];exact True.intro) hs he (jQf hl hd (rel.put k rv) dd')
 ·subst ey eH;cases(show u=Value.ref b from ry);obtain⟨z,hd,xs,rel,dd⟩:=jVs I.hok e;have hz:xs.length<=aA:=by rw[←Paired.length rel];exact z
  have hl:(putK kvs k v).length <=aA:=by have:=qW3 kvs k v;omega
  refine wpAny_setItem_heap (hsz:=hz) (tupleKind_room_in1 hu) (qWa I.hok eb) dd fun h' dd' hs=>h _ ?_
  obtain⟨q,es,ep,hq,h2,h3,h4,_,h5⟩:=dd';refine vXm I (by rw[e];exact True.intro) hs ⟨q,hq⟩ ⟨hl,hd,_,(rel.put k eb rv).keeps fun c ys ec=>?_,q,es,ep,hq,h2,h3,h4,h5⟩;rw[vQ (jVe ec e (fun z=>nomatch z))];exact ec
end
section
variable{X:Cx}{pins:List (aZ×Obj)}{σ:St}{H:Hp}{s:aJ}{a:aZ}{kvs:List (Key×V)}{k:Key}{u:Value}{A:bR}{E:Value->aJ->Prop}
theorem jVx(I:Inv X pins σ H s)(e:Rd H a (.dK kvs))(h:∀t s',Inv X pins σ H s' ->Q (.int kvs.length t) s'):aI (model X.prog X.w) A (call (.builtin "len") [.ref a]) Q E s:=by
 obtain⟨z,hd,vs,rel,dd⟩:=qWy I.hok e;refine call_len_dict hd dd (by rw[←rel.length];rw[sizeLine_eq]at z;omega) ?_
 rw[←rel.length];exact h _ _ (I.tok _)
end
theorem vZu{s:aJ}{o:Option V}(I:Inv X pins σ H s)(g:DGet H a y o):s.TypeIs (.ref a) "dict":=by
 rcases g with⟨kvs,k,e,_,_⟩|⟨kvs,k,b,e,_,_,_⟩
 ·obtain⟨_,_,vs,_,dd⟩:=qWy I.hok e;exact dd.typeIs
 ·obtain⟨_,_,xs,_,dd⟩:=qXs I.hok e;exact dd.typeIs
noncomputable def jQt(td ty tv:TE):TS:=fun D σ H=>tv σ H fun v H1=>td σ H1 fun x H2=>ty σ H2 fun y H3=>∃a H4,x=.ref a/\DPut H3 a y v H4/\D.nx σ H4
section
variable{X:Cx}{o i e value:Expr}{pos pos' tpos:Pos}{td ty tv:TE}
theorem zJu(hu:X.A.units+1<cG)(ho:PE X o td)(hi:PE X i ty)(hv:PE X value tv)(hs:swapsWith value (some (.Subscript o i pos')) pos.line X.env=pure false):
  PS X (.Assign [.Subscript o i pos'] value pos) (jQt td ty tv):=by
 intro pins s σ H D I h;refine wpAny_Assign_Subscript (thn (hv pins s σ H _ I h) fun r s1 ⟨v,H1,I1,rv,q1⟩=>thn (ho pins s1 σ H1 _ I1 q1) fun u s2 ⟨x,H2,I2,rx,q2⟩=>thn (hi pins s2 σ H2 _ I2 q2) fun iv s3 ⟨y,H3,I3,ry,a,H4,ex,g,q3⟩=>?_) hs;subst ex;obtain rfl:u=Value.ref a:=rx;exact vY2 hu I3 g ry rv fun s4 I4=>⟨σ,H4,I4,q3⟩
end
theorem zZw(h:Heap)(hb:eK<h.objs.size):vS P w H (h.push {cls:=.type "dict",data:=.dict #[]}) h.objs.size (.dK []):=
 ⟨bO _,beq_eq_false_iff_ne.mpr (Ne.symm (bV hb)),[],.nil,Heap.DictOf.new h⟩
noncomputable def tDNewK:TE:=fun _ H Q=>∀p,H p=none->Q (.ref p) (upd H p (.dK []))
section
variable{X:Cx}{pos:Pos}
theorem zVq:PE X (.Dict [] [] pos) tDNewK:=fun pins s σ H Q I h=>
 wpAny_Dict_empty ⟨.ref s.heap.objs.size,_,I.laid (a:=s.heap.objs.size) (o:=.dK []) (t' :=s.toks) (fun _ _ q=>aX _ q) (aB _) (zZw s.heap I.big),rfl,h _ (I.hok.fresh (aB _))⟩
end
structure M1(X:Cx)(o:Expr)(m:Str)(apos:Pos)(e:Expr)(cpos:Pos):Prop where
 base:attributeBase o m X.env (eval o X.env)=eval o X.env
 few:((cV cpos (aY [e] X.env)).all (fun x=>!x.1) && (backToKw cpos (keywordEach [] X.env)).all (fun x=>x.1.isSome)
  && decide (([e]:List Expr).length+([]:List Keyword).length+(if([]:List Keyword).isEmpty then 0 else 1)<30))=true
 line:(apos.endLine == cpos.line)=true
 trees:cV cpos (aY [e] X.env)=[(false,eval e X.env)]
noncomputable def IsD(H:Hp)(a:aZ):Prop:=(∃kvs,Rd H a (.dK kvs))\/∃kvs,Rd H a (.dT kvs)
theorem zK1{s:aJ}(I:Inv X pins σ H s)(d:IsD H a):
  s.TypeIs (.ref a) "dict"/\(∀b,Value.ref a=.ref b->∃ob,s.heap.get? b=some ob/\ob.dict=none)/\(a == eK)=false:=by
 rcases d with⟨kvs,e⟩|⟨kvs,e⟩
 ·obtain⟨_,hd,vs,_,dd⟩:=qWy I.hok e;refine⟨dd.typeIs,fun b q=>?_,hd⟩;cases q;obtain⟨ob,_,_,h1,h2,_⟩:=dd;exact⟨ob,h1,h2.2.1⟩
 ·obtain⟨_,hd,xs,_,dd⟩:=qXs I.hok e;refine⟨dd.typeIs,fun b q=>?_,hd⟩;cases q;obtain⟨ob,_,_,h1,h2,_⟩:=dd;exact⟨ob,h1,h2.2.1⟩
section
variable{X:Cx}{pins:List (aZ×Obj)}{σ:St}{H:Hp}{s:aJ}{a:aZ}{y d:V}{u r:Value}{o:Option V}{A:bR}{E:Value->aJ->Prop}
theorem jQh(hu:A.units+1<cG)(I:Inv X pins σ H s)(g:DGet H a y o)(ry:RelV y u)(h:∀w' s',Inv X pins σ H s' ->RelV (o.getD .non) w' ->Q w' s'):
  aI (model X.prog X.w) A (call (.builtin "dict.get") [.ref a,u]) Q E s:=by
 rcases g with⟨kvs,k,e,ey,l⟩|⟨kvs,k,b,e,ey,eb,l⟩
 ·subst ey;obtain⟨z,hd,vs,rel,dd⟩:=qWy I.hok e;refine call_meetsIn PySem.F.slot_dict_get dd.typeIs PySem.F.entry_dict_get (PySem.F.args_dict_get_2 _ _) (meets_dict_get (zG X.prog X.w) a (qKk ry) hd) ⟨_,dd.mapOf,h _ _ (I.tok _) ?_⟩;rw[l];exact(rel.val k).getD rfl
 ·subst ey;cases(show u=Value.ref b from ry);obtain⟨z,hd,xs,rel,dd⟩:=qXs I.hok e;refine call_meetsIn PySem.F.slot_dict_get dd.typeIs PySem.F.entry_dict_get (PySem.F.args_dict_get_2 _ _) (meetsH_dict_get (tupleKind (zG X.prog X.w)) a b hd) ⟨tupleKind_room_in1 hu,k,xs,qWa I.hok eb,dd,h _ _ (I.tok _) ?_⟩;rw[l];exact(rel.val k).getD rfl
end
noncomputable def zYb(td ty:TE):TE:=fun σ H Q=>td σ H fun x H1=>∃a,x=.ref a/\IsD H1 a/\ty σ H1 fun y H2=>∃o,DGet H2 a y o/\Q (o.getD .non) H2
section
variable{X:Cx}{o e f:Expr}{apos cpos:Pos}{td ty tx:TE}
theorem zVr(hu:X.A.units+1<cG)(ho:PE X o td)(he:PE X e ty)(m:M1 X o "get" apos e cpos):PE X (.Call (.Attribute o "get" apos) [e] [] cpos) (zYb td ty):=by
 intro pins s σ H Q I h;refine wpAny_Call_method m.base m.few m.line PySem.F.plainAttrs_dict PySem.F.slot_dict_get PySem.F.type_dict_get (thn (ho pins s σ H _ I h) fun u s1 ⟨x,H1,I1,rx,a,ex,d,q1⟩=>?_);subst ex;obtain rfl:u=Value.ref a:=rx;obtain⟨t1,t2,_⟩:=zK1 I1 d;refine⟨t1,t2,?_⟩;rw[m.trees];refine Calls.callWith_builtin rfl (Calls.evalArgs_plain (Calls.spliced_cons (thn (he pins s1 σ H1 _ I1 q1) fun iv s2 ⟨y,H2,I2,ry,ov,g,q2⟩=>Calls.spliced_nil ?_)));exact jQh hu I2 g ry fun w' s3 I3 rw' =>⟨_,H2,I3,rw',q2⟩
end
theorem vYw{i l:aZ}(hil:l≠i)(xs:Array Value):Feed i l (fun k h=>h.IsListIter i l k/\h.IsList l xs) (fun k=>xs[k]?) where
 obj:=fun k h p=>by
  obtain⟨⟨o,e,_,d⟩,_⟩:=p;exact⟨o,e,fun v z=>by rw[d]at z;cases z⟩
 keep:=fun k h g p q=>⟨p.1.at fun o e=>q i o (.inl rfl) e,by
  obtain⟨o,e,r⟩:=p.2;exact⟨o,q l o (.inr rfl) e,r⟩⟩
 item:=fun p hx hQ=>wpAny_nextOf_list_item p.1 p.2 hx fun g h1 h2=>hQ g ⟨h1,p.2.extBut h2.extBut hil⟩ h2
 stop:=fun hh p hx hE=>wpAny_nextOf_list_end hh p.1 p.2 hx hE
end L2
namespace L2
open PySem PySem.Spec PySem.W PyProof.Rows
section
variable{X:Cx}
theorem zKf(hu:X.A.units+1<cG):OpR X (bN .In) (fun x y H Q=>∃a o,y=.ref a/\DGet H a x o/\Q (.bl o.isSome) H):=by
 intro pins s σ H x y u v Q I ru rv h;obtain⟨a,o,rfl,g,q⟩:=h;cases(show v=Value.ref a from rv);exact d_in hu I g ru fun s' I' =>⟨.bl _,H,I',rfl,q⟩
theorem vYf(hu:X.A.units+1<cG):OpR X (bN .NotIn) (fun x y H Q=>∃a o,y=.ref a/\DGet H a x o/\Q (.bl (!o.isSome)) H):=by
 intro pins s σ H x y u v Q I ru rv h;obtain⟨a,o,rfl,g,q⟩:=h;cases(show v=Value.ref a from rv);exact zXb hu I g ru fun s' I' =>⟨.bl _,H,I',rfl,q⟩
end
end L2
namespace L2
open PySem PySem.Spec PyProof.Rows
variable{P:aT}{w:bY}{K:aQ}{pos p:Pos}{e1:Expr}{ta:TA}{a:aZ}{M:Model}
noncomputable def Ite(K:aQ)(a:aZ):It:=
 ⟨fun i H=>∃xs x,SqL K H a xs/\xs[i]?=some x,
  fun i H v H' =>∃p,v=.ref p/\H p=none/\∀xs x,SqL K H a xs->xs[i]?=some x->H' =upd H p (.tup [.int (i:Int),x]),
  fun i H=>∃xs,SqL K H a xs/\xs.length<=i⟩
theorem vXz{elts:List Expr}{kk:Nat}(a e it:aZ)(hne:e≠it):
  Turn P w K (.Tuple elts kk pos) (Ite K a) [e,it] e (fun i h=>(∃old,IsEnum h e it (i:Int) old)/\h.IsListIter it a i) where
 mem:=by simp
 obj:=fun i h st c hc=>by
  obtain⟨⟨old,he⟩,⟨o2,e2,c2,d2⟩⟩:=st;have hc' :c=e\/c=it:=by simpa using hc
  rcases hc' with rfl|rfl
  ·exact⟨_,he,fun v q=>by have q' :Data.fields _=Data.cell v:=q;cases q'⟩
  ·exact⟨_,e2,fun v q=>by rw[d2]at q;cases q⟩
 keep:=fun i h h' st k=>by
  obtain⟨⟨old,he⟩,h2⟩:=st;exact⟨⟨old,k e (by simp) _ he⟩,h2.at fun o e' =>k it (by simp) o e'⟩
 item:=by
  intro X hP hw hK hc i pins s σ H E I hf st hg;subst hP hw hK;obtain⟨xs,x,hq,hx⟩:=hg;obtain⟨its,rv,p1,hz1⟩:=I.list hq;obtain⟨u,hu,ru⟩:=rv.get hx;obtain⟨⟨old,he⟩,hit⟩:=st;refine wpAny_pyNext_enum_item he hit p1.isList (x:=u) (by simpa using hu) hne fun h' a1 a2 a3 a4 hk=>?_
  refine⟨_,rfl,wpAny_letOwnedTupleGo_enum a1 fun h'' hz'' sb=>?_⟩;have nz:s.heap.objs.size≠e:=dU (aE he);have hk2:∀c o,c∉ [e,it]->s.heap.get? c=some o->h''.get? c=some o:=fun c o hc e' =>by
   simp only[aG,List.not_mem_nil,or_false,not_or]at hc;exact sb.extBut c o hc.1 (hk c o hc.1 hc.2 e')
  refine⟨.ref s.heap.objs.size,upd H s.heap.objs.size (.tup [.int (i:Int),x]),I.turnedLaid (t' :=s.toks+1) hk2 hf (aB _) ⟨vK1,[.int (i:Int) s.toks,u],.cons ⟨_,rfl⟩ (.cons ru .nil),⟨_,sb.extBut _ _ nz a3,rfl,_,rfl⟩⟩,rfl,
   ⟨_,rfl,I.hok.fresh (aB _),fun xs' x' e1 e3=>?_⟩,⟨⟨_,hz''⟩,a2.extBut sb.extBut hne.symm⟩,fun c hc=>?_⟩
  ·rw [I.list_inj e1 hq,hx] at e3;cases e3;rfl
  ·obtain⟨o,e',_⟩:∃o,s.heap.get? c=some o/\True:=by
    have hc' :c=e\/c=it:=by simpa using hc
    obtain⟨o2,e2,_⟩:=hit;rcases hc' with rfl|rfl
    ·exact⟨_,he,trivial⟩
    ·exact⟨_,e2,trivial⟩
   rw[vQ (bV (aE e'))];exact(hf c hc).1
 done:=by
  intro X hP hw hK hc i pins s σ H E I hf st hg;subst hP hw hK;obtain⟨xs,hq,hend⟩:=hg;obtain⟨its,rv,p1,hz1⟩:=I.list hq;obtain⟨⟨old,he⟩,hit⟩:=st;have l1:=rv.length;refine wpAny_pyNext_enum_end (I.ok.hd hc) he hit p1.isList (by simp;omega) fun h' hk=>⟨rfl,I.turnedAll (t' :=s.toks) (ch:=[e,it]) (fun c o hc e' =>?_) hf⟩
  simp only[aG,List.not_mem_nil,or_false,not_or]at hc;exact hk c o hc.2 e'
 self:=fun _ _ _ _ _ st h=>let ⟨_,he⟩:=st.1;wpAny_pyIter_enum he h
section
variable{X:Cx}{elts:List Expr}{kk:Nat}{tpos:Pos}
noncomputable def jVm(K:aQ)(ta:TA):TI:=fun σ H R=>ta σ H fun vs H1=>∃a,vs=[.ref a]/\(∃xs,SqL K H1 a xs)/\R (Ite K a) H1
theorem zJ3(hg:Gl X "enumerate")(hm:X.mg "enumerate"=none)(ha:PA X [e1] ta)(hs:aY [e1] X.env=[(false,eval e1 X.env)]:=by rfl)(hs2:aY [] X.env=[]:=by rfl):PI X (.Tuple elts kk tpos) (.Call (.Name "enumerate" p) [e1] [] pos) (jVm X.K ta):=by
 intro pins s σ H R I h;refine Call_ (qZ8 I hg hm Boot.«enumerate» (cH (thn (ha pos pins s σ H _ I h) fun us s1 ⟨vs,H1,I1,r1,q1⟩=>?_) (by rw[hs,hs2]) (by rw[hs2];rfl)));obtain⟨a,e,⟨xs,hx⟩,q⟩:=q1;subst e;obtain⟨u,rfl,r⟩:=qVb r1;cases(show u=Value.ref a from r);obtain⟨its,rv,p1,hz1⟩:=I1.list hx;refine call_enumerate_list p1.isList fun h' he hit hsz hk=>?_
 refine wpAny_pyIter_enum he ?_
 refine⟨s1.heap.objs.size+1,[s1.heap.objs.size+1,s1.heap.objs.size],_,_,H1,rfl,I1.kept (t' :=s1.toks) hk,vXz a _ _ (Nat.succ_ne_self _),⟨⟨_,he⟩,hit⟩,fun c hc=>?_,q⟩;have hc' :s1.heap.objs.size<=c:=by
  simp only[aG,List.not_mem_nil,or_false]at hc;rcases hc with e|e <;> rw[e] <;> first|exact aB _|exact Nat.le_add_right _ _
 exact I1.fpOk hc' (I1.hok.fresh hc')
end
noncomputable def Itv(K:aQ)(a:aZ)(n:Nat):It:=
 ⟨fun i H=>∃xs x,SqL K H a xs/\xs.length=n/\i<n/\xs[n - 1 - i]?=some x,fun i H x H' =>H' =H/\∀xs,SqL K H a xs->xs[n - 1 - i]?=some x,fun i H=>∃xs,SqL K H a xs/\xs.length=n/\i=n⟩
theorem zQ3{tg:Expr}(a it:aZ)(n:Nat)(hne:a≠it):Turn P w K tg (Itv K a n) [it] it (fun i h=>h.IsRevIter it a ((n:Int) - 1 - (i:Int))) where
 mem:=by simp
 obj:=fun i h st b hb=>by
  have e:b=it:=by simpa using hb
  subst e;obtain⟨o,e,c,d⟩:=st;exact⟨o,e,fun v z=>by rw[d]at z;cases z⟩
 keep:=fun i h h' st k=>by
  obtain⟨o,e,c,d⟩:=st;exact⟨o,k it (by simp) o e,c,d⟩
 item:=by
  intro X hP hw hK hc i pins s σ H E I hf st hg;subst hP hw hK;obtain⟨xs,x,hq,hn,hi,hx⟩:=hg;obtain⟨its,rv,p,hz⟩:=I.list hq;obtain⟨u,hu,ru⟩:=rv.get hx;have hl:=rv.length;obtain⟨f0,f1,f2,f3,f4,f5⟩:=hf it (by simp);have W:=Walks.listRev (prog:=X.prog) (w:=X.w) (A:=X.A) (I.ok.hd hc) it a hne its.toArray;have en:its.toArray.size=n:=by rw[aH];omega
  refine W.item i s _ _ (by omega) ⟨by omega,by rw[en];exact st,p.isList⟩ fun v h' tk pv st2 keep=>?_
  have ev:v=u:=by
   rw[en]at pv;have h2:its.toArray[n - 1 - i]?=some u:=by simpa using hu
   rw[h2]at pv;cases pv;rfl
  subst ev;have st3:h'.IsRevIter it a ((n:Int) - 1 - ((i+1:Nat):Int)):=by
   have:=st2.2.1;rw[en]at this;exact this
  have I1:Inv X pins σ H {s with heap:=h',toks:=tk}:=I.turned (t' :=tk) (fun b o hb e=>keep b o (by simpa using hb) e) f0 f1 f3 f4 f5;obtain⟨o,e,c,d⟩:=id st3;exact⟨v,rfl,vWa (s:={s with heap:=h',toks:=tk}) e c d (by decide) ⟨x,H,I1,ru,⟨rfl,fun ys hy=>by rw[I.list_inj hy hq];exact hx⟩,st3,fun b hb=>(hf b hb).1⟩⟩
 done:=by
  intro X hP hw hK hc i pins s σ H E I hf st hg;subst hP hw hK;obtain⟨xs,hq,hn,hi⟩:=hg;obtain⟨its,rv,p,hz⟩:=I.list hq;have hl:=rv.length;obtain⟨f0,f1,f2,f3,f4,f5⟩:=hf it (by simp);have W:=Walks.listRev (prog:=X.prog) (w:=X.w) (A:=X.A) (I.ok.hd hc) it a hne its.toArray;have en:its.toArray.size=n:=by rw[aH];omega
  refine W.done s _ _ ⟨aB _,by rw[en];rw[←hi]at st⊢;exact st,p.isList⟩ fun h' tk keep=>⟨rfl,I.turned (t' :=tk) (fun b o hb e=>keep b o (by simpa using hb) e) f0 f1 f3 f4 f5⟩
 self:=fun _ _ _ _ _ st h=>wpAny_pyIter_revIter st h
section
variable{X:Cx}{tg:Expr}
noncomputable def iRev(K:aQ)(ta:TA):TI:=fun σ H R=>ta σ H fun vs H1=>∃a xs,vs=[.ref a]/\SqL K H1 a xs/\R (Itv K a xs.length) H1
theorem zYw(hg:Gl X "reversed")(hm:X.mg "reversed"=none)(ha:PA X [e1] ta)(hs:aY [e1] X.env=[(false,eval e1 X.env)]:=by rfl)(hs2:aY [] X.env=[]:=by rfl):PI X tg (.Call (.Name "reversed" p) [e1] [] pos) (iRev X.K ta):=by
 intro pins s σ H R I h;refine Call_ (qZ8 I hg hm Boot.«reversed» (cH (thn (ha pos pins s σ H _ I h) fun us s1 ⟨vs,H1,I1,r1,q1⟩=>?_) (by rw[hs,hs2]) (by rw[hs2];rfl)));obtain⟨a,xs,e,hx,q⟩:=q1;subst e;obtain⟨u,rfl,r⟩:=qVb r1;cases(show u=Value.ref a from r);obtain⟨its,rv,p1,hz1⟩:=I1.list hx;have hl:s1.heap.IsList a its.toArray:=p1.isList;have len:=rv.length;have na:a≠s1.heap.objs.size:=let ⟨o,e,_⟩:=hl;bV (aE e);refine call_reversed_list hl ?_
 have it:({s1 with heap:=s1.heap.push (revObj a ((its.toArray.size:Int) - 1))}:aJ).heap.IsRevIter s1.heap.objs.size a ((xs.length:Int) - 1 - ((0:Nat):Int)):=⟨_,aC _ rfl,rfl,by rw[show(xs.length:Int) - 1 - ((0:Nat):Int)=(its.toArray.size:Int) - 1 by rw[aH];omega];rfl⟩
 refine wpAny_pyIter_revIter it ?_
 refine⟨s1.heap.objs.size,[s1.heap.objs.size],_,_,H1,rfl,I1.kept (t' :=s1.toks) fun b o e=>aX _ e,zQ3 a _ _ na,it,fun b hb=>?_,q⟩;have e:b=s1.heap.objs.size:=by simpa using hb
 subst e;exact I1.fpOk (aB _) (I1.hok.fresh (aB _))
end
noncomputable def DkH(h h' :Heap):Prop:=∀b o,h.get? b=some o->∃o',h'.get? b=some o' /\o'.dict=o.dict
theorem DkH.refl(h:Heap):DkH h h:=fun _ o e=>⟨o,e,rfl⟩
theorem DkH.trans{h1 h2 h3:Heap}(x:DkH h1 h2)(y:DkH h2 h3):DkH h1 h3:=fun b o e=>by
 obtain⟨o1,e1,d1⟩:=x b o e;obtain⟨o2,e2,d2⟩:=y b o1 e1;grind
theorem DkH.push(h:Heap)(o:Obj):DkH h (h.push o):=fun _ u e=>⟨u,aX _ e,rfl⟩
noncomputable def TmF(f:Obj->Obj):Prop:=∀o:Obj,(f o).dict =o.dict/\(o.isFreed=false->(f o).isFreed =false)
theorem DkH.update{h:Heap}{f:Obj->Obj}(hf:TmF f):DkH h (h.update a f):=fun b o e=>by
 by_cases hb:a=b
 ·subst hb;exact⟨f o,dA f e ((hf o).2 (Heap.get?_some_iff.mp e).2),(hf o).1⟩
 ·exact⟨o,(dN h f hb).trans e,rfl⟩
inductive Tm{α:Type}:Sem α->Prop
 |pure (a:α):Tm (.pure a)
 |raise (e:Value):Tm (.raise e)
 |unsupported (w:String):Tm (.unsupported w)
 |load {a:aZ} {p:Option Value} {k:Obj->Sem α} (h:∀o,Tm (k o)):Tm (.load a p k)
 |update {a:aZ} {p:Option Value} {f:Obj->Obj} {k:Unit->Sem α} (hf:TmF f) (h:Tm (k ())):Tm (.update a p f k)
 |alloc {o:Obj} {k:aZ->Sem α} (h:∀a,Tm (k a)):Tm (.alloc o k)
 |ask {k:Setting->Sem α} (h:∀a,Tm (k a)):Tm (.ask k)
 |rule {t:String} {k:Unit->Sem α} (h:Tm (k ())):Tm (.rule t k)
 |stack {k:List (Code×Pos)->Sem α} (h:∀l,Tm (k l)):Tm (.stack k)
section
variable{α β:Type}
theorem Tm.bind{m:Sem α}{f:α->Sem β}(h:Tm m)(k:∀a,Tm (f a)):Tm (m.bind f):=by
 induction h with
 |pure a=>exact k a
 |raise e=>exact .raise e
 |unsupported w=>exact .unsupported w
 |load _ ih=>exact .load ih
 |update hf _ ih=>exact .update hf ih
 |alloc _ ih=>exact .alloc ih
 |ask _ ih=>exact .ask ih
 |rule _ ih=>exact .rule ih
 |stack _ ih=>exact .stack ih
theorem Tm.bind'{m:Sem α}{f:α->Sem β}(h:Tm m)(k:∀a,Tm (f a)):Tm (m >>=f):=h.bind k
theorem Tm.wp{Γ:PySem.Ctx}{m:Sem α}(h:Tm m):∀{Q:α->Pos->aJ->Prop} {E:Value->Pos->aJ->Prop} {p:Pos} {s:aJ},Sem.wp M Γ m Q E p s->
  Sem.wp M Γ m (fun a p' s' =>Q a p' s' /\DkH s.heap s'.heap) (fun e p' s' =>E e p' s' /\DkH s.heap s'.heap) p s:=by
 induction h with
 |pure a=>intro Q E p s w;rw[Sem.wp_pure]at w⊢;exact⟨w,.refl _⟩
 |raise e=>intro Q E p s w;rw[Sem.wp_raise]at w⊢;exact⟨w,.refl _⟩
 |unsupported w=>intro Q E p s w;rw[Sem.wp_unsupported]at w;exact w.elim
 | load _ ih=>
   intro Q E p s w;rw[Sem.wp_load]at w⊢;obtain⟨o,e,w⟩:=w;exact⟨o,e,ih o w⟩
 | update hf _ ih=>
   intro Q E p s w;rw[Sem.wp_update]at w⊢;exact⟨w.1,Sem.wp_mono M Γ _ (fun _ _ _ q=>⟨q.1,(DkH.update hf).trans q.2⟩) (fun _ _ _ q=>⟨q.1,(DkH.update hf).trans q.2⟩) _ _ (ih w.2)⟩
 | alloc _ ih=>
   intro Q E p s w;rw[Sem.wp_alloc]at w⊢;exact Sem.wp_mono M Γ _ (fun _ _ _ q=>⟨q.1,(DkH.push _ _).trans q.2⟩) (fun _ _ _ q=>⟨q.1,(DkH.push _ _).trans q.2⟩) _ _ (ih _ w)
 |ask _ ih=>intro Q E p s w;rw[Sem.wp_ask]at w⊢;exact ih _ w
 |rule _ ih=>intro Q E p s w;rw[Sem.wp_rule]at w⊢;exact ih w
 |stack _ ih=>intro Q E p s w;rw[Sem.wp_stack]at w⊢;exact ih _ w
theorem Tm.any{A:bR}{m:Sem α}{Q:α->aJ->Prop}{E:Value->aJ->Prop}{s:aJ}(h:Tm m)(w:aI M A m Q E s):
  aI M A m (fun a s' =>Q a s' /\DkH s.heap s'.heap) (fun e s' =>E e s' /\DkH s.heap s'.heap) s:=fun Γ p hΓ=>h.wp (w Γ p hΓ)
end
theorem vJc(f:Array Value->Array Value):TmF (Obj.mapFields f):=fun o=>by
 obtain⟨c,d,dt,sl⟩:=o;cases dt <;> exact⟨rfl,fun h=>h⟩
theorem vQe(a:aZ):Tm (load a):=.load fun o=>.pure o
theorem qKo{f:Obj->Obj}(h:TmF f):Tm (update a f):=.update h (.pure ())
theorem zQ5(o:Obj):Tm (alloc o):=.alloc fun a=>.pure a
theorem vZm(v:Value):Tm (fieldsOf v):=by
 unfold fieldsOf;split
 ·refine .bind' (vQe _) fun o=>?_
  split <;> first|exact .pure _|exact .unsupported _
 ·exact .unsupported _
theorem qJu(v:Value)(i:Nat):Tm (field v i):=by
 refine .bind' (vZm v) fun vs=>?_
 split <;> first|exact .pure _|exact .unsupported _
theorem qV0(v:Value)(i:Nat)(x:Value):Tm (setField v i x):=by
 unfold setField;split
 ·unfold updateField;refine .bind' (vQe _) fun o=>?_
  split
  ·split
   ·exact qKo (vJc _)
   ·exact .unsupported _
  ·exact .unsupported _
 ·exact .unsupported _
theorem vQ0(e:Value)(f:Option aZ):Tm (setFlight e f):=by
 refine .bind' (qJu _ _) fun tb=>?_
 split
 ·exact qV0 _ _ _
 ·exact .pure _
theorem qZb:∀l:List Env,Tm (readyFrames l)
 |[]=>.pure _
 | env::outer=>by
   unfold readyFrames;split
   ·refine .bind' (vQe _) fun o=>?_
    split
    ·exact .pure _
    ·refine .bind' ?_ fun _=> .bind' ?_ fun _=> .bind' (qKo fun o=>⟨rfl,fun h=>?_⟩) fun _=>qZb outer
     ·unfold behindIsImport;split
      ·exact .pure _
      ·split
       ·exact .pure _
       ·exact .bind' (qJu _ _) fun _=>.pure _
     ·unfold keptBack;split
      ·split
       ·exact .pure _
       ·unfold underTheClaimsCaller;exact .bind' (.bind' (.stack fun _=>.pure _) fun _=>.pure _) fun _=>.pure _
      ·exact .pure _
     ·obtain⟨c,d,dt,sl⟩:=o;cases dt <;> first|rfl|exact h
   ·exact .unsupported _
theorem vJe(env:Env):Tm (PySem.frameOf env):=by
 refine .bind' (.bind' (.stack fun _=>.pure _) fun _=>.pure _) fun l=>.bind' ?_ fun o=>?_
 ·unfold frameObject;split
  ·exact .pure _
  ·exact .bind' (qZb _) fun _=>.pure _
 ·split <;> first|exact .pure _|exact .unsupported _
theorem vQ2(t:String)(vs:List Value):Tm (newFields t vs):=by
 unfold newFields newObj;dsimp only;have k:Tm (newObjAsIs (.type t) (.fields vs.toArray)):=by
  exact .bind' (zQ5 _) fun _=>.pure _
 split
 ·exact .bind' (.unsupported _) fun _=>k
 ·exact k
theorem vQ1(e:Value)(env:Env):Tm (noteFrame e env):=by
 unfold noteFrame;split
 ·refine .bind' (qJu _ _) fun head=>?_
  have rest:∀f,Tm (do setField e 1 (←EntryCells.newEntry head (←PySem.frameOf env) .none (rawInt f) .none (←entryPlaceOf f (head !=.none)))):=fun f=>by
   refine .bind' (vJe _) fun fr=>.bind' ?_ fun pl=>.bind' ?_ fun t=>qV0 _ _ _
   ·unfold entryPlaceOf;refine .bind' (.stack fun _=>.pure _) fun acts=>?_
    split <;> exact .pure _
   ·unfold EntryCells.newEntry;exact vQ2 _ _
  split
  ·refine .bind' (qJu _ _) fun x=>?_
   split
   ·exact .pure _
   ·exact .bind' (qV0 _ _ _) fun _=>rest _
  ·exact rest _
 ·exact .unsupported _
theorem vJd(env:Env)(e:Value):Tm (leaving env e):=.bind' (vQ1 _ _) fun _=>vQ0 _ _
end L2
namespace L2
open PySem PySem.Spec PySem.W PySem.Calls PyProof.Rows
noncomputable abbrev vErr:List Value:=[.type "ValueError",.type "Exception",.type "BaseException",.type "object"]
structure IniCls(K:Frag)(C fI:aZ):Prop where
 ob:∃nm q N bs bm hdct sn sub ab col dd k0 k1 k2 k3 k5,K.lookup C=some (excClassObj nm q C N bs bm hdct sn sub ab col dd k0 k1 k2 k3 k5 "ValueError.__new__")/\tailIn K vErr bm=true
 ini:findIn K (.ref C) "__init__"=some (some (.ref fI))
 fn:typeIn K (.ref fI)=some (.type "function")
 sa:findIn K (.ref C) "__setattr__"=some (some (.builtin "object.__setattr__"))
 hd:hasDictIn K C=true
end L2
namespace L2
open PySem PySem.Spec PyProof.Rows
variable{P:aT}{w:bY}{K:aQ}{mg:Str->Option Value}{base:Heap}{N:List Str}{qual:Str}{f:aZ}
noncomputable def CXd(P:aT)(w:bY):CXT:=fun outer H s E e s' =>∃(ea:aZ) (cls a0:Value) (H' :Hp) (B:Heap) (ox:Option aZ),
 e=.ref ea/\s'.os=s.os/\AllBare s'.gens/\Un (frs outer) [] H H' s.heap s'.heap/\HOk P w H' s'.heap/\Heap.FlyingW B outer ea cls a0 s'.heap/\
 (∀b o,s'.heap.get? b=some o->b∉frs outer->(H' b≠none\/s.heap.get? b≠none)->B.get? b=some o)/\H' ea=none/\s.heap.get? ea=none/\(∃oe,s'.heap.get? ea=some oe/\oe.dict=ox)/\E cls ox H'
theorem v8{scope:Scope}{cdv:Value}{A:bR}{outer:List Env}{s:aJ}{H:Hp}{E:XK}:
  zC (CXd P w) (cxOf (CXd P w) P w K mg base N qual scope f cdv A outer s H E) E:=by
 intro pins σ H1 s1 e s' I hcx;obtain⟨ea,cls,a0,H2,B,ox,rfl,hos,bare,un,hok,fl,cov,hea,sea,⟨oe,hoe,hdic⟩,he⟩:=hcx;have fr:(A.deeper (envOfC qual scope s.heap.objs.size f cdv)).frames =some (envOfC qual scope s.heap.objs.size f cdv::outer):=I.ok.frames;have hfs:∀b,b∈frs (envOfC qual scope s.heap.objs.size f cdv::outer)->b=s.heap.objs.size\/b∈frs outer:=fun b hb=>by
  obtain⟨env,he,hf⟩:=dM.mp hb;rcases aG.mp he with rfl|he
  ·exact .inl (Option.some.inj hf).symm
  ·exact .inr (dM.mpr ⟨env,he,hf⟩)
 have hof:∀b,b∈frs outer->b∈frs (envOfC qual scope s.heap.objs.size f cdv::outer):=fun b hb=>by
  obtain⟨env,he,hf⟩:=dM.mp hb;exact dM.mpr ⟨env,aO _ he,hf⟩
 have old:∀b o,s.heap.get? b=some o->b≠s.heap.objs.size:=fun b o e=>bV (aE e)
 have nx:∀b,b∉([]:List aZ):=fun b=>by simp
 have u1:Un (frs outer) [] H H1 s.heap s1.heap:=I.base;have u2:Un (frs (envOfC qual scope s.heap.objs.size f cdv::outer)) [] H1 H2 s1.heap s'.heap:=un;refine eQ ((vJd _ _).any (wpAny_leaves_onW fr rfl fl (E:=fun _ _=>False) (Q:=fun _ t' =>∃h'',t' ={s' with heap:=h'' }/\Heap.FlyingW B outer ea cls a0 h'' /\s'.heap.UpToSlots h'') fun h'' fl2 sm=>⟨h'',rfl,fl2,sm⟩)) (fun _ t' hq=>?_) fun _ _ z=>z.1.elim
 obtain⟨⟨h'',rfl,fl2,sm⟩,dk⟩:=hq;obtain⟨oe',q1,q2⟩:=dk ea oe hoe;have k2:∀b o,s'.heap.get? b=some o->b∉frs (envOfC qual scope s.heap.objs.size f cdv::outer)->(H2 b≠none\/s1.heap.get? b≠none)->h''.get? b=some o:=fun b o e n1 n2=>fl2.1 b o (cov b o e n1 n2)
 have slt:∀b o,s1.heap.get? b=some o->b∈frs (envOfC qual scope s.heap.objs.size f cdv::outer)->∃sl,h''.get? b=some {o with slots:=sl}:=fun b o e hb=>by
  obtain⟨_,o',ho',hd⟩:=I.stack.mem hb;rw[e]at ho';cases ho';obtain⟨sl,e1⟩:=u2.slot b o e (I.stkFree b hb) hb (nx b);obtain⟨sl',e2⟩:=sm b _ e1 hd;grind
 have fr2:∀b u,H2 b=some u->b∉frs (envOfC qual scope s.heap.objs.size f cdv::outer):=fun b u e hb=>by
  obtain⟨_,o',ho',hd⟩:=I.stack.mem hb;rw[u2.free b o' ho' (I.stkFree b hb) (nx b)]at e;cases e
 have nof:∀b o,s.heap.get? b=some o->b∉frs outer->b∉frs (envOfC qual scope s.heap.objs.size f cdv::outer):=fun b o e n z=>(hfs b z).elim (old b o e) n
 have thr:∀b o,s.heap.get? b=some o->∃o',h''.get? b=some o' :=fun b o e=>by
  obtain⟨o1,e1⟩:=u1.there b o e (nx b);by_cases hb:b∈frs (envOfC qual scope s.heap.objs.size f cdv::outer)
  ·grind
  ·obtain⟨o2,e2⟩:=u2.there b o1 e1 (nx b);grind
 refine⟨ea,cls,a0,H2,B,ox,rfl,hos.trans I.os,bare,⟨fun b o e n hb _=>?_,fun b o e n hb _=>?_,fun b o e n _=>?_,fun b o e _=>thr b o e,fun b xs e=>u2.tups b xs (u1.tups b xs e),fun b o u e=>u2.frzs b o u (u1.frzs b o u e),fun b ps e=>?_⟩,fun b u e=>?_,fl2,fun b o e nb hh=>?_,hea,?_,⟨oe',q1,q2.trans hdic⟩,he⟩
 ·have e1:=u1.keep b o e n hb (nx b);have n1:=u1.free b o e n (nx b);have hb2:=nof b o e hb;exact k2 b o (u2.keep b o e1 n1 hb2 (nx b)) hb2 (.inr (by rw[e1];simp))
 ·obtain⟨sl,e1⟩:=u1.slot b o e n hb (nx b);grind
 ·obtain⟨o1,e1⟩:=u1.there b o e (nx b);exact u2.free b o1 e1 (u1.free b o e n (nx b)) (nx b)
 ·obtain⟨m1,e1⟩:=u1.tbls b ps e;obtain⟨m2,e2⟩:=u2.tbls b _ e1;grind
 ·refine(hok b u e).stay (fun c v hc q=>?_) (fun _ q=>q) fun _ _ q=>q
  grind
 ·have st:b∉frs (envOfC qual scope s.heap.objs.size f cdv::outer)/\(H2 b≠none\/s1.heap.get? b≠none)/\∃o2,s'.heap.get? b=some o2:=by
   rcases hh with z|z
   ·cases q:H2 b with
    |none=>grind
    |some u=>exact⟨fr2 b u q,.inl (by simp),hok.there q⟩
   ·cases q:s.heap.get? b with
    |none=>grind
    | some o1=>
      obtain⟨o3,e3⟩:=u1.there b o1 q (nx b);exact⟨nof b o1 q nb,.inr (by rw[e3];simp),u2.there b o3 e3 (nx b)⟩
  obtain⟨n1,n2,o2,e2⟩:=st;have e3:=k2 b o2 e2 n1 n2;rw[e]at e3;cases e3;exact cov b _ e2 n1 n2
 ·cases q:s.heap.get? ea with
  |none=>rfl
  | some o=>
    obtain⟨o',e1⟩:=u1.there ea o q (nx ea);grind
theorem Fun.okD{x:Str}{st:Stmt}{fd:bZ}{ps:List Str}{k:Nat}{sp:Sp}(F:Fun K x qual st f fd)(S:FnScope N ps (qK st))(len:∀vs H Q E,sp vs H Q E->vs.length=ps.length)(hbody:∀(cdv:Value) (A:bR) (outer:List Env) (s:aJ) (H:Hp) (vs:List V) (Q:VK) (E:XK),Room k (A.deeper (envOfC qual (qK st) s.heap.objs.size f cdv))->sp vs H Q E->
   ∃t,PSs (cxOf (CXd P w) P w K mg base N qual (qK st) f cdv A outer s H E) (zU st) t/\t {nx:=fun _ H' =>Q .non H',rt:=Q} (qVh N vs) H):FnOk P w K mg base (CXd P w) (k+1) f fd ps sp:=by
 obtain⟨oc,od,kV,doc,pm,an,cdv,ct,osl,rfl,lk,hcd⟩:=F.ex;exact jVq lk hcd S len fun A outer s H vs Q E hr hsp=>hbody cdv A outer s H vs Q E hr hsp
noncomputable def ExcD(p:aZ)(cls:Value)(ox:Option aZ):Heap->Prop:=fun h=>∃o,h.get? p=some o/\o.cls=cls/\o.dict=ox/\∃vs,o.data=.fields vs
end L2
namespace DX
open PySem L2 PyProof.Rows
variable{H H' F':Hp}{v:V}{vs us:List V}{i j C n:Nat}{Z B' W' Y' B W:Fp}{α β κ:Type}{c:Nat->aZ}{π ls:List Nat}{env env' args:Ev}{σ σ' τ:L2.St}{io:Bool}{Q:VK}{E:XK}{X:Cx}{e tg:Expr}{t':TT}{w:bY}{ss:List SV}{N ps Nc:List Str}{g:SG}{body:SS}{it:SI}{pos:Pos}{m qual:Str}{P:aT}{mg:Str->Option Value}{base:Heap}{fd:bZ}{kd:Kd}{as:List Am}{a0:Am}{pl:Sem Bool}{q:Nat×List Str×List O}{scope:Scope}{CX:CXT}
inductive Kd where
 |lst|tup|dct (ks:List Key)|dcT (ks:List (List Key))|obj (C:Nat) (fs:List Str)|exc (C:Nat) (fs:List Str)
inductive D where
 |non|int (i:Int)|str (s:Str)|bl (b:Bool)|fn (j:Nat)|nd (k:Kd) (ds:List D)
inductive O where
 |fz (d:D)|ow (k:Kd) (os:List O)
abbrev D.tup(ds:List D):D:=.nd .tup ds
noncomputable abbrev Fp:=aZ->Nat
noncomputable def one(p:aZ):Fp:=fun a=>if a=p then 1 else 0
theorem jR{p:aZ}:one p p=1:=if_pos rfl
theorem xV{p a:aZ}(h:a≠p):one p a=0:=if_neg h
noncomputable def hide(T:Fp)(H:Hp):Hp:=fun a=>if T a=0 then H a else none
theorem vD{T:Fp}{a:aZ}(h:T a=0):hide T H a=H a:=if_pos h
theorem qJo{T:Fp}{a:aZ}(h:T a≠0):hide T H a=none:=if_neg h
theorem jD{T:Fp}{a:aZ}{o:HO}(h:hide T H a=some o):T a=0/\H a=some o:=by
 by_cases z:T a=0
 ·rw[vD z]at h;exact⟨z,h⟩
 ·rw[qJo z]at h;cases h
theorem qT{T:Fp}:Same (hide T H) H:=fun _ _ h=>(jD h).2
theorem zV{T T' :Fp}(h:∀a o,T a=0->H a=some o->T' a=0/\H' a=some o):Same (hide T H) (hide T' H'):=fun a o e=>by
 obtain⟨z,q⟩:=jD e;obtain⟨z',q'⟩:=h a o z q;rw[vD z'];exact q'
theorem v7{T T' :Fp}(h:∀a,T a=0->T' a=0):Same (hide T H) (hide T' H):=zV fun a _ z q=>⟨h a z,q⟩
theorem zJ{T T' :Fp}(h:∀a,T a=0↔T' a=0):hide T H=hide T' H:=by
 funext a;by_cases z:T a=0
 ·rw[vD z,vD ((h a).mp z)]
 ·rw[qJo z,qJo fun z' =>z ((h a).mpr z')]
theorem qYf{T:Fp}{p:aZ}{o:HO}(h:T p≠0):hide T (upd H p o)=hide T H:=by
 funext a;by_cases z:T a=0
 ·rw[vD z,vD z,vQ fun q=>h (by rw[←q];exact z)]
 ·rw[qJo z,qJo z]
noncomputable def Hb:HO->Prop
 |.tup _=>False
 |.frz _ _=>False
 |.tbl _=>False
 |.tab _ _ _=>False
 |.xd _=>False
 |_=>True
theorem jJ{K:aQ}{a:aZ}{xs:List V}(e:Same H H')(h:SqL K H a xs):SqL K H' a xs:=by
 rcases h with(h|⟨o,h⟩)|h
 ·exact .inl (.inl (e _ _ h))
 ·exact .inl (.inr ⟨o,e _ _ h⟩)
 ·exact .inr h
noncomputable def XdAt(F:Hp)(fs:List Str)(vs:List V):Option aZ->Prop
 |none=>fs=[]
 |some dx=>F dx=some (.xd (fs.zip vs))
theorem vWt{F:Hp}(e:Same F F'){p:aZ}{u:HO}(h:Rd F p u):Rd F' p u:=h.elim (fun x=>.inl (e _ _ x)) fun⟨o,x⟩=>.inr ⟨o,e _ _ x⟩
noncomputable def NdAt(K:aQ)(c:Nat->aZ)(F:Hp)(p:aZ):Kd->List V->Prop
 |.lst,vs=>SqL K F p vs
 |.tup,vs=>SqT K F p vs
 |.dct ks,vs=>ks.length=vs.length/\ks.Nodup/\Rd F p (.dK (ks.zip vs))
 |.dcT ks,vs=>ks.length=vs.length/\ks.Nodup/\F p=some (.dT (ks.zip vs))
 |.obj C fs,vs=>fs.length=vs.length/\∃dx,F p=some (.ins (c C) dx (fs.zip vs))
 |.exc C fs,vs=>fs.length=vs.length/\∃ox,F p=some (.ext (ExcD p (.ref (c C)) ox))/\XdAt F fs vs ox
noncomputable def OwAt(c:Nat->aZ)(H:Hp)(p:aZ):Kd->List V->Prop
 |.lst,vs=>H p=some (.lst vs)
 |.tup,_=>False
 |.dct ks,vs=>ks.length=vs.length/\ks.Nodup/\H p=some (.dK (ks.zip vs))
 |.dcT ks,vs=>ks.length=vs.length/\ks.Nodup/\H p=some (.dT (ks.zip vs))
 |.obj C fs,vs=>fs.length=vs.length/\∃dx,H p=some (.ins (c C) dx (fs.zip vs))
 |.exc _ _,_=>False
section
variable{K:aQ}{c:Nat->aZ}{F F' H H' :Hp}{p:aZ}{k:Kd}{vs:List V}
theorem NdAt.same(e:Same F F')(h:NdAt K c F p k vs):NdAt K c F' p k vs:=by
 cases k with
 |lst=>exact jJ e h
 |tup=>exact e.tup h
 |dct ks=>exact⟨h.1,h.2.1,vWt e h.2.2⟩
 |dcT ks=>exact⟨h.1,h.2.1,e _ _ h.2.2⟩
 |obj C fs=>obtain⟨a,dx,b⟩:=h;exact⟨a,dx,e _ _ b⟩
 | exc C fs=>
   obtain⟨a,ox,b,d⟩:=h;refine⟨a,ox,e _ _ b,?_⟩;cases ox with
   |none=>exact d
   |some dx=>exact e _ _ d
theorem OwAt.nd(h:OwAt c H p k vs)(e:F p=H p):NdAt K c F p k vs:=by
 cases k with
 |lst=>exact SqL.of (e.trans h)
 |tup=>exact h.elim
 |dct ks=>exact⟨h.1,h.2.1,.inl (e.trans h.2.2)⟩
 |dcT ks=>exact⟨h.1,h.2.1,e.trans h.2.2⟩
 |obj C fs=>obtain⟨a,dx,b⟩:=h;exact⟨a,dx,e.trans b⟩
 |exc C fs=>exact h.elim
theorem OwAt.eq(h:OwAt c H p k vs)(e:H' p=H p):OwAt c H' p k vs:=by
 cases k with
 |lst=>exact e.trans h
 |tup=>exact h.elim
 |dct ks=>exact⟨h.1,h.2.1,e.trans h.2.2⟩
 |dcT ks=>exact⟨h.1,h.2.1,e.trans h.2.2⟩
 |obj C fs=>obtain⟨a,dx,b⟩:=h;exact⟨a,dx,e.trans b⟩
 |exc C fs=>exact h.elim
theorem OwAt.hb(h:OwAt c H p k vs):∃o,H p=some o/\Hb o:=by
 cases k with
 |lst=>exact⟨_,h,trivial⟩
 |tup=>exact h.elim
 |dct ks=>exact⟨_,h.2.2,trivial⟩
 |dcT ks=>exact⟨_,h.2.2,trivial⟩
 |obj C fs=>obtain⟨a,dx,b⟩:=h;exact⟨_,b,trivial⟩
 |exc C fs=>exact h.elim
end
inductive DAt(K:aQ)(c:Nat->aZ)(F:Hp):V->D->Prop
 |non:DAt K c F .non .non
 |int (i:Int):DAt K c F (.int i) (.int i)
 |str (s:Str):DAt K c F (.str s) (.str s)
 |bl (b:Bool):DAt K c F (.bl b) (.bl b)
 |fn (j:Nat):DAt K c F (.ref (c j)) (.fn j)
 |nd {p:aZ} {k:Kd} {vs:List V} {ds:List D} (h:NdAt K c F p k vs) (len:vs.length=ds.length) (r:∀(i:Nat) (v:V) (d:D),vs[i]?=some v->ds[i]?=some d->DAt K c F v d):DAt K c F (.ref p) (.nd k ds)
structure DsAt(K:aQ)(c:Nat->aZ)(F:Hp)(vs:List V)(ds:List D):Prop where
 len:vs.length=ds.length
 r:∀(i:Nat) (v:V) (d:D),vs[i]?=some v->ds[i]?=some d->DAt K c F v d
section
variable{K:aQ}{c:Nat->aZ}{F F' :Hp}
theorem DAt.un{k:Kd}{ds:List D}(h:DAt K c F v (.nd k ds)):∃p vs,v=.ref p/\NdAt K c F p k vs/\DsAt K c F vs ds:=by
 cases h with
 |nd h l r=>exact⟨_,_,rfl,h,l,r⟩
theorem DAt.of{p:aZ}{k:Kd}{ds:List D}(h:NdAt K c F p k vs)(r:DsAt K c F vs ds):DAt K c F (.ref p) (.nd k ds):=.nd h r.len r.r
theorem DAt.same(e:Same F F'){d:D}(h:DAt K c F v d):DAt K c F' v d:=by
 induction h with
 |non=>exact .non
 |int i=>exact .int i
 |str i=>exact .str i
 |bl i=>exact .bl i
 |fn i=>exact .fn i
 |nd h l r ih=>exact .nd (h.same e) l ih
theorem DsAt.same(e:Same F F'){ds:List D}(h:DsAt K c F vs ds):DsAt K c F' vs ds:=⟨h.len,fun i v d a b=>(h.r i v d a b).same e⟩
theorem DsAt.nil:DsAt K c F [] []:=⟨rfl,fun i v d h _=>by simp at h⟩
theorem DsAt.cons{d:D}{ds:List D}(h:DAt K c F v d)(k:DsAt K c F vs ds):DsAt K c F (v::vs) (d::ds):=by
 refine⟨by rw[aK,aK,k.len],fun i u x a b=>?_⟩;cases i with
 |zero=>grind
 |succ i=>exact k.r i u x (by simpa using a) (by simpa using b)
theorem DsAt.un{d:D}{ds:List D}(h:DsAt K c F vs (d::ds)):∃v r,vs=v::r/\DAt K c F v d/\DsAt K c F r ds:=by
 cases vs with
 |nil=>cases h.len
 |cons v r=>exact⟨v,r,rfl,h.r 0 v d rfl rfl,Nat.succ.inj h.len,fun i u x a b=>h.r (i+1) u x (by simpa using a) (by simpa using b)⟩
theorem DsAt.un0(h:DsAt K c F vs []):vs=[]:=cI h.len
theorem DsAt.get{ds:List D}{d:D}(h:DsAt K c F vs ds)(e:ds[i]?=some d):∃v,vs[i]?=some v/\DAt K c F v d:=by
 have hi:i<vs.length:=by rw[h.len];exact(aL.mp e).1
 exact⟨vs[i],aF hi,h.r i _ d (aF hi) e⟩
theorem DsAt.append{ws:List V}{ds es:List D}(h:DsAt K c F vs ds)(k:DsAt K c F ws es):DsAt K c F (vs ++ ws) (ds ++ es):=by
 refine⟨by rw[aU,aU,h.len,k.len],fun i v d a b=>?_⟩;by_cases hi:i<vs.length
 ·rw [dX hi] at a;rw[dX (by rw[←h.len];exact hi)]at b;exact h.r i v d a b
 ·rw [eX (by omega)] at a;rw[eX (by rw[←h.len];omega),←h.len]at b;exact k.r _ v d a b
theorem DsAt.take{ds:List D}(n:Nat)(h:DsAt K c F vs ds):DsAt K c F (vs.take n) (ds.take n):=by
 refine⟨by rw[List.length_take,List.length_take,h.len],fun i v d a b=>?_⟩;rw[List.getElem?_take]at a b;split at a
 ·rename_i z;rw[if_pos z]at b;exact h.r i v d a b
 ·cases a
theorem DsAt.drop{ds:List D}(n:Nat)(h:DsAt K c F vs ds):DsAt K c F (vs.drop n) (ds.drop n):=by
 refine⟨by rw[List.length_drop,List.length_drop,h.len],fun i v d a b=>?_⟩;rw[List.getElem?_drop]at a b;exact h.r _ v d a b
end
mutual
def OAt(K:aQ)(c:Nat->aZ)(F H:Hp):O->V->Fp->Prop
 |.fz d,v,Z=>DAt K c F v d/\∀a,Z a=0
 |.ow k os,v,Z=>∃p vs Z',v=.ref p/\OwAt c H p k vs/\OsAt K c F H os vs Z' /\∀a,Z a=one p a+Z' a
def OsAt(K:aQ)(c:Nat->aZ)(F H:Hp):List O->List V->Fp->Prop
 |[],vs,Z=>vs=[]/\∀a,Z a=0
 |o::os,vs,Z=>∃v r Z1 Z2,vs=v::r/\OAt K c F H o v Z1/\OsAt K c F H os r Z2/\∀a,Z a=Z1 a+Z2 a
end
mutual
def fzO:O->D
 |.fz d=>d
 |.ow k os=>.nd k (fzOs os)
def fzOs:List O->List D
 |[]=> []
 |o::os=>fzO o::fzOs os
end
theorem qJw:∀os:List O,fzOs os=os.map fzO
 |[]=>by simp[fzOs]
 |o::os=>by rw[fzOs,aS,qJw os]
section
variable{K:aQ}{c:Nat->aZ}{F F' H H' :Hp}{v:V}{vs:List V}{Z Z' :Fp}{d:D}{k:Kd}{os:List O}{o:O}
theorem OAt.fz:OAt K c F H (.fz d) v Z↔DAt K c F v d/\∀a,Z a=0:=by rw[OAt]
theorem OAt.ow:OAt K c F H (.ow k os) v Z↔∃p vs Z',v=.ref p/\OwAt c H p k vs/\OsAt K c F H os vs Z' /\∀a,Z a=one p a+Z' a:=by rw[OAt]
theorem OsAt.nil:OsAt K c F H [] vs Z↔vs=[]/\∀a,Z a=0:=by rw[OsAt]
theorem OsAt.cons:OsAt K c F H (o::os) vs Z↔∃v r Z1 Z2,vs=v::r/\OAt K c F H o v Z1/\OsAt K c F H os r Z2/\∀a,Z a=Z1 a+Z2 a:=by rw[OsAt]
mutual
theorem OAt.keepM(e:∀v d,DAt K c F v d->DAt K c F' v d):∀{o:O} {v:V} {Z:Fp},(∀a,Z a≠0->H' a=H a)->OAt K c F H o v Z->OAt K c F' H' o v Z
 | .fz d,v,Z,_,h=>by
   rw[OAt.fz]at h⊢;exact⟨e _ _ h.1,h.2⟩
 | .ow k os,v,Z,q,h=>by
   rw[OAt.ow]at h⊢;obtain⟨p,vs,Z',a,b,c,d⟩:=h;exact⟨p,vs,Z',a,b.eq (q p (by rw[d,jR];omega)),OsAt.keepM e (fun a z=>q a (by rw[d];omega)) c,d⟩
theorem OsAt.keepM(e:∀v d,DAt K c F v d->DAt K c F' v d):∀{os:List O} {vs:List V} {Z:Fp},(∀a,Z a≠0->H' a=H a)->OsAt K c F H os vs Z->OsAt K c F' H' os vs Z
 |[],vs,Z,_,h=>by rw[OsAt.nil]at h⊢;exact h
 | o::os,vs,Z,q,h=>by
   rw[OsAt.cons]at h⊢;obtain⟨v,r,Z1,Z2,a,b,c,d⟩:=h;exact⟨v,r,Z1,Z2,a,OAt.keepM e (fun a z=>q a (by rw[d];omega)) b,OsAt.keepM e (fun a z=>q a (by rw[d];omega)) c,d⟩
end
theorem OAt.keep(e:Same F F'){o:O}(q:∀a,Z a≠0->H' a=H a)(h:OAt K c F H o v Z):OAt K c F' H' o v Z:=OAt.keepM (fun _ _ h=>h.same e) q h
theorem OsAt.keep(e:Same F F'){os:List O}(q:∀a,Z a≠0->H' a=H a)(h:OsAt K c F H os vs Z):OsAt K c F' H' os vs Z:=OsAt.keepM (fun _ _ h=>h.same e) q h
mutual
theorem OAt.dat(e:Same F F'):∀{o:O} {v:V} {Z:Fp},(∀a,Z a≠0->F' a=H a)->OAt K c F H o v Z->DAt K c F' v (fzO o)
 | .fz d,v,Z,_,h=>by
   rw[OAt.fz]at h;rw[fzO];exact h.1.same e
 | .ow k os,v,Z,q,h=>by
   rw[OAt.ow]at h;obtain⟨p,vs,Z',rfl,b,c,d⟩:=h;rw[fzO];exact .of (b.nd (q p (by rw[d,jR];omega))) (OsAt.dat e (fun a z=>q a (by rw[d];omega)) c)
theorem OsAt.dat(e:Same F F'):∀{os:List O} {vs:List V} {Z:Fp},(∀a,Z a≠0->F' a=H a)->OsAt K c F H os vs Z->DsAt K c F' vs (fzOs os)
 |[],vs,Z,_,h=>by rw[OsAt.nil]at h;rw[h.1,fzOs];exact .nil
 | o::os,vs,Z,q,h=>by
   rw[OsAt.cons]at h;obtain⟨v,r,Z1,Z2,rfl,b,c,d⟩:=h;rw[fzOs];exact .cons (OAt.dat e (fun a z=>q a (by rw[d];omega)) b) (OsAt.dat e (fun a z=>q a (by rw[d];omega)) c)
end
mutual
theorem OAt.hb:∀{o:O} {v:V} {Z:Fp} {a:aZ},OAt K c F H o v Z->Z a≠0->∃u,H a=some u/\Hb u
 |.fz d,v,Z,a,h,q=>by rw[OAt.fz]at h;exact absurd (h.2 a) q
 | .ow k os,v,Z,a,h,q=>by
   rw[OAt.ow]at h;obtain⟨p,vs,Z',rfl,b,c,d⟩:=h;by_cases z:a=p
   ·subst z;exact b.hb
   ·exact OsAt.hb c (by rw[d,xV z]at q;omega)
theorem OsAt.hb:∀{os:List O} {vs:List V} {Z:Fp} {a:aZ},OsAt K c F H os vs Z->Z a≠0->∃u,H a=some u/\Hb u
 |[],vs,Z,a,h,q=>by rw[OsAt.nil]at h;exact absurd (h.2 a) q
 | o::os,vs,Z,a,h,q=>by
   rw[OsAt.cons]at h;obtain⟨v,r,Z1,Z2,rfl,b,c,d⟩:=h;by_cases z:Z1 a=0
   ·exact OsAt.hb c (by rw[d]at q;omega)
   ·exact OAt.hb b z
end
theorem OAt.cast(h:OAt K c F H o v Z)(e:∀a,Z' a=Z a):OAt K c F H o v Z' :=by rw[show Z' =Z from funext e];exact h
theorem OsAt.length:∀{os:List O} {vs:List V} {Z:Fp},OsAt K c F H os vs Z->vs.length=os.length
 |[],vs,Z,h=>by rw[OsAt.nil]at h;rw[h.1];rfl
 | o::os,vs,Z,h=>by
   obtain⟨v,r,Z1,Z2,rfl,b,c,d⟩:=h;rw[aK,aK,c.length]
theorem OsAt.fzs:∀{ds:List D} {vs:List V} {Z:Fp},OsAt K c F H (ds.map .fz) vs Z↔DsAt K c F vs ds/\∀a,Z a=0
 | [],vs,Z=>by
   rw[List.map_nil,OsAt.nil];exact⟨fun h=>⟨by rw[h.1];exact .nil,h.2⟩,fun h=>⟨h.1.un0,h.2⟩⟩
 | d::ds,vs,Z=>by
   rw[aS,OsAt.cons];constructor
   ·rintro⟨v,r,Z1,Z2,rfl,b,c,d⟩;rw[OAt.fz]at b;rw[OsAt.fzs]at c;exact⟨.cons b.1 c.1,fun a=>by rw[d,b.2,c.2]⟩
   ·rintro⟨h,z⟩;obtain⟨v,r,rfl,b,c⟩:=h.un;exact⟨v,r,fun _=>0,fun _=>0,rfl,OAt.fz.mpr ⟨b,fun _=>rfl⟩,OsAt.fzs.mpr ⟨c,fun _=>rfl⟩,fun a=>z a⟩
theorem OsAt.focus:∀{os:List O} {vs:List V} {Z:Fp} {j:Nat} {o:O},OsAt K c F H os vs Z->os[j]?=some o->∃(v:V) (Z1 R:Fp),vs[j]?=some v/\OAt K c F H o v Z1/\(∀a,Z a=Z1 a+R a)/\
  ∀F' H' o' v' Z1',Same F F' ->(∀a,R a≠0->H' a=H a)->OAt K c F' H' o' v' Z1' ->OsAt K c F' H' (os.set j o') (vs.set j v') (fun a=>Z1' a+R a)
 |[],vs,Z,j,o,h,e=>by simp at e
 | o1::os,vs,Z,0,o,h,e=>by
   rw[OsAt.cons]at h;obtain⟨v,r,Z1,Z2,rfl,b,c,d⟩:=h;cases e;refine⟨v,Z1,Z2,rfl,b,d,fun F' H' o' v' Z1' sm k q=>?_⟩;rw[List.set_cons_zero,List.set_cons_zero,OsAt.cons];exact⟨v',r,Z1',Z2,rfl,q,c.keep sm k,fun _=>rfl⟩
 | o1::os,vs,Z,j + 1,o,h,e=>by
   rw[OsAt.cons]at h;obtain⟨v,r,Z1,Z2,rfl,b,c,d⟩:=h;obtain⟨w,Y,R,h1,h2,h3,h4⟩:=OsAt.focus (j:=j) c (by simpa using e);refine⟨w,Y,fun a=>Z1 a+R a,by simpa using h1,h2,fun a=>by rw[d,h3];(try dsimp only at *);omega,fun F' H' o' v' Z1' sm k q=>?_⟩;rw[List.set_cons_succ,List.set_cons_succ,OsAt.cons];exact⟨v,r.set j v',Z1,_,rfl,b.keep sm fun a z=>k a (by(try dsimp only at *);omega),h4 F' H' o' v' Z1' sm (fun a z=>k a (by(try dsimp only at *);omega)) q,fun a=>by(try dsimp only at *);omega⟩
theorem OsAt.append:∀{os:List O} {vs:List V} {Z:Fp} {os' :List O} {vs' :List V} {Z' :Fp},OsAt K c F H os vs Z->OsAt K c F H os' vs' Z' ->OsAt K c F H (os ++ os') (vs ++ vs') (fun a=>Z a+Z' a)
 | [],vs,Z,os',vs',Z',h,k=>by
   rw[OsAt.nil]at h;simp_all
 | o::os,vs,Z,os',vs',Z',h,k=>by
   obtain⟨v,r,Z1,Z2,rfl,b,c,d⟩:=h;rw[List.cons_append,List.cons_append,OsAt.cons];exact⟨v,r ++ vs',Z1,_,rfl,b,c.append k,fun a=>by rw[d];(try dsimp only at *);omega⟩
theorem OsAt.one:OsAt K c F H [o] [v] Z↔OAt K c F H o v Z:=by
 constructor
 ·rintro⟨v',r,Z1,Z2,e,b,c,d⟩;cases e;exact b.cast fun a=>by rw[d,c.2];omega
 ·intro h;exact⟨v,[],Z,fun _=>0,rfl,h,OsAt.nil.mpr ⟨rfl,fun _=>rfl⟩,fun a=>by(try dsimp only at *);omega⟩
end
noncomputable def getP:O->List Nat->Option O
 |o,[]=>some o
 | .ow _ os,j::π=>match os[j]? with
   |some o=>getP o π
   |none=>none
 |.fz _,_::_=>none
noncomputable def setP:O->List Nat->O->O
 |_,[],x=>x
 | .ow k os,j::π,x=> .ow k (match os[j]? with
   |some o=>os.set j (setP o π x)
   |none=>os)
 |.fz d,_::_,_=>.fz d
noncomputable def kids:HO->List V
 |.lst vs=>vs
 |.dK ws=>ws.map (·.2)
 |.dT ws=>ws.map (·.2)
 |.ins _ _ fs=>fs.map (·.2)
 |_=> []
noncomputable def walk(H:Hp):V->List Nat->Option V
 |v,[]=>some v
 | .ref p,j::π=>match H p with
   | some o=>match(kids o)[j]? with
     |some v=>walk H v π
     |none=>none
   |none=>none
 |_,_::_=>none
theorem qVr:∀{ks:List α} {vs:List β},ks.length=vs.length->(ks.zip vs).map (·.2)=vs
 |[],[],_=>rfl
 |k::ks,v::vs,h=>by rw[bS,aS,qVr (Nat.succ.inj h)]
 |[],_::_,h=>by cases h
 |_::_,[],h=>by cases h
theorem OwAt.kids{p:aZ}{k:Kd}(h:OwAt c H p k vs):∃o,H p=some o/\kids o=vs:=by
 cases k with
 |lst=>exact⟨_,h,rfl⟩
 |tup=>exact h.elim
 |dct ks=>exact⟨_,h.2.2,qVr h.1⟩
 |dcT ks=>exact⟨_,h.2.2,qVr h.1⟩
 |obj C fs=>obtain⟨a,dx,b⟩:=h;exact⟨_,b,qVr a⟩
 |exc C fs=>exact h.elim
theorem jX{l:List α}{x:α}(h:l[j]?=some x):l.set j x=l:=by
 apply List.ext_getElem?;grind
theorem qZj{p:aZ}{o:HO}(h:H p=some o)(e:(kids o)[j]?=some v):walk H (.ref p) (j::π)=walk H v π:=by
 simp only[walk,h,e]
section
variable{K:aQ}{c:Nat->aZ}{F F' H H' :Hp}
theorem OAt.focus:∀{π:List Nat} {o o1:O} {v:V} {Z:Fp},OAt K c F H o v Z->getP o π=some o1->∃(v1:V) (Z1 R:Fp),walk H v π=some v1/\OAt K c F H o1 v1 Z1/\(∀a,Z a=Z1 a+R a)/\
  ∀F' H' o1' Z1',Same F F' ->(∀a,R a≠0->H' a=H a)->OAt K c F' H' o1' v1 Z1' ->OAt K c F' H' (setP o π o1') v (fun a=>Z1' a+R a)
 | [],o,o1,v,Z,h,e=>by
   cases e;refine⟨v,Z,fun _=>0,by cases v <;> rfl,h,fun a=>rfl,fun F' H' o1' Z1' sm k q=>?_⟩;exact q.cast fun _=>rfl
 |j::π,.fz d,o1,v,Z,h,e=>by cases e
 | j::π, .ow k os,o1,v,Z,h,e=>by
   simp only[getP]at e;cases e0:os[j]? with
   |none=>rw[e0]at e;cases e
   | some o=>
     rw[e0]at e;obtain⟨p,vs,Z',rfl,b,cc,d⟩:=h;obtain⟨w,Y,R,h1,h2,h3,h4⟩:=cc.focus e0;obtain⟨v1,Z1,R1,g1,g2,g3,g4⟩:=OAt.focus h2 e;obtain⟨ho,k1,k2⟩:=b.kids;refine⟨v1,Z1,fun a=>one p a+R a+R1 a,by rw[qZj k1 (by rw[k2];exact h1)];exact g1,g2,fun a=>by rw[d,h3,g3];(try dsimp only at *);omega,fun F' H' o1' Z1' sm k q=>?_⟩;have q2:=g4 F' H' o1' Z1' sm (fun a z=>k a (by(try dsimp only at *);omega)) q;have q3:=h4 F' H' _ w _ sm (fun a z=>k a (by(try dsimp only at *);omega)) q2;rw[jX h1]at q3;simp only[setP,e0];rw[OAt.ow];exact⟨p,vs,_,rfl,b.eq (k p (by dsimp only;rw[jR];omega)),q3,fun a=>by(try dsimp only at *);omega⟩
end
inductive Slot where
 |un|s (io:Bool) (o:O)
noncomputable abbrev Ev:=List Slot
noncomputable def jZ(K:aQ)(c:Nat->aZ)(F H:Hp):Slot->Option V->Fp->Prop
 |.un,_,Z=>∀a,Z a=0
 |.s _ o,some v,Z=>OAt K c F H o v Z
 |.s _ _,none,_=>False
noncomputable def lamQ:Str:="next_out.<locals>.<lambda>"
noncomputable def TabF(c:Nat->aZ)(F:Hp):Prop:=c 77≠0->F (c 77)=some (.tab (c 78) (c 79) lamQ)
theorem TabF.same{F:Hp}(h:TabF c F)(e:Same F F'):TabF c F' :=fun z=>e _ _ (h z)
noncomputable def SlAt(K:aQ)(c:Nat->aZ)(F H:Hp):Ev->L2.St->Fp->Prop
 |[],σ,Z=>(σ=[]/\TabF c F)/\∀a,Z a=0
 |s::env,σ,Z=>∃x r Z1 Z2,σ=x::r/\jZ K c F H s x Z1/\SlAt K c F H env r Z2/\∀a,Z a=Z1 a+Z2 a
section
variable{K:aQ}{c:Nat->aZ}{F F' H H' :Hp}
theorem jZ.keepM(e:∀v d,DAt K c F v d->DAt K c F' v d){s:Slot}{x:Option V}(q:∀a,Z a≠0->H' a=H a)(h:jZ K c F H s x Z):jZ K c F' H' s x Z:=by
 cases s with
 |un=>exact h
 | s io o=>
   cases x with
   |none=>exact h.elim
   |some v=>exact OAt.keepM e q h
theorem jZ.keep(e:Same F F'){s:Slot}{x:Option V}(q:∀a,Z a≠0->H' a=H a)(h:jZ K c F H s x Z):jZ K c F' H' s x Z:=h.keepM (fun _ _ h=>h.same e) q
theorem SlAt.cast{Z':Fp}(h:SlAt K c F H env σ Z)(e:∀a,Z' a=Z a):SlAt K c F H env σ Z' :=by rw[show Z' =Z from funext e];exact h
theorem jZ.hb{s:Slot}{x:Option V}{a:aZ}(h:jZ K c F H s x Z)(q:Z a≠0):∃u,H a=some u/\Hb u:=by
 cases s with
 |un=>exact absurd (h a) q
 | s io o=>
   cases x with
   |none=>exact h.elim
   |some v=>exact OAt.hb h q
theorem SlAt.keepM(e:∀v d,DAt K c F v d->DAt K c F' v d)(t:TabF c F->TabF c F'):∀{env:Ev} {σ:L2.St} {Z:Fp},(∀a,Z a≠0->H' a=H a)->SlAt K c F H env σ Z->SlAt K c F' H' env σ Z
 |[],_,_,_,h=>⟨⟨h.1.1,t h.1.2⟩,h.2⟩
 | s::env,σ,Z,q,h=>by
   obtain⟨x,r,Z1,Z2,a,b,cc,d⟩:=h;exact⟨x,r,Z1,Z2,a,b.keepM e fun a z=>q a (by rw[d];omega),cc.keepM e t fun a z=>q a (by rw[d];omega),d⟩
theorem SlAt.keep(e:Same F F')(q:∀a,Z a≠0->H' a=H a)(h:SlAt K c F H env σ Z):SlAt K c F' H' env σ Z:=h.keepM (fun _ _ h=>h.same e) (fun t=>t.same e) q
theorem SlAt.hb:∀{env:Ev} {σ:L2.St} {Z:Fp} {a:aZ},SlAt K c F H env σ Z->Z a≠0->∃u,H a=some u/\Hb u
 |[],_,_,a,h,q=>absurd (h.2 a) q
 | s::env,σ,Z,a,h,q=>by
   obtain⟨x,r,Z1,Z2,_,b,cc,d⟩:=h;by_cases z:Z1 a=0
   ·exact SlAt.hb cc (by rw[d]at q;omega)
   ·exact b.hb z
theorem SlAt.tab:∀{env:Ev} {σ:L2.St} {Z:Fp},SlAt K c F H env σ Z->TabF c F
 |[],_,_,h=>h.1.2
 | _::_,_,_,h=>by
   obtain⟨_,_,_,_,_,_,cc,_⟩:=h;exact cc.tab
theorem SlAt.len:∀{env:Ev} {σ:L2.St} {Z:Fp},SlAt K c F H env σ Z->env.length=σ.length
 |[],_,_,h=>by rw[h.1.1];rfl
 | s::env,σ,Z,h=>by
   obtain⟨x,r,Z1,Z2,rfl,b,cc,d⟩:=h;rw[aK,aK,cc.len]
theorem SlAt.focus:∀{env:Ev} {σ:L2.St} {Z:Fp} {i:Nat} {s:Slot},SlAt K c F H env σ Z->env[i]?=some s->∃(x:Option V) (Z1 R:Fp),σ[i]?=some x/\jZ K c F H s x Z1/\(∀a,Z a=Z1 a+R a)/\
  ∀(F' H' :Hp) (s' :Slot) (x' :Option V) (Z1' Y:Fp),Same F F' ->(∀a,R a≠0->H' a=H a)->jZ K c F' H' s' x' Z1' ->(∀a,Y a=Z1' a+R a)->SlAt K c F' H' (env.set i s') (σ.set i x') Y
 |[],_,_,i,s,h,e=>by simp at e
 | s1::env,σ,Z,0,s,h,e=>by
   obtain⟨x,r,Z1,Z2,rfl,b,cc,d⟩:=h;cases e;exact⟨x,Z1,Z2,rfl,b,d,fun F' H' s' x' Z1' Y sm k q y=>⟨x',r,Z1',Z2,rfl,q,cc.keep sm k,y⟩⟩
 | s1::env,σ,Z,i + 1,s,h,e=>by
   obtain⟨x,r,Z1,Z2,rfl,b,cc,d⟩:=h;obtain⟨y,Y,R,h1,h2,h3,h4⟩:=SlAt.focus (i:=i) cc (by simpa using e);refine⟨y,Y,fun a=>Z1 a+R a,by simpa using h1,h2,fun a=>by rw[d,h3];dsimp only;omega,fun F' H' s' x' Z1' Y' sm k q y' =>?_⟩;dsimp only at k y';exact⟨x,r.set i x',Z1,fun a=>Z1' a+R a,rfl,b.keep sm fun a z=>k a (by omega),h4 F' H' s' x' Z1' _ sm (fun a z=>k a (by omega)) q (fun _=>rfl),fun a=>by rw[y'];dsimp only;omega⟩
end
noncomputable abbrev hd2(B W:Fp):Fp:=fun a=>B a+W a
structure Cf(K:aQ)(c:Nat->aZ)(env:Ev)(σ:L2.St)(H:Hp)(B W:Fp):Prop where
 at_:SlAt K c (hide (hd2 B W) H) H env σ W
 nd:∀a,B a+W a<=1
 hb:∀a,B a≠0->∃o,H a=some o/\Hb o
noncomputable def pinF(f:Str):Bool:= !(decide (f="place") || decide (f="slots") || decide (f="terms") || decide (f="top") || decide (f="bottom"))
def Pin(x y:Option HO):Prop:=match x with
 |some (.ins C dx fs)=>∃fs',y=some (.ins C dx fs')/\∀(j:Nat) f v,pinF f=true->fs[j]?=some (f,v)->fs'[j]?=some (f,v)
 |_=>True
theorem Pin.refl{x:Option HO}:Pin x x:=by
 unfold Pin;grind
theorem Pin.of{x y:Option HO}(h:y=x):Pin x y:=by subst h;exact .refl
theorem Pin.trans{x y z:Option HO}(a:Pin x y)(b:Pin y z):Pin x z:=by
 unfold Pin at a⊢;split
 ·obtain⟨fs1,rfl,h1⟩:=a;obtain⟨fs2,rfl,h2⟩:=b;grind
 ·trivial
theorem Pin.none{y:Option HO}:Pin none y:=trivial
structure Step(env:Ev)(σ:L2.St)(H:Hp)(B W:Fp)(env' :Ev)(σ' :L2.St)(H' :Hp)(V:Fp):Prop where
 same:Same (hide (hd2 B W) H) (hide (hd2 B V) H')
 by_:∀a,B a≠0->H' a=H a
 new:∀a,V a≠0->W a≠0\/H a=none
 dom:∀a,H' a=none->H a=none
 pin:∀a,W a≠0->V a≠0->Pin (H a) (H' a)
 io:∀(i:Nat) (o:O),env'[i]?=some (.s true o)->(∃o0,env[i]?=some (.s true o0))/\σ'[i]?=σ[i]?
 len:env'.length=env.length
section
variable{K:aQ}{c:Nat->aZ}{env env' env2:Ev}{σ σ' σ2:L2.St}{H H' H2:Hp}{B W Y Y2 Z:Fp}
theorem Step.refl:Step env σ H B W env σ H W:=⟨Same.refl _,fun _ _=>rfl,fun _ h=>.inl h,fun _ h=>h,fun _ _ _=>.refl,fun _ o h=>⟨⟨o,h⟩,rfl⟩,rfl⟩
theorem Step.trans(a:Step env σ H B W env' σ' H' Y)(b:Step env' σ' H' B Y env2 σ2 H2 Y2):Step env σ H B W env2 σ2 H2 Y2:=by
 refine⟨a.same.trans b.same,fun z h=>(b.by_ z h).trans (a.by_ z h),fun z h=>?_,fun z h=>a.dom z (b.dom z h),fun z h1 h2=>?_,fun i o h=>?_,b.len.trans a.len⟩
 ·rcases b.new z h with q | q
  ·exact a.new z q
  ·exact .inr (a.dom z q)
 ·rcases b.new z h2 with q | q
  ·exact(a.pin z h1 q).trans (b.pin z q h2)
  ·rw[a.dom z q];exact .none
 ·obtain⟨⟨o1,h1⟩,e1⟩:=b.io i o h;obtain⟨q,e2⟩:=a.io i o1 h1;exact⟨q,e1.trans e2⟩
theorem Step.lift(b:Step env σ H B' W env' σ' H' Y)(h1:∀a,B' a=B a+Z a)(h2:∀a,W' a=W a+Z a)(h3:∀a,Y' a=Y a+Z a):Step env σ H B W' env' σ' H' Y' :=by
 refine⟨?_,fun a h=>b.by_ a (by rw[h1];omega),fun a h=>?_,b.dom,fun a p q=>?_,b.io,b.len⟩
 ·have e1:hide (hd2 B W') H=hide (hd2 B' W) H:=zJ fun a=>by dsimp only [hd2];rw [h1,h2];omega
  have e2:hide (hd2 B Y') H' =hide (hd2 B' Y) H' :=zJ fun a=>by dsimp only[hd2];rw[h1,h3];omega
  rw[e1,e2];exact b.same
 ·by_cases z:Y a=0
  ·exact .inl (by rw[h3]at h;rw[h2];omega)
  ·rcases b.new a z with q | q
   ·exact .inl (by rw[h2];omega)
   ·exact .inr q
 ·by_cases z:Z a=0
  ·exact b.pin a (by rw[h2]at p;omega) (by rw[h3]at q;omega)
  ·exact .of (b.by_ a (by rw[h1];omega))
theorem Step.cast(b:Step env σ H B W env' σ' H' Y)(h1:∀a,B' a=B a)(h2:∀a,W' a=W a)(h3:∀a,Y' a=Y a):Step env σ H B' W' env' σ' H' Y' :=by
 rw[show B' =B from funext h1,show W' =W from funext h2,show Y' =Y from funext h3];exact b
theorem Cf.cast(b:Cf K c env σ H B W)(h1:∀a,B' a=B a)(h2:∀a,W' a=W a):Cf K c env σ H B' W' :=by
 rw[show B' =B from funext h1,show W' =W from funext h2];exact b
theorem Cf.hbs(h:Cf K c env σ H B W){a:aZ}(q:B a+W a≠0):∃o,H a=some o/\Hb o:=by
 by_cases z:B a=0
 ·exact h.at_.hb (by omega)
 ·exact h.hb a z
theorem Cf.fresh(h:Cf K c env σ H B W){a:aZ}(q:H a=none):B a=0/\W a=0:=by
 have:B a+W a=0:=by
  by_cases z:B a+W a=0
  ·exact z
  ·obtain⟨o,e,_⟩:=h.hbs z;rw[q]at e;cases e
 omega
theorem Cf.grow(h:Cf K c env σ H B W)(e:Same H H'):Cf K c env σ H' B W:=by
 have st:∀a,B a+W a≠0->H' a=H a:=fun a z=>by obtain⟨o,q,_⟩:=h.hbs z;rw[q,e a o q]
 exact⟨h.at_.keep (zV fun a o z q=>⟨z,e a o q⟩) fun a z=>st a (by omega),h.nd,fun a z=>by rw[st a (by omega)];exact h.hb a z⟩
theorem Step.grow(h:Cf K c env σ H B W)(e:Same H H'):Step env σ H B W env σ H' W:=by
 have st:∀a,B a+W a≠0->H' a=H a:=fun a z=>by obtain⟨o,q,_⟩:=h.hbs z;rw[q,e a o q]
 refine⟨zV fun a o z q=>⟨z,e a o q⟩,fun a z=>st a (by omega),fun _ z=>.inl z,fun a z=>?_,fun a z _=>.of (st a (by omega)),fun _ o h=>⟨⟨o,h⟩,rfl⟩,rfl⟩;cases q:H a with
 |none=>rfl
 |some o=>rw[e a o q]at z;cases z
theorem Cf.focus(h:Cf K c env σ H B W){s:Slot}(e:env[i]?=some s):∃(x:Option V) (Z1 R:Fp),σ[i]?=some x/\jZ K c (hide (hd2 B W) H) H s x Z1/\(∀a,W a=Z1 a+R a)/\
  ∀(H' :Hp) (B' W' :Fp) (s' :Slot) (x' :Option V) (Z1' :Fp),Same (hide (hd2 B W) H) (hide (hd2 B' W') H')->(∀a,W' a=Z1' a+R a)->(∀a,R a≠0->H' a=H a)->jZ K c (hide (hd2 B' W') H') H' s' x' Z1' ->
   (∀a,B' a+W' a<=1)->(∀a,B' a≠0->∃o,H' a=some o/\Hb o)->Cf K c (env.set i s') (σ.set i x') H' B' W' :=by
 obtain⟨x,Z1,R,h1,h2,h3,h4⟩:=h.at_.focus e;exact⟨x,Z1,R,h1,h2,h3,fun H' B' W' s' x' Z1' sm hw k q nd hb=>⟨h4 _ H' s' x' Z1' W' sm k q hw,nd,hb⟩⟩
end
noncomputable def getE(env:Ev)(i:Nat)(π:List Nat):Option O:=match env[i]? with
 |some (.s _ o)=>getP o π
 |_=>none
noncomputable def setE(env:Ev)(i:Nat)(π:List Nat)(x:O):Ev:=match env[i]? with
 |some (.s io o)=>env.set i (.s io (setP o π x))
 |_=>env
noncomputable def vZ(H:Hp)(σ:L2.St)(i:Nat)(π:List Nat):Option V:=match σ[i]? with
 |some (some v)=>walk H v π
 |_=>none
section
variable{K:aQ}{c:Nat->aZ}{env env' env2:Ev}{σ σ' σ2:L2.St}{H H' H2:Hp}{B W Y Y2 Z:Fp}{i:Nat}{π:List Nat}{o1:O}
theorem qZg{x:O}{o:O}(h:(setE env i π x)[j]?=some (.s true o)):∃o0,env[j]?=some (.s true o0):=by
 unfold setE at h;grind
theorem qQm{x:O}:(setE env i π x).length =env.length:=by
 unfold setE;grind
theorem Cf.place(h:Cf K c env σ H B W)(e:getE env i π=some o1):∃(v1:V) (Z1 R:Fp),vZ H σ i π=some v1/\OAt K c (hide (hd2 B W) H) H o1 v1 Z1/\(∀a,W a=Z1 a+R a)/\
  ∀(H' :Hp) (B' W' :Fp) (o1' :O) (Z1' :Fp),Same (hide (hd2 B W) H) (hide (hd2 B' W') H')->(∀a,W' a=Z1' a+R a)->(∀a,R a≠0->H' a=H a)->OAt K c (hide (hd2 B' W') H') H' o1' v1 Z1' ->
   (∀a,B' a+W' a<=1)->(∀a,B' a≠0->∃o,H' a=some o/\Hb o)->Cf K c (setE env i π o1') σ H' B' W' :=by
 unfold getE at e;split at e
 ·rename_i io o e0;obtain⟨x,Z0,R0,h1,h2,h3,h4⟩:=h.focus e0;cases x with
  |none=>exact h2.elim
  | some v=>
    obtain⟨v1,Z1,R1,g1,g2,g3,g4⟩:=OAt.focus h2 e;refine⟨v1,Z1,fun a=>R1 a+R0 a,by unfold vZ;rw[h1];exact g1,g2,fun a=>by rw[h3,g3];dsimp only;omega,fun H' B' W' o1' Z1' sm hw k q nd hb=>?_⟩;dsimp only at hw k;have q2:=g4 _ H' o1' Z1' sm (fun a z=>k a (by omega)) q;have q3:=h4 H' B' W' (.s io (setP o π o1')) (some v) _ sm (fun a=>by rw[hw];(try dsimp only);omega) (fun a z=>k a (by omega)) q2 nd hb;rw[jX h1]at q3;unfold setE;rw[e0];exact q3
 ·cases e
theorem Cf.freeze(h:Cf K c env σ H B W)(e:getE env i π=some o1):∃v1 W',vZ H σ i π=some v1/\Cf K c (setE env i π (.fz (fzO o1))) σ H B W' /\DAt K c (hide (hd2 B W') H) v1 (fzO o1)/\Step env σ H B W (setE env i π (.fz (fzO o1))) σ H W' :=by
 obtain⟨v1,Z1,R,h1,h2,h3,h4⟩:=h.place e;have sm:Same (hide (hd2 B W) H) (hide (hd2 B R) H):=v7 fun a z=>by dsimp only[hd2]at *;rw[h3]at z;omega
 have hd:DAt K c (hide (hd2 B R) H) v1 (fzO o1):=h2.dat sm fun a z=>vD (by have:=h.nd a;rw[h3]at this;dsimp only[hd2];omega)
 refine⟨v1,R,h1,h4 H B R _ (fun _=>0) sm (fun a=>by(try dsimp only);omega) (fun _ _=>rfl) (OAt.fz.mpr ⟨hd,fun _=>rfl⟩) (fun a=>by have:=h.nd a;rw[h3]at this;omega) h.hb,hd,?_⟩;exact⟨sm,fun _ _=>rfl,fun a z=>.inl (by rw[h3];omega),fun _ z=>z,fun _ _ _=>.refl,fun j o q=>⟨qZg q,rfl⟩,qQm⟩
theorem Cf.view(h:Cf K c env σ H B W)(e:getE env i π=some o1):∃v1,vZ H σ i π=some v1/\DAt K c H v1 (fzO o1):=by
 obtain⟨v1,Z1,R,h1,h2,h3,h4⟩:=h.place e;exact⟨v1,h1,h2.dat qT fun _ _=>rfl⟩
theorem Cf.put{u:V}{o:O}(h:Cf K c env σ H B' W)(hB:∀a,B' a=B a+Z a)(ho:OAt K c (hide (hd2 B' W) H) H o u Z)(hi:i<env.length):∃W',Cf K c (env.set i (.s io o)) (σ.set i (some u)) H B W' /\Same (hide (hd2 B' W) H) (hide (hd2 B W') H)/\∀a,W' a≠0->Z a+W a≠0:=by
 obtain⟨x,Z1,R,h1,h2,h3,h4⟩:=h.focus (aF hi);have sm:Same (hide (hd2 B' W) H) (hide (hd2 B fun a=>Z a+R a) H):=v7 fun a z=>by dsimp only[hd2]at *;rw[h3,hB]at z;omega
 refine⟨fun a=>Z a+R a,h4 H B _ (.s io o) (some u) Z sm (fun _=>rfl) (fun _ _=>rfl) (ho.keep sm fun _ _=>rfl) (fun a=>?_) (fun a z=>h.hb a (by rw[hB];omega)),sm,fun a z=>?_⟩
 ·have:=h.nd a;rw[h3,hB]at this;(try dsimp only);omega
 ·dsimp only at z;rw[h3];omega
end
inductive Res(α:Type) where
 |ok (a:α)|er (C:Nat) (fs:List (Str×D))|no
noncomputable def Res.bind{α β:Type}(x:Res α)(f:α->Res β):Res β:=match x with
 |.ok a=>f a
 |.er C fs=>.er C fs
 |.no =>.no
noncomputable def Res.wp{α:Type}(x:Res α)(Q:α->Prop)(E:Nat->List (Str×D)->Prop):Prop:=match x with
 |.ok a=>Q a
 |.er C fs=>E C fs
 |.no =>False
noncomputable def opt{α:Type}:Option α->Res α
 |some a=>.ok a
 |none=>.no
theorem qY{f:α->Res β}{Q:β->Prop}{E:Nat->List (Str×D)->Prop}:∀{x:Res α},(x.bind f).wp Q E↔x.wp (fun a=>(f a).wp Q E) E
 |.ok _=>Iff.rfl
 |.er _ _=>Iff.rfl
 |.no =>Iff.rfl
theorem wp_mono{Q Q' :α->Prop}{E E' :Nat->List (Str×D)->Prop}(hQ:∀a,Q a->Q' a)(hE:∀C fs,E C fs->E' C fs):∀{x:Res α},x.wp Q E->x.wp Q' E'
 |.ok a,h=>hQ a h
 |.er C fs,h=>hE C fs h
 |.no,h=>h.elim
theorem qU{f:α->Res β}{Q:β->Prop}{E:Nat->List (Str×D)->Prop}:∀{x:Option α},((opt x).bind f).wp Q E->∃a,x=some a/\(f a).wp Q E
 |some a,h=>⟨a,rfl,h⟩
 |none,h=>h.elim
theorem vL{b:Bool}{x:Res α}{Q:α->Prop}{E:Nat->List (Str×D)->Prop}(h:(cond b x .no).wp Q E):b=true/\x.wp Q E:=by
 cases b with
 |true=>grind
 |false=>exact h.elim
structure StepX(H:Hp)(B W:Fp)(H' :Hp)(Y:Fp):Prop where
 same:Same (hide (hd2 B W) H) (hide (hd2 B Y) H')
 by_:∀a,B a≠0->H' a=H a
 dom:∀a,H' a=none->H a=none
noncomputable def ErAt(K:aQ)(c:Nat->aZ)(F H:Hp)(fs:List (Str×D)):Option aZ->Prop
 |none=>fs=[]
 |some dx=>∃ws:List (Str×V),H dx=some (.xd ws)/\ws.map (·.1)=fs.map (·.1)/\DsAt K c F (ws.map (·.2)) (fs.map (·.2))
noncomputable def erP(K:aQ)(c:Nat->aZ)(E:XK)(H:Hp)(B W:Fp):Nat->List (Str×D)->Prop:=fun C fs=>∀H' Y ox,StepX H B W H' Y->ErAt K c (hide (hd2 B Y) H') H' fs ox->E (.ref (c C)) ox H'
section
variable{K:aQ}{c:Nat->aZ}{E:XK}{env env' :Ev}{σ σ' :L2.St}{H H' H2:Hp}{B W Y Y2 Z:Fp}{C:Nat}{fs:List (Str×D)}
theorem Step.x(a:Step env σ H B W env' σ' H' Y)(b:StepX H' B Y H2 Y2):StepX H B W H2 Y2:=⟨a.same.trans b.same,fun z h=>(b.by_ z h).trans (a.by_ z h),fun z h=>a.dom z (b.dom z h)⟩
theorem erP.back(a:Step env σ H B W env' σ' H' Y)(h:erP K c E H B W C fs):erP K c E H' B Y C fs:=fun H2 Y2 ox sx er=>h H2 Y2 ox (a.x sx) er
end
structure Got(K:aQ)(c:Nat->aZ)(env:Ev)(σ:L2.St)(H:Hp)(B W:Fp)(env' :Ev)(H' :Hp)(W' Z:Fp)(o:O)(u:V):Prop where
 st:Step env σ H B W env' σ H' (hd2 W' Z)
 cf:Cf K c env' σ H' (hd2 B Z) W'
 at_:OAt K c (hide (hd2 (hd2 B Z) W') H') H' o u Z
structure GotD(K:aQ)(c:Nat->aZ)(env:Ev)(σ:L2.St)(H:Hp)(B W:Fp)(env' :Ev)(H' :Hp)(W' :Fp)(x:D)(u:V):Prop where
 st:Step env σ H B W env' σ H' W'
 cf:Cf K c env' σ H' B W'
 at_:DAt K c (hide (hd2 B W') H') u x
noncomputable abbrev SE:=Ev->Res (O×Ev)
noncomputable abbrev SV:=Ev->Res (D×Ev)
def tE(K:aQ)(c:Nat->aZ)(E:XK)(s:SE):TE:=fun σ H Q=>∃env B W,Cf K c env σ H B W/\(s env).wp (fun r=>∀u H' W' Z,Got K c env σ H B W r.2 H' W' Z r.1 u->Q u H') (erP K c E H B W)
noncomputable def tV(K:aQ)(c:Nat->aZ)(E:XK)(s:SV):TE:=fun σ H Q=>∃env B W,Cf K c env σ H B W/\(s env).wp (fun r=>∀u H' W',GotD K c env σ H B W r.2 H' W' r.1 u->Q u H') (erP K c E H B W)
structure ED(X:Cx)(c:Nat->aZ)(E:XK)(e:Expr)(s:SE):Prop where
 h:PE X e (tE X.K c E s)
structure EV(X:Cx)(c:Nat->aZ)(E:XK)(e:Expr)(s:SV):Prop where
 h:PE X e (tV X.K c E s)
theorem PE.imp{t t' :TE}(h:PE X e t)(k:∀σ H Q,t' σ H Q->t σ H Q):PE X e t' :=fun pins s σ H Q I q=>h pins s σ H Q I (k σ H Q q)
section
variable{K:aQ}{c:Nat->aZ}{E:XK}{env env' env2:Ev}{σ σ' :L2.St}{H H' H2:Hp}{B W W' W2 Y Y2 Z:Fp}{o:O}{u:V}{x:D}
theorem Got.fz(g:Got K c env σ H B W env' H' W' Z o u):GotD K c env σ H B W env' H' W' (fzO o) u:=by
 have sm:Same (hide (hd2 (hd2 B Z) W') H') (hide (hd2 B W') H'):=v7 fun a z=>by dsimp only[hd2]at *;omega
 have sm2:Same (hide (hd2 B (hd2 W' Z)) H') (hide (hd2 B W') H'):=v7 fun a z=>by dsimp only[hd2]at *;omega
 refine⟨⟨g.st.same.trans sm2,g.st.by_,fun a h=>g.st.new a (by dsimp only[hd2];omega),g.st.dom,fun a h1 h2=>g.st.pin a h1 (by dsimp only[hd2];omega),g.st.io,g.st.len⟩,
  ⟨g.cf.at_.keep sm fun _ _=>rfl,fun a=>by have:=g.cf.nd a;dsimp only[hd2]at this;omega,fun a h=>g.cf.hb a (by dsimp only[hd2];omega)⟩,g.at_.dat sm fun a h=>vD ?_⟩
 have:=g.cf.nd a;dsimp only[hd2]at *;omega
theorem GotD.own(g:GotD K c env σ H B W env' H' W' x u):Got K c env σ H B W env' H' W' (fun _=>0) (.fz x) u:=by
 refine⟨g.st.cast (fun _=>rfl) (fun _=>rfl) fun _=>rfl,g.cf.cast (fun _=>rfl) fun _=>rfl,OAt.fz.mpr ⟨?_,fun _=>rfl⟩⟩;exact g.at_
end
section
variable{X:Cx}{c:Nat->aZ}{E:XK}{e:Expr}
noncomputable def fzS(s:SE):SV:=fun env=>(s env).bind fun r=>.ok (fzO r.1,r.2)
noncomputable def owS(s:SV):SE:=fun env=>(s env).bind fun r=>.ok (.fz r.1,r.2)
theorem ev_e{s:SE}(h:ED X c E e s):EV X c E e (fzS s):=by
 refine⟨PE.imp h.h fun σ H Q=>?_⟩;rintro⟨env,B,W,cf,w⟩;exact⟨env,B,W,cf,wp_mono (fun r q u H' W' Z g=>q u H' W' g.fz) (fun _ _ q=>q) (qY.mp w)⟩
theorem ed_v{s:SV}(h:EV X c E e s):ED X c E e (owS s):=by
 refine⟨PE.imp h.h fun σ H Q=>?_⟩;rintro⟨env,B,W,cf,w⟩;exact⟨env,B,W,cf,wp_mono (fun r q u H' W' g=>q u H' W' _ g.own) (fun _ _ q=>q) (qY.mp w)⟩
end
inductive Hn where
 |d (x:D)|p (i:Nat) (π:List Nat)
noncomputable abbrev SP:=Ev->Option Hn
def HnAt(K:aQ)(c:Nat->aZ)(F:Hp)(σ:L2.St)(H:Hp)(u:V):Hn->Prop
 |.d x=>DAt K c F u x
 |.p i π=>vZ H σ i π=some u
noncomputable def tP(K:aQ)(c:Nat->aZ)(s:SP):TE:=fun σ H Q=>∃env B W h,Cf K c env σ H B W/\s env=some h/\∀u,HnAt K c (hide (hd2 B W) H) σ H u h->Q u H
structure EP(X:Cx)(c:Nat->aZ)(e:Expr)(s:SP):Prop where
 h:PE X e (tP X.K c s)
noncomputable def hnO(o:O)(i:Nat)(π:List Nat):Hn:=match o with
 |.fz d=>.d d
 |.ow _ _=>.p i π
noncomputable def hnV(env:Ev):Hn->Res (D×Ev)
 |.d x=>.ok (x,env)
 |.p i π=>(opt (getE env i π)).bind fun o=>.ok (fzO o,setE env i π (.fz (fzO o)))
noncomputable def pV(s:SP):SV:=fun env=>(opt (s env)).bind (hnV env)
theorem vZ3{K:aQ}{h:Hn}{u:V}{Q:D×Ev->Prop}{EE:Nat->List (Str×D)->Prop}(cf:Cf K c env σ H B W)(hu:HnAt K c (hide (hd2 B W) H) σ H u h)(w:(hnV env h).wp Q EE):
  ∃x env' W',GotD K c env σ H B W env' H W' x u/\Q (x,env'):=by
 cases h with
 |d x=>exact⟨x,env,W,⟨.refl,cf,hu⟩,w⟩
 | p i π=>
   obtain⟨o,e1,w1⟩:=qU w;obtain⟨v1,W',h1,h2,h3,h4⟩:=cf.freeze e1;have:vZ H σ i π=some u:=hu;rw[this]at h1;cases h1;exact⟨_,_,W',⟨h4,h2,h3⟩,w1⟩
theorem ev_p{s:SP}(h:EP X c e s):EV X c E e (pV s):=by
 refine⟨PE.imp h.h fun σ H Q=>?_⟩;rintro⟨env,B,W,cf,w⟩;obtain⟨h1,e0,w1⟩:=qU w;refine⟨env,B,W,h1,cf,e0,fun u hu=>?_⟩;obtain⟨x,env',W',g,q⟩:=vZ3 cf hu w1;grind
noncomputable def rsv(env:Ev):Hn->Option D
 |.d x=>some x
 | .p i π=>match getE env i π with
   |some o=>some (fzO o)
   |none=>none
theorem j6{K:aQ}{h:Hn}{u:V}{x:D}(cf:Cf K c env σ H B W)(hu:HnAt K c (hide (hd2 B W) H) σ H u h)(e:rsv env h=some x):DAt K c H u x:=by
 cases h with
 |d y=>cases e;exact DAt.same qT hu
 | p i π=>
   simp only[rsv]at e;cases e0:getE env i π with
   |none=>grind
   | some o=>
     rw[e0]at e;cases e;obtain⟨v1,h1,h2⟩:=cf.view e0;have:vZ H σ i π=some u:=hu;grind
inductive Vw(K:aQ)(c:Nat->aZ)(F H:Hp):V->D->Prop
 |d {u:V} {x:D} (h:DAt K c F u x):Vw K c F H u x
 |nd {p:aZ} {k:Kd} {vs:List V} {ds:List D} (h:NdAt K c H p k vs) (r:DsAt K c F vs ds):Vw K c F H (.ref p) (.nd k ds)
section
variable{K:aQ}{c:Nat->aZ}{F F' H H' :Hp}{u:V}{x:D}
theorem Vw.un{k:Kd}{ds:List D}(s:Same F H)(h:Vw K c F H u (.nd k ds)):∃p vs,u=.ref p/\NdAt K c H p k vs/\DsAt K c F vs ds:=by
 generalize e:D.nd k ds=y at h;cases h with
 | d h=>
   subst e;obtain⟨p,vs,a,b,cc⟩:=h.un;exact⟨p,vs,a,b.same s,cc⟩
 |nd h r=>cases e;exact⟨_,_,rfl,h,r⟩
theorem Vw.same(s:Same F F')(h:Vw K c F H u x):Vw K c F' H u x:=by
 cases h with
 |d h=>exact .d (h.same s)
 |nd h r=>exact .nd h (r.same s)
end
noncomputable def vJ8:O->O
 |.fz d=>.fz d
 |.ow k os=>.ow k (os.map fun o=>.fz (fzO o))
noncomputable def rsvB(env:Ev):Hn->Res (D×Ev)
 |.d x=>.ok (x,env)
 |.p i π=>(opt (getE env i π)).bind fun o=>.ok (fzO o,setE env i π (vJ8 o))
theorem vWr{K:aQ}{h:Hn}{u:V}{Q:D×Ev->Prop}{EE:Nat->List (Str×D)->Prop}(cf:Cf K c env σ H B W)(hu:HnAt K c (hide (hd2 B W) H) σ H u h)(w:(rsvB env h).wp Q EE):
  ∃x env' W',Step env σ H B W env' σ H W' /\Cf K c env' σ H B W' /\Vw K c (hide (hd2 B W') H) H u x/\Q (x,env'):=by
 cases h with
 |d x=>exact⟨x,env,W,.refl,cf,.d hu,w⟩
 | p i π=>
   obtain⟨o,e1,w1⟩:=qU w;obtain⟨v1,Z1,R,h1,h2,h3,h4⟩:=cf.place e1;have:vZ H σ i π=some u:=hu;rw[this]at h1;cases h1;cases o with
   | fz d=>
     rw[OAt.fz]at h2;have q:=h4 H B W (.fz d) Z1 (Same.refl _) h3 (fun _ _=>rfl) (OAt.fz.mpr h2) cf.nd cf.hb;exact⟨d,_,W,⟨Same.refl _,fun _ _=>rfl,fun _ z=>.inl z,fun _ z=>z,fun _ _ _=>.refl,fun j o z=>⟨qZg z,rfl⟩,qQm⟩,q,.d h2.1,w1⟩
   | ow k os=>
     rw[OAt.ow]at h2;obtain⟨p,vs,Z',rfl,b,cc,d⟩:=h2;have lo:∀a,Z' a≠0->B a+(one p a+R a)=0:=fun a z=>by have:=cf.nd a;rw[h3,d]at this;omega
     have sm:Same (hide (hd2 B W) H) (hide (hd2 B fun a=>one p a+R a) H):=v7 fun a z=>by dsimp only[hd2]at *;rw[h3,d]at z;omega
     have kd:DsAt K c (hide (hd2 B fun a=>one p a+R a) H) vs (fzOs os):=cc.dat sm fun a z=>vD (lo a z)
     have q:=h4 H B (fun a=>one p a+R a) (.ow k (os.map fun o=>.fz (fzO o))) (one p) sm (fun _=>rfl) (fun _ _=>rfl)
      (OAt.ow.mpr ⟨p,vs,fun _=>0,rfl,b,by rw[show(os.map fun o=>O.fz (fzO o))=(fzOs os).map .fz by rw[qJw,dP];rfl,OsAt.fzs];exact⟨kd,fun _=>rfl⟩,fun _=>rfl⟩) (fun a=>by have:=cf.nd a;rw[h3,d]at this;(try dsimp only);omega) cf.hb
     refine⟨_,_,_,⟨sm,fun _ _=>rfl,fun a z=>.inl ?_,fun _ z=>z,fun _ _ _=>.refl,fun j o z=>⟨qZg z,rfl⟩,qQm⟩,q,?_,w1⟩
     ·(try dsimp only at z);rw[h3,d];omega
     ·rw[fzO];exact .nd (b.nd rfl) kd
inductive Oe where
 |p (s:SP)|v (s:SV)
noncomputable def Oe.isP:Oe->Bool
 |.p _=>true
 |.v _=>false
noncomputable def Hn.st:Hn->Bool
 |.d _=>true
 |.p _ π=>π.isEmpty
noncomputable def oV:Oe->SV
 |.p s=>pV s
 |.v s=>s
noncomputable def evO:Oe->Ev->Res (Hn×Ev)
 |.p s,env=>(opt (s env)).bind fun h=>.ok (h,env)
 |.v s,env=>(s env).bind fun r=>.ok (.d r.1,r.2)
noncomputable def tO(K:aQ)(c:Nat->aZ)(E:XK):Oe->TE
 |.p s=>tP K c s
 |.v s=>tV K c E s
structure OD(X:Cx)(c:Nat->aZ)(E:XK)(e:Expr)(o:Oe):Prop where
 h:PE X e (tO X.K c E o)
structure GotH(K:aQ)(c:Nat->aZ)(env:Ev)(σ:L2.St)(H:Hp)(B W:Fp)(o:Oe)(env' :Ev)(H' :Hp)(W' :Fp)(h:Hn)(u:V):Prop where
 st:Step env σ H B W env' σ H' W'
 cf:Cf K c env' σ H' B W'
 at_:HnAt K c (hide (hd2 B W') H') σ H' u h
 pu:o.isP=true->H' =H/\W' =W/\env' =env
noncomputable def zF(K:aQ)(c:Nat->aZ)(F:Hp)(σ:L2.St)(H:Hp):List V->List Hn->Prop
 |[],[]=>True
 |u::us,h::hs=>HnAt K c F σ H u h/\zF K c F σ H us hs
 |_,_=>False
section
variable{K:aQ}{c:Nat->aZ}{E:XK}{env env' env2:Ev}{σ σ' :L2.St}{H H' H2:Hp}{B W W' W2 Y Y2 Z:Fp}{o:Oe}{h:Hn}{u:V}{x:D}{Q:VK}
theorem qVg{w:Hn×Ev->Prop}(cf:Cf K c env σ H B W)(hw:(evO o env).wp w (erP K c E H B W))(k:∀r,w r->∀u H' W',GotH K c env σ H B W o r.2 H' W' r.1 u->Q u H'):tO K c E o σ H Q:=by
 cases o with
 | p s=>
   obtain⟨h1,e0,w1⟩:=qU hw;exact⟨env,B,W,h1,cf,e0,fun u hu=>k _ w1 u H W ⟨.refl,cf,hu,fun _=>⟨rfl,rfl,rfl⟩⟩⟩
 |v s=>exact⟨env,B,W,cf,wp_mono (fun r q u H' W' g=>k _ q u H' W' ⟨g.st,g.cf,g.at_,fun z=>by cases z⟩) (fun _ _ q=>q) (qY.mp hw)⟩
theorem HnAt.step(a:HnAt K c (hide (hd2 B W) H) σ H u h)(g:Same (hide (hd2 B W) H) (hide (hd2 B W') H'))(hs:h.st=true):HnAt K c (hide (hd2 B W') H') σ H' u h:=by
 cases h with
 |d x=>exact DAt.same g a
 | p i π=>
   cases π with
   | nil=>
     have a' :vZ H σ i []=some u:=a;show vZ H' σ i []=some u;unfold vZ at a' ⊢;cases e:σ[i]? with
     |none=>rw[e]at a';cases a'
     | some v=>
       rw[e]at a';cases v with
       |none=>cases a'
       |some v=>simpa[walk] using a'
   |cons j π=>cases hs
theorem GotH.next{o2:Oe}{h2:Hn}{u2:V}(a:GotH K c env σ H B W o env' H' W' h u)(b:GotH K c env' σ H' B W' o2 env2 H2 W2 h2 u2)(hs:(h.st || o2.isP)=true):HnAt K c (hide (hd2 B W2) H2) σ H2 u h:=by
 cases e:h.st with
 |true=>exact a.at_.step b.st.same e
 | false=>
   rw[e]at hs;obtain⟨e1,e2,_⟩:=b.pu (by simpa using hs);subst e1 e2;exact a.at_
end
section
variable{X:Cx}{c:Nat->aZ}{E:XK}{e a b:Expr}{o oa ob:Oe}
theorem od_v{s:SV}(h:EV X c E e s):OD X c E e (.v s):=⟨h.h⟩
theorem od_e{s:SE}(h:ED X c E e s):OD X c E e (.v (fzS s)):=⟨(ev_e h).h⟩
theorem OD.val(h:OD X c E e o):EV X c E e (oV o):=by
 cases o with
 |p s=>exact ev_p ⟨h.h⟩
 |v s=>exact⟨h.h⟩
theorem OD.ow(h:OD X c E e o):ED X c E e (owS (oV o)):=ed_v h.val
end
noncomputable def oC(d:D):Oe:=.p fun _=>some (.d d)
noncomputable def vJ4(i:Nat):SP:=fun env=>match env[i]? with
 |some (.s _ o)=>some (hnO o i [])
 |_=>none
noncomputable def oN(i:Nat):Oe:=.p (vJ4 i)
section
variable{X:Cx}{c:Nat->aZ}{E:XK}{e:Expr}{pos:Pos}
theorem od_c{d:D}(h:PE X e (tC v))(k:∀F,DAt X.K c F v d):OD X c E e (oC d):=by
 refine⟨PE.imp h fun σ H Q=>?_⟩;rintro⟨env,B,W,h1,cf,e0,q⟩;cases e0;exact q v (k _)
theorem qV{i:Int}:OD X c E (.Constant (.int i) j pos) (oC (.int i)):=od_c zQg fun _=>.int i
theorem qW{x:Str}:OD X c E (.Constant (.str x) j pos) (oC (.str x)):=od_c zY2 fun _=>.str x
theorem qXp{x:Bool}:OD X c E (.Constant (.bool x) j pos) (oC (.bl x)):=od_c jQ1 fun _=>.bl x
theorem zQq{K:aQ}{F:Hp}{o:O}{u:V}(h:OAt K c F H o u Z)(w:vZ H σ i π=some u):HnAt K c F σ H u (hnO o i π):=by
 cases o with
 |fz d=>rw[OAt.fz]at h;exact h.1
 |ow k os=>exact w
theorem zWl(h:PE X e (tVar i)):OD X c E e (oN i):=by
 refine⟨PE.imp h fun σ H Q=>?_⟩;rintro⟨env,B,W,h1,cf,e0,q⟩;simp only[vJ4]at e0;cases e1:env[i]? with
 |none=>grind
 | some s=>
   rw[e1]at e0;cases s with
   |un=>cases e0
   | s io o=>
     cases e0;obtain⟨x,Z1,R,h1,h2,h3,h4⟩:=cf.focus e1;cases x with
     |none=>exact h2.elim
     |some v=>exact⟨v,h1,q v (zQq h2 (by unfold vZ;rw[h1];simp[walk]))⟩
end
noncomputable def PrS1(K:aQ)(c:Nat->aZ)(r:V->Hp->VK->Prop)(f:D->Option D):Prop:=∀(u:V) (H:Hp) (x z:D) (Q:VK),DAt K c H u x->f x=some z->(∀v,(∀F,DAt K c F v z)->Q v H)->r u H Q
noncomputable def PrS2(K:aQ)(c:Nat->aZ)(r:R2)(f:D->D->Option D):Prop:=∀(u w:V) (H:Hp) (x y z:D) (Q:VK),DAt K c H u x->DAt K c H w y->f x y=some z->(∀v,(∀F,DAt K c F v z)->Q v H)->r u w H Q
noncomputable def sp1(f:D->Option D)(a:SP):SP:=fun env=>(a env).bind fun h=>(rsv env h).bind fun x=>(f x).bind fun z=>some (.d z)
noncomputable def sv1(f:D->Option D)(a:Oe):SV:=fun env=>(evO a env).bind fun r=>(opt (rsv r.2 r.1)).bind fun x=>(opt (f x)).bind fun z=>.ok (z,r.2)
noncomputable def o1(f:D->Option D):Oe->Oe
 |.p s=>.p (sp1 f s)
 |a=>.v (sv1 f a)
noncomputable def sp2(f:D->D->Option D)(a b:SP):SP:=fun env=>(a env).bind fun h=>(b env).bind fun h' =>(rsv env h).bind fun x=>(rsv env h').bind fun y=>(f x y).bind fun z=>some (.d z)
noncomputable def sv2(f:D->D->Option D)(a b:Oe):SV:=fun env=>(evO a env).bind fun r=>(evO b r.2).bind fun r' =>cond (r.1.st || b.isP) ((opt (rsv r'.2 r.1)).bind fun x=>(opt (rsv r'.2 r'.1)).bind fun y=>(opt (f x y)).bind fun z=>.ok (z,r'.2)) .no
noncomputable def o2(f:D->D->Option D)(a b:Oe):Oe:=match a,b with
 |.p s,.p t=>.p (sp2 f s t)
 |a,b=>.v (sv2 f a b)
section
variable{X:Cx}{K:aQ}{c:Nat->aZ}{E:XK}{e a b:Expr}{pos:Pos}{oa ob:Oe}
theorem bnd{x:Option α}{f:α->Option β}{b:β}(h:x.bind f=some b):∃a,x=some a/\f a=some b:=dE.mp h
theorem zXl{r:V->Hp->VK->Prop}{f:D->Option D}(hp:PrS1 K c r f)(h:tO K c E (o1 f oa) σ H Q):tUn r (tO K c E oa) σ H Q:=by
 cases oa with
 | p s=>
   obtain⟨env,B,W,h1,cf,e0,q⟩:=h;obtain⟨ha,e1,e2⟩:=bnd e0;obtain⟨x,e3,e4⟩:=bnd e2;obtain⟨z,e5,e6⟩:=bnd e4;cases e6;exact⟨env,B,W,ha,cf,e1,fun u hu=>hp u H x z Q (j6 cf hu e3) e5 fun v hv=>q v (hv _)⟩
 | v s=>
   obtain⟨env,B,W,cf,w⟩:=h;refine qVg (o:=.v s) cf (qY.mp w) fun r w1 u H' W' g=>?_
   obtain⟨x,e3,w2⟩:=qU w1;obtain⟨z,e5,w3⟩:=qU w2;exact hp u H' x z Q (j6 g.cf g.at_ e3) e5 fun v hv=>w3 v H' W' ⟨g.st,g.cf,hv _⟩
theorem vK5{r:R2}{f:D->D->Option D}(hp:PrS2 K c r f)(h:tV K c E (sv2 f oa ob) σ H Q):tOp r (tO K c E oa) (tO K c E ob) σ H Q:=by
 obtain⟨env,B,W,cf,w⟩:=h;refine qVg cf (qY.mp w) fun r1 w1 u H1 W1 g1=>?_
 refine qVg g1.cf (wp_mono (fun _ q=>q) (fun C fs he=>he.back g1.st) (qY.mp w1)) fun r2 w2 v H2 W2 g2=>?_
 obtain⟨hs,w3⟩:=vL w2;obtain⟨x,e3,w4⟩:=qU w3;obtain⟨y,e4,w5⟩:=qU w4;obtain⟨z,e5,w6⟩:=qU w5;exact hp u v H2 x y z Q (j6 g2.cf (g1.next g2 hs) e3) (j6 g2.cf g2.at_ e4) e5 fun v hv=>w6 v H2 W2 ⟨g1.st.trans g2.st,g2.cf,hv _⟩
theorem vKl{r:R2}{f:D->D->Option D}(hp:PrS2 K c r f)(h:tO K c E (o2 f oa ob) σ H Q):tOp r (tO K c E oa) (tO K c E ob) σ H Q:=by
 cases oa with
 |v s=>exact vK5 hp h
 | p s=>
   cases ob with
   |v t=>exact vK5 hp h
   | p t=>
     obtain⟨env,B,W,h1,cf,e0,q⟩:=h;obtain⟨ha,e1,e2⟩:=bnd e0;obtain⟨hb,e3,e4⟩:=bnd e2;obtain⟨x,e5,e6⟩:=bnd e4;obtain⟨y,e7,e8⟩:=bnd e6;obtain⟨z,e9,e10⟩:=bnd e8;cases e10;exact⟨env,B,W,ha,cf,e1,fun u hu=>⟨env,B,W,hb,cf,e3,fun w hw=>hp u w H x y z Q (j6 cf hu e5) (j6 cf hw e7) e9 fun v hv=>q v (hv _)⟩⟩
theorem jQ5{op:UnaryOp}{r:V->Hp->VK->Prop}{f:D->Option D}(ho:UnR X (unaryOp op) r)(hp:PrS1 X.K c r f)(ha:OD X c E a oa):OD X c E (.UnaryOp op a pos) (o1 f oa):=
 ⟨PE.imp (zXp ho ha.h) fun _ _ _ h=>zXl hp h⟩
theorem qXo{op:Operator}{r:R2}{f:D->D->Option D}(ho:OpR X (binaryOp op) r)(hp:PrS2 X.K c r f)(ha:OD X c E a oa)(hb:OD X c E b ob):OD X c E (.BinOp a op b pos) (o2 f oa ob):=
 ⟨PE.imp (zXq ho ha.h hb.h) fun _ _ _ h=>vKl hp h⟩
theorem qXw{op:CmpOp}{r:R2}{f:D->D->Option D}(ho:OpR X (bN op) r)(hp:PrS2 X.K c r f)(ha:OD X c E a oa)(hb:OD X c E b ob)(hm:behindInMarks op b=false):OD X c E (.Compare a [op] [b] pos) (o2 f oa ob):=
 ⟨PE.imp (zJ8 ho ha.h hb.h hm) fun _ _ _ h=>vKl hp h⟩
end
noncomputable abbrev ST:=Ev->Res (Bool×Ev)
noncomputable def tT(K:aQ)(c:Nat->aZ)(E:XK)(s:ST):TT:=fun σ H Q=>∃env B W,Cf K c env σ H B W/\(s env).wp (fun r=>∀H' W',Step env σ H B W r.2 σ H' W' ->Cf K c r.2 σ H' B W' ->Q r.1 H') (erP K c E H B W)
structure TD(X:Cx)(c:Nat->aZ)(E:XK)(e:Expr)(s:ST):Prop where
 h:PT X e (tT X.K c E s)
structure WD(X:Cx)(c:Nat->aZ)(E:XK)(e:Expr)(s:ST):Prop where
 h:PW X e (tT X.K c E s)
theorem PT.imp{t:TT}(h:PT X e t)(k:∀σ H Q,t' σ H Q->t σ H Q):PT X e t' :=fun pins s σ H Q I q=>h pins s σ H Q I (k σ H Q q)
theorem PW.imp{t:TT}(h:PW X e t)(k:∀σ H Q,t' σ H Q->t σ H Q):PW X e t' :=fun wh pins s σ H Q I q=>h wh pins s σ H Q I (k σ H Q q)
noncomputable def blOf:D->Option Bool
 |.bl b=>some b
 |_=>none
theorem zXe{K:aQ}{F:Hp}{u:V}{x:D}{b:Bool}(h:DAt K c F u x)(e:blOf x=some b):u=.bl b:=by
 cases h <;> cases e
 rfl
noncomputable def asB(o:Oe):ST:=fun env=>(oV o env).bind fun r=>(opt (blOf r.1)).bind fun b=>.ok (b,r.2)
theorem vK4{K:aQ}{o:Oe}(h:tV K c E (oV o) σ H Q):tO K c E o σ H Q:=by
 cases o with
 |v s=>exact h
 | p s=>
   obtain⟨env,B,W,cf,w⟩:=h;obtain⟨h1,e0,w1⟩:=qU w;refine⟨env,B,W,h1,cf,e0,fun u hu=>?_⟩;obtain⟨x,env',W',g,q⟩:=vZ3 cf hu w1;grind
theorem vJ3{K:aQ}{o:Oe}{Q:Bool->Hp->Prop}(h:tT K c E (asB o) σ H Q):tO K c E o σ H fun x H1=>∃k,x=.bl k/\Q k H1:=by
 obtain⟨env,B,W,cf,w⟩:=h;refine vK4 ⟨env,B,W,cf,wp_mono (fun r1 h1 u H1 W1 g=>?_) (fun _ _ he=>he) (qY.mp w)⟩;obtain⟨b,e1,h2⟩:=qU h1;exact⟨b,zXe g.at_ e1,h2 H1 W1 g.st g.cf⟩
section
variable{X:Cx}{c:Nat->aZ}{E:XK}{e a b d:Expr}{rest:List Expr}{pos:Pos}{sa sb:ST}{oa ob oc:Oe}{o:Oe}
theorem qJ6(h:OD X c E e o)(he:∀whole,isTrue e X.env whole=(do let v ←whole;standAt e.pos;holding [v] (truthy v)):=by intro _;rfl):TD X c E e (asB o):=
 ⟨PT.imp (zYm h.h he) fun _ _ _ h=>vJ3 h⟩
theorem qZ2{op:CmpOp}{r:R2}{f:D->D->Option D}(ho:OpR X (bN op) r)(hp:PrS2 X.K c r f)(ha:OD X c E a oa)(hb:OD X c E b ob)(hm:behindInMarks op b=false):TD X c E (.Compare a [op] [b] pos) (asB (o2 f oa ob)):=
 ⟨PT.imp (zJs ho ha.h hb.h hm) fun _ _ _ h=>vKl hp (vJ3 h)⟩
noncomputable def bAnd(s t:ST):ST:=fun env=>(s env).bind fun r=>cond r.1 (t r.2) (.ok (false,r.2))
noncomputable def bOr(s t:ST):ST:=fun env=>(s env).bind fun r=>cond r.1 (.ok (true,r.2)) (t r.2)
noncomputable def bNot(s:ST):ST:=fun env=>(s env).bind fun r=>.ok (!r.1,r.2)
theorem td_w(h:WD X c E e sa):TD X c E e sa:=⟨PW.pt h.h⟩
theorem qZe(h:TD X c E a sa):WD X c E (.BoolOp .And [a] pos) sa:=⟨zJp h.h⟩
theorem qJ5(h:TD X c E a sa):WD X c E (.BoolOp .Or [a] pos) sa:=⟨zYj h.h⟩
theorem vWh{K:aQ}{s:ST}{Q:Bool->Hp->Prop}(st:Step env σ H B W env' σ' H' W')(cf:Cf K c env' σ' H' B W')(h:(s env').wp (fun r=>∀H2 W2,Step env σ H B W r.2 σ' H2 W2->Cf K c r.2 σ' H2 B W2->Q r.1 H2) (erP K c E H B W)):tT K c E s σ' H' Q:=
 ⟨env',B,W',cf,wp_mono (fun r q H2 W2 st2 cf2=>q H2 W2 (st.trans st2) cf2) (fun C fs he=>he.back st) h⟩
theorem qVn(ha:TD X c E a sa)(hb:WD X c E (.BoolOp .And (b::rest) pos) sb):WD X c E (.BoolOp .And (a::b::rest) pos) (bAnd sa sb):=by
 refine⟨PW.imp (zYk ha.h hb.h) fun σ H Q=>?_⟩;rintro⟨env,B,W,cf,w⟩;refine⟨env,B,W,cf,wp_mono (fun r1 h1 H1 W1 st1 cf1=>?_) (fun _ _ he=>he) (qY.mp w)⟩;obtain⟨k,e1⟩:=r1;cases k with
 |false=>exact h1 H1 W1 st1 cf1
 |true=>exact vWh st1 cf1 h1
theorem qKc(ha:TD X c E a sa)(hb:WD X c E (.BoolOp .Or (b::rest) pos) sb):WD X c E (.BoolOp .Or (a::b::rest) pos) (bOr sa sb):=by
 refine⟨PW.imp (jQw ha.h hb.h) fun σ H Q=>?_⟩;rintro⟨env,B,W,cf,w⟩;refine⟨env,B,W,cf,wp_mono (fun r1 h1 H1 W1 st1 cf1=>?_) (fun _ _ he=>he) (qY.mp w)⟩;obtain⟨k,e1⟩:=r1;cases k with
 |true=>exact h1 H1 W1 st1 cf1
 |false=>exact vWh st1 cf1 h1
theorem qXu(ha:TD X c E a sa):TD X c E (.UnaryOp .Not a pos) (bNot sa):=by
 refine⟨PT.imp (zYn ha.h) fun σ H Q=>?_⟩;rintro⟨env,B,W,cf,w⟩;exact⟨env,B,W,cf,wp_mono (fun r1 h1=>h1) (fun _ _ he=>he) (qY.mp w)⟩
end
section
variable{X:Cx}{c:Nat->aZ}{E:XK}{e a b d:Expr}{rest:List Expr}{pos:Pos}{sa sb:ST}{oa ob oc:Oe}{o:Oe}
noncomputable def oAnd(s t:Oe):Oe:=.v fun env=>(asB s env).bind fun r=>cond r.1 (oV t r.2) (.ok (.bl false,r.2))
noncomputable def oNot(s:Oe):Oe:=.v fun env=>(asB s env).bind fun r=>.ok (.bl (!r.1),r.2)
theorem zZ7{K:aQ}{s:SV}(st:Step env σ H B W env' σ H' W')(cf:Cf K c env' σ H' B W')(h:(s env').wp (fun r=>∀u H2 W2,GotD K c env σ H B W r.2 H2 W2 r.1 u->Q u H2) (erP K c E H B W)):tV K c E s σ H' Q:=
 ⟨env',B,W',cf,wp_mono (fun r q u H2 W2 g=>q u H2 W2 ⟨st.trans g.st,g.cf,g.at_⟩) (fun C fs he=>he.back st) h⟩
theorem zQi{op}(h:OD X c E a o):OD X c E (.BoolOp op [a] pos) o:=⟨zY3 h.h⟩
theorem zQj(ha:OD X c E a oa)(hb:OD X c E (.BoolOp .And (b::rest) pos) ob):OD X c E (.BoolOp .And (a::b::rest) pos) (oAnd oa ob):=by
 refine⟨PE.imp (zY8 ha.h hb.h) fun σ H Q=>?_⟩;rintro⟨env,B,W,cf,w⟩;refine vJ3 (Q:=fun k H1=>if k=true then tO X.K c E ob σ H1 Q else Q (.bl false) H1) ⟨env,B,W,cf,wp_mono (fun r1 h1 H1 W1 st1 cf1=>?_) (fun _ _ he=>he) (qY.mp w)⟩;obtain⟨k,e1⟩:=r1;cases k with
 |false=>exact h1 _ H1 W1 ⟨st1,cf1,.bl false⟩
 |true=>exact vK4 (zZ7 st1 cf1 h1)
theorem zKk(ha:OD X c E a oa):OD X c E (.UnaryOp .Not a pos) (oNot oa):=by
 refine⟨PE.imp (zY4 ha.h) fun σ H Q=>?_⟩;rintro⟨env,B,W,cf,w⟩;exact vJ3 (Q:=fun k H1=>Q (.bl (!k)) H1) ⟨env,B,W,cf,wp_mono (fun r1 h1 H1 W1 st1 cf1=>h1 _ H1 W1 ⟨st1,cf1,.bl _⟩) (fun _ _ he=>he) (qY.mp w)⟩
theorem Got.back{K:aQ}{env2:Ev}{H2:Hp}{W2:Fp}{o:O}{u:V}(st:Step env σ H B W env' σ H' W')(g:Got K c env' σ H' B W' env2 H2 W2 Z o u):Got K c env σ H B W env2 H2 W2 Z o u:=⟨st.trans g.st,g.cf,g.at_⟩
end
noncomputable def fidx(f:Str):List Str->Option Nat
 |[]=>none
 |g::r=>if f=g then some 0 else(fidx f r).map (· + 1)
theorem qQ1{f:Str}:∀{fs:List Str} {vs:List V} {j:Nat} {v:V},fidx f fs=some j->vs[j]?=some v->(fs.zip vs).lookup f=some v
 |[],vs,j,v,h,e=>by cases h
 |g::r,[],j,v,h,e=>by simp at e
 | g::r,w::vs,j,v,h,e=>by
   rw[bS];simp only[fidx]at h;by_cases q:f=g
   ·rw [if_pos q] at h;cases h;cases e;rw[List.lookup,show(f == g)=true by rw[q];exact beq_self_eq_true _]
   ·rw [if_neg q] at h;obtain⟨i,h1,rfl⟩:=bX.mp h;rw[List.lookup,show(f == g)=false from beq_eq_false_iff_ne.mpr q];exact qQ1 h1 (by simpa using e)
noncomputable def kidx{κ:Type}[DecidableEq κ](k:κ):List κ->Option Nat
 |[]=>none
 |g::r=>if g=k then some 0 else(kidx k r).map (· + 1)
theorem qVs{k:Key}:∀{ks:List Key} {vs:List V},ks.length=vs.length->valV (ks.zip vs) k=(kidx k ks).bind fun j=>vs[j]?
 |[],[],_=>rfl
 | g::r,w::vs,h=>by
   rw[bS];simp only[kidx];by_cases q:g=k
   ·rw[if_pos q,qJs q];rfl
   ·rw [if_neg q,qJt q,qVs (Nat.succ.inj h)];cases kidx k r with
    |none=>rfl
    |some i=>rfl
 |[],_::_,h=>by cases h
 |_::_,[],h=>by cases h
theorem vQq[DecidableEq κ]{k:κ}:∀{ks:List κ} {j:Nat},kidx k ks=some j->j<ks.length/\ks[j]?=some k
 |[],j,h=>by cases h
 | g::r,j,h=>by
   simp only[kidx]at h;by_cases q:g=k
   ·rw[if_pos q]at h;cases h;exact⟨Nat.succ_pos _,by rw[q];rfl⟩
   ·rw [if_neg q] at h;obtain⟨i,h1,rfl⟩:=bX.mp h;obtain⟨h2,h3⟩:=vQq h1;exact⟨Nat.succ_lt_succ h2,by simpa using h3⟩
theorem qKl:∀{π:List Nat} {v u w:V} {j:Nat},walk H v π=some u->walk H u [j]=some w->walk H v (π ++ [j])=some w
 | [],v,u,w,j,h,k=>by
   have:v=u:=by cases v <;> simpa[walk] using h
   rw[this];exact k
 | i::π,v,u,w,j,h,k=>by
   cases v with
   | ref p=>
     rw[List.cons_append];simp only[walk]at h⊢;cases e:H p with
     |none=>rw[e]at h;cases h
     | some o=>
       rw[e]at h;dsimp only at h⊢;cases e2:(kids o)[i]? with
       |none=>rw[e2]at h;cases h
       | some v=>
         rw[e2]at h;exact qKl h k
   |_=>cases h
theorem vZ9{u w:V}(h:vZ H σ i π=some u)(k:walk H u [j]=some w):vZ H σ i (π ++ [j])=some w:=by
 unfold vZ at h⊢;cases e:σ[i]? with
 |none=>rw[e]at h;cases h
 | some x=>
   rw[e]at h;cases x with
   |none=>cases h
   |some v=>exact qKl h k
theorem zQn{K:aQ}{F:Hp}{k:Kd}{os:List O}{o:O}{p:aZ}(w:vZ H σ i π=some (.ref p))(b:OwAt c H p k vs)(r:OsAt K c F H os vs Z)(e:os[j]?=some o):
  ∃v,vs[j]?=some v/\HnAt K c F σ H v (hnO o i (π ++ [j])):=by
 obtain⟨v,Z1,R,h1,h2,h3,h4⟩:=r.focus e;obtain⟨ho,k1,k2⟩:=b.kids;refine⟨v,h1,zQq h2 (vZ9 w ?_)⟩;rw[qZj k1 (by rw[k2];exact h1)];simp[walk]
noncomputable def fldD(cs:List Nat)(f:Str):D->Option D
 |.nd (.obj C fs) ds=>cond (cs.contains C) ((fidx f fs).bind fun j=>ds[j]?) none
 |_=>none
noncomputable def zX3(env:Ev)(cs:List Nat)(f:Str):Hn->Option Hn
 |.d x=>(fldD cs f x).map .d
 | .p i π=>match getE env i π with
   |some (.ow (.obj C fs) os)=>cond (cs.contains C) ((fidx f fs).bind fun j=>(os[j]?).bind fun o=>some (hnO o i (π ++ [j]))) none
   |_=>none
noncomputable def oFld(cs:List Nat)(f:Str):Oe->Oe
 |.p s=>.p fun env=>(s env).bind (zX3 env cs f)
 |.v s=>.v fun env=>(s env).bind fun r=>(opt (fldD cs f r.1)).bind fun x=>.ok (x,r.2)
noncomputable def xQ(K:aQ)(c:Nat->aZ)(cs:List Nat)(f:Str):Prop:=∀C∈cs,Cls K (c C)/\xZ K (c C) f
theorem zZ{b:Bool}{x:Option α}{y:α}(h:cond b x none=some y):b=true/\x=some y:=by
 cases b with
 |true=>exact⟨rfl,h⟩
 |false=>cases h
theorem qXi{cs:List Nat}(h:cs.contains C=true):C∈cs:=List.contains_iff_mem.mp h
section
variable{X:Cx}{K:aQ}{c:Nat->aZ}{E:XK}{e a b:Expr}{pos:Pos}{o oa ob:Oe}{f:Str}{cs:List Nat}
theorem vXd{F:Hp}{u:V}{x y:D}(ok:xQ K c cs f)(h:DAt K c F u x)(e:fldD cs f x=some y):∃a C dx fs v,u=.ref a/\F a=some (.ins C dx fs)/\Cls K C/\xZ K C f/\fs.lookup f=some v/\DAt K c F v y:=by
 unfold fldD at e;split at e
 ·rename_i C fs ds;obtain⟨q1,q2⟩:=zZ e;obtain⟨j,e1,e2⟩:=bnd q2;obtain⟨p,vs,rfl,⟨h1,dx,h2⟩,h3⟩:=h.un;obtain⟨v,g1,g2⟩:=h3.get e2;obtain⟨k1,k2⟩:=ok C (qXi q1);exact⟨p,_,dx,_,v,rfl,h2,k1,k2,qQ1 e1 g1,g2⟩
 ·cases e
theorem zY(ok:xQ X.K c cs f)(h:OD X c E e o)(hb:attributeBase e f X.env (eval e X.env)=eval e X.env:=by rfl):OD X c E (.Attribute e f pos) (oFld cs f o):=by
 refine⟨PE.imp (zY6 h.h hb) fun σ H Q q=>?_⟩;cases o with
 | p s=>
   obtain⟨env,B,W,h1,cf,e0,q⟩:=q;obtain⟨h0,e1,e2⟩:=bnd e0;refine⟨env,B,W,h0,cf,e1,fun u hu=>?_⟩;cases h0 with
   | d x=>
     obtain⟨y,e3,rfl⟩:=bX.mp e2;obtain⟨a,C,dx,fs,v,rfl,r1,r2,r3,r4,r5⟩:=vXd ok hu e3;exact⟨a,C,dx,fs,v,rfl,qT _ _ r1,r2,r3,r4,q v r5⟩
   | p i π=>
     have hu' :vZ H σ i π=some u:=hu;simp only[zX3]at e2;cases e3:getE env i π with
     |none=>rw[e3]at e2;cases e2
     | some o1=>
       rw[e3]at e2;cases o1 with
       |fz d=>cases e2
       | ow k os=>
         cases k with
         | obj C fs=>
           obtain⟨q1,q2⟩:=zZ e2;obtain⟨j,e4,e5⟩:=bnd q2;obtain⟨o2,e6,e7⟩:=bnd e5;cases e7;obtain⟨v1,Z1,R,w1,w2,w3,w4⟩:=cf.place e3;rw[hu']at w1;cases w1;rw[OAt.ow]at w2;obtain⟨p,vs,Z',rfl,b,cc,d⟩:=w2;obtain⟨v,g1,g2⟩:=zQn hu' b cc e6;obtain⟨b1,dx,b2⟩:=b;obtain⟨k1,k2⟩:=ok C (qXi q1);exact⟨p,_,dx,_,v,rfl,b2,k1,k2,qQ1 e4 g1,q v g2⟩
         |_=>cases e2
 | v s=>
   obtain⟨env,B,W,cf,w⟩:=q;refine⟨env,B,W,cf,wp_mono (fun r w1 u H1 W1 g=>?_) (fun _ _ he=>he) (qY.mp w)⟩;obtain⟨y,e3,w2⟩:=qU w1;obtain⟨a,C,dx,fs,v,rfl,r1,r2,r3,r4,r5⟩:=vXd ok g.at_ e3;exact⟨a,C,dx,fs,v,rfl,qT _ _ r1,r2,r3,r4,w2 v H1 W1 ⟨g.st,g.cf,r5⟩⟩
end
noncomputable def qVl:D->Option Key
 |.int i=>some (.inl i)
 |.str x=>some (.inr x)
 |_=>none
theorem qJv{K:aQ}{F:Hp}{u:V}{x:D}{k:Key}(h:DAt K c F u x)(e:qVl x=some k):u=kV k:=by
 cases h <;> cases e <;> rfl
noncomputable def xT:D->Option Int
 |.int i=>some i
 |_=>none
theorem zE{K:aQ}{F:Hp}{u:V}{x:D}{i:Int}(h:DAt K c F u x)(e:xT x=some i):u=.int i:=by
 cases h <;> cases e <;> rfl
noncomputable def vKm:D->Option Str
 |.str i=>some i
 |_=>none
theorem qX3{K:aQ}{F:Hp}{u:V}{x:D}{i:Str}(h:DAt K c F u x)(e:vKm x=some i):u=.str i:=by
 cases h <;> cases e <;> rfl
noncomputable def idxK(n:Nat)(y:D):Kd->Option Nat
 |.lst =>(xT y).bind fun i=>ixN n i
 |.tup =>(xT y).bind fun i=>ixN n i
 |.dct ks=>(qVl y).bind fun k=>kidx k ks
 |_=>none
noncomputable def ixD(x y:D):Option D:=match x with
 |.nd k ds=>(idxK ds.length y k).bind fun j=>ds[j]?
 |.str z=>(xT y).bind fun i=>(atI z.cps.toList i).bind fun ch=>cond (decide (z.length<=aA)) (some (.str ⟨#[ch]⟩)) none
 |_=>none
noncomputable def hnIx(env:Ev)(y:D):Hn->Option Hn
 |.d x=>(ixD x y).map .d
 | .p i π=>match getE env i π with
   |some (.ow k os)=>(idxK os.length y k).bind fun j=>(os[j]?).bind fun o=>some (hnO o i (π ++ [j]))
   |_=>none
noncomputable def oIx(a b:Oe):Oe:=match a,b with
 |.p s,.p t=>.p fun env=>(s env).bind fun h=>(t env).bind fun h' =>(rsv env h').bind fun y=>hnIx env y h
 |a,b=>.v fun env=>(evO a env).bind fun r=>(evO b r.2).bind fun r' =>cond r.1.st ((opt (rsv r'.2 r'.1)).bind fun y=>(opt (hnIx r'.2 y r.1)).bind fun h=>hnV r'.2 h) .no
noncomputable def rDGet:R2:=fun x y H Q=>∃a v,x=.ref a/\DGet H a y (some v)/\Q v H
theorem zWs(hu:X.A.units+1<cG):IxR X rDGet:=by
 intro value slice pins s σ H x y v u Q I rx ry h hs;obtain⟨a,z,rfl,g,q⟩:=h;cases rx;exact tail_any (vZu I g) PySem.F.slot_dict_getitem.lookup (vY3 hu I g ry fun w' s3 I3 rw' =>⟨z,H,I3,rw',q⟩) hs
noncomputable def rIxA(K:aQ):R2:=fun x y H Q=>rIx K x y H Q\/rDGet x y H Q
theorem zKx(hu:X.A.units+1<cG):IxR X (rIxA X.K):=zKv.or (zWs hu)
section
variable{X:Cx}{K:aQ}{c:Nat->aZ}{E:XK}{e a b:Expr}{pos:Pos}{o oa ob:Oe}
theorem zQy{xs:List α}{i:Int}{v:α}(h:ixN xs.length i=some j)(e:xs[j]?=some v):atI xs i=some v:=by
 unfold atI;rw[h];exact e
theorem vZ4{a:aZ}{kvs:List (Key×V)}{k:Key}(e:Rd H a (.dK kvs)):DGet H a (kV k) (valV kvs k):=.inl ⟨kvs,k,e,rfl,rfl⟩
theorem zXw{p:aZ}{w:V}{k:Kd}{y:D}(h:NdAt K c H p k vs)(hn:vs.length=n)(hy:DAt K c H w y)(e:idxK n y k=some j)(ev:vs[j]?=some v)(q:Q v H):rIxA K (.ref p) w H Q:=by
 subst hn;cases k with
 | lst=>
   obtain⟨i,e1,e2⟩:=bnd e;exact .inl (.inl ⟨p,vs,i,v,rfl,zE hy e1,h,zQy e2 ev,q⟩)
 | tup=>
   obtain⟨i,e1,e2⟩:=bnd e;exact .inl (.inr (.inl ⟨p,vs,i,v,rfl,zE hy e1,h,zQy e2 ev,q⟩))
 | dct ks=>
   obtain⟨k,e1,e2⟩:=bnd e;refine .inr ⟨p,v,rfl,?_,q⟩;rw[qJv hy e1];have:=vZ4 (k:=k) h.2.2;rw[qVs h.1,e2]at this;rw[←ev];exact this
 |_=>cases e
theorem zKz{F:Hp}{u w:V}{x y z:D}(s:Same F H)(h:DAt K c F u x)(hy:DAt K c H w y)(e:ixD x y=some z)(q:∀v,DAt K c F v z->Q v H):rIxA K u w H Q:=by
 unfold ixD at e;split at e
 ·obtain⟨j,e1,e2⟩:=bnd e;obtain⟨p,vs,rfl,h1,h2⟩:=h.un;obtain⟨v,g1,g2⟩:=h2.get e2;exact zXw (h1.same s) h2.len hy e1 g1 (q v g2)
 ·rename_i z';obtain⟨i,e1,e2⟩:=bnd e;obtain⟨ch,e3,e4⟩:=bnd e2;obtain⟨q1,q2⟩:=zZ e4;cases q2;exact .inl (.inr (.inr ⟨z',i,ch,qX3 h rfl,zE hy e1,of_decide_eq_true q1,e3,q _ (.str _)⟩))
 ·cases e
theorem vW7{h h' :Hn}{u w:V}{y:D}(cf:Cf K c env σ H B W)(hu:HnAt K c (hide (hd2 B W) H) σ H u h)(hy:DAt K c H w y)(e:hnIx env y h=some h')(q:∀v,HnAt K c (hide (hd2 B W) H) σ H v h' ->Q v H):rIxA K u w H Q:=by
 cases h with
 | d x=>
   obtain⟨z,e1,rfl⟩:=bX.mp e;exact zKz qT hu hy e1 q
 | p i π=>
   have hu' :vZ H σ i π=some u:=hu;simp only[hnIx]at e;cases e3:getE env i π with
   |none=>rw[e3]at e;cases e
   | some o1=>
     rw[e3]at e;cases o1 with
     |fz d=>cases e
     | ow k os=>
       obtain⟨j,e4,e5⟩:=bnd e;obtain⟨o2,e6,e7⟩:=bnd e5;cases e7;obtain⟨v1,Z1,R,w1,w2,w3,w4⟩:=cf.place e3;rw[hu']at w1;cases w1;rw[OAt.ow]at w2;obtain⟨p,vs,Z',rfl,b,cc,d⟩:=w2;obtain⟨v,g1,g2⟩:=zQn hu' b cc e6;exact zXw (b.nd rfl) cc.length hy e4 g1 (q v g2)
theorem vWj(h:tV K c E (fun env=>(evO oa env).bind fun r=>(evO ob r.2).bind fun r' =>cond r.1.st ((opt (rsv r'.2 r'.1)).bind fun y=>(opt (hnIx r'.2 y r.1)).bind fun h=>hnV r'.2 h) .no) σ H Q):tOp (rIxA K) (tO K c E oa) (tO K c E ob) σ H Q:=by
 obtain⟨env,B,W,cf,w⟩:=h;refine qVg cf (qY.mp w) fun r1 w1 u H1 W1 g1=>?_
 refine qVg g1.cf (wp_mono (fun _ q=>q) (fun C fs he=>he.back g1.st) (qY.mp w1)) fun r2 w2 v H2 W2 g2=>?_
 obtain⟨hs,w3⟩:=vL w2;obtain⟨y,e3,w4⟩:=qU w3;obtain⟨h',e4,w5⟩:=qU w4;refine vW7 g2.cf (g1.next g2 (by rw[hs];rfl)) (j6 g2.cf g2.at_ e3) e4 fun z hz=>?_
 obtain⟨x,env',W',g,q⟩:=vZ3 g2.cf hz w5;exact q z H2 W' ⟨(g1.st.trans g2.st).trans g.st,g.cf,g.at_⟩
theorem jQ6(hu:X.A.units+1<cG)(ha:OD X c E a oa)(hb:OD X c E b ob)(hs:qXm b:=by exact fun _ _=>rfl):OD X c E (.Subscript a b pos) (oIx oa ob):=by
 refine⟨PE.imp (jQ0 (zKx hu) ha.h hb.h hs) fun σ H Q h=>?_⟩;cases oa with
 |v s=>exact vWj h
 | p s=>
   cases ob with
   |v t=>exact vWj h
   | p t=>
     obtain⟨env,B,W,h1,cf,e0,q⟩:=h;obtain⟨h0,e1,e2⟩:=bnd e0;obtain⟨h2,e3,e4⟩:=bnd e2;obtain⟨y,e5,e6⟩:=bnd e4;exact⟨env,B,W,h0,cf,e1,fun u hu=>⟨env,B,W,h2,cf,e3,fun w hw=>vW7 cf hu (j6 cf hw e5) e6 q⟩⟩
end
noncomputable def evOs:List Oe->Ev->Res (List Hn×Ev)
 |[],env=>.ok ([],env)
 |o::os,env=>(evO o env).bind fun r=>cond (r.1.st || os.all Oe.isP) ((evOs os r.2).bind fun r' =>.ok (r.1::r'.1,r'.2)) .no
noncomputable def tOs(K:aQ)(c:Nat->aZ)(E:XK):List Oe->TA
 |[]=>tNil
 |o::os=>qKe (tO K c E o) (tOs K c E os)
structure OsD(X:Cx)(c:Nat->aZ)(E:XK)(es:List Expr)(os:List Oe):Prop where
 h:PA X es (tOs X.K c E os)
theorem qL:OsD X c E [] []:=⟨qZ7⟩
theorem vM{es:List Expr}{o:Oe}{os:List Oe}(ha:OD X c E e o)(hr:OsD X c E es os)(hs:aY (e::es) X.env=(false,eval e X.env)::aY es X.env:=by rfl):OsD X c E (e::es) (o::os):=⟨yH ha.h hr.h hs⟩
structure GotHs(K:aQ)(c:Nat->aZ)(env:Ev)(σ:L2.St)(H:Hp)(B W:Fp)(os:List Oe)(env' :Ev)(H' :Hp)(W' :Fp)(hs:List Hn)(us:List V):Prop where
 st:Step env σ H B W env' σ H' W'
 cf:Cf K c env' σ H' B W'
 at_:zF K c (hide (hd2 B W') H') σ H' us hs
 pu:os.all Oe.isP=true->H' =H/\W' =W/\env' =env
section
variable{K:aQ}{c:Nat->aZ}{E:XK}
theorem qVo:∀{os:List Oe} {env:Ev} {σ:L2.St} {H:Hp} {B W:Fp} {Q:List V->Hp->Prop} {w:List Hn×Ev->Prop},Cf K c env σ H B W->(evOs os env).wp w (erP K c E H B W)->(∀r,w r->∀us H' W',GotHs K c env σ H B W os r.2 H' W' r.1 us->Q us H')->tOs K c E os σ H Q
 |[],env,σ,H,B,W,Q,w,cf,hw,k=>k _ hw [] H W ⟨.refl,cf,trivial,fun _=>⟨rfl,rfl,rfl⟩⟩
 | o::os,env,σ,H,B,W,Q,w,cf,hw,k=>by
   refine qVg cf (qY.mp hw) fun r w1 u H1 W1 g1=>?_
   obtain⟨hs,w2⟩:=vL w1;refine qVo g1.cf (wp_mono (fun _ q=>q) (fun C fs he=>he.back g1.st) (qY.mp w2)) fun r' w3 us H2 W2 g2=>?_
   refine k _ w3 (u::us) H2 W2 ⟨g1.st.trans g2.st,g2.cf,⟨?_,g2.at_⟩,fun z=>?_⟩
   ·cases e:r.1.st with
    |true=>exact g1.at_.step g2.st.same e
    | false=>
      rw[e]at hs;obtain⟨e1,e2,_⟩:=g2.pu (by simpa using hs);rw[e1,e2];exact g1.at_
   ·rw [dR,aD] at z;obtain⟨a1,a2,a3⟩:=g1.pu z.1;obtain⟨b1,b2,b3⟩:=g2.pu z.2;grind
noncomputable def rsvs(env:Ev):List Hn->Option (List D)
 |[]=>some []
 |h::hs=>(rsv env h).bind fun x=>(rsvs env hs).bind fun xs=>some (x::xs)
theorem vWq(cf:Cf K c env σ H B W):∀{hs:List Hn} {us:List V} {xs:List D},zF K c (hide (hd2 B W) H) σ H us hs->rsvs env hs=some xs->DsAt K c H us xs
 |[],[],xs,_,e=>by cases e;exact .nil
 | h::hs,u::us,xs,a,e=>by
   obtain⟨x,e1,e2⟩:=bnd e;obtain⟨ys,e3,e4⟩:=bnd e2;cases e4;exact .cons (j6 cf a.1 e1) (vWq cf a.2 e3)
 |[],_::_,_,a,_=>a.elim
 |_::_,[],_,a,_=>a.elim
noncomputable def qQg:List Hn->Ev->Res (List D×Ev)
 |[],env=>.ok ([],env)
 |h::hs,env=>(rsvB env h).bind fun r=>(qQg hs r.2).bind fun r' =>.ok (r.1::r'.1,r'.2)
noncomputable def Vws(K:aQ)(c:Nat->aZ)(F H:Hp):List V->List D->Prop
 |[],[]=>True
 |u::us,x::xs=>Vw K c F H u x/\Vws K c F H us xs
 |_,_=>False
theorem HnAt.mono{F:Hp}{u:V}{h:Hn}(a:HnAt K c F σ H u h)(s:Same F F'):HnAt K c F' σ H u h:=by
 cases h with
 |d x=>exact DAt.same s a
 |p i π=>exact a
theorem zF.mono{F:Hp}(s:Same F F'):∀{us:List V} {hs:List Hn},zF K c F σ H us hs->zF K c F' σ H us hs
 |[],[],_=>trivial
 |u::us,h::hs,a=>⟨a.1.mono s,zF.mono s a.2⟩
 |[],_::_,a=>a.elim
 |_::_,[],a=>a.elim
theorem rsvBs_wp{EE:Nat->List (Str×D)->Prop}:∀{hs:List Hn} {us:List V} {env:Ev} {σ:L2.St} {H:Hp} {B W:Fp} {Q:List D×Ev->Prop},Cf K c env σ H B W->zF K c (hide (hd2 B W) H) σ H us hs->(qQg hs env).wp Q EE->
  ∃xs env' W',Step env σ H B W env' σ H W' /\Cf K c env' σ H B W' /\Vws K c (hide (hd2 B W') H) H us xs/\Q (xs,env')
 |[],[],env,σ,H,B,W,Q,cf,_,w=>⟨[],env,W,.refl,cf,trivial,w⟩
 | h::hs,u::us,env,σ,H,B,W,Q,cf,a,w=>by
   obtain⟨x,env1,W1,st1,cf1,v1,w1⟩:=vWr cf a.1 (qY.mp w);obtain⟨xs,env2,W2,st2,cf2,v2,w2⟩:=rsvBs_wp cf1 (zF.mono st1.same a.2) (qY.mp w1);exact⟨x::xs,env2,W2,st1.trans st2,cf2,⟨v1.same st2.same,v2⟩,w2⟩
 |[],_::_,_,_,_,_,_,_,_,a,_=>a.elim
 |_::_,[],_,_,_,_,_,_,_,a,_=>a.elim
end
noncomputable def PrSN(K:aQ)(c:Nat->aZ)(r:List V->Hp->VK->Prop)(f:List D->Option D):Prop:=∀(us:List V) (H:Hp) (xs:List D) (z:D) (Q:VK),DsAt K c H us xs->f xs=some z->(∀v,(∀F,DAt K c F v z)->Q v H)->r us H Q
noncomputable def svN(f:List D->Option D)(os:List Oe):SV:=fun env=>(evOs os env).bind fun r=>(opt (rsvs r.2 r.1)).bind fun xs=>(opt (f xs)).bind fun z=>.ok (z,r.2)
noncomputable def oL(f:List D->Option D)(os:List Oe):Oe:=match os with
 |[.p s]=>.p fun env=>(s env).bind fun h=>(rsv env h).bind fun x=>(f [x]).bind fun z=>some (.d z)
 |os=>.v (svN f os)
section
variable{X:Cx}{K:aQ}{c:Nat->aZ}{E:XK}{e:Expr}{es:List Expr}{pos p:Pos}{x:Str}{id T:String}{r:List V->Hp->VK->Prop}{os:List Oe}
theorem zYa{f:List D->Option D}(hp:PrSN K c r f)(h:tV K c E (svN f os) σ H Q):tCB r (tOs K c E os) σ H Q:=by
 obtain⟨env,B,W,cf,w⟩:=h;refine qVo cf (qY.mp w) fun r1 w1 us H1 W1 g=>?_
 obtain⟨xs,e1,w2⟩:=qU w1;obtain⟨z,e2,w3⟩:=qU w2;exact hp us H1 xs z Q (vWq g.cf g.at_ e1) e2 fun v hv=>w3 v H1 W1 ⟨g.st,g.cf,hv _⟩
theorem zXi{f:List D->Option D}(hp:PrSN K c r f)(h:tO K c E (oL f os) σ H Q):tCB r (tOs K c E os) σ H Q:=by
 unfold oL at h;split at h
 ·obtain⟨env,B,W,h1,cf,e0,q⟩:=h;obtain⟨h0,e1,e2⟩:=bnd e0;obtain⟨x,e3,e4⟩:=bnd e2;obtain⟨z,e5,e6⟩:=bnd e4;cases e6;exact⟨env,B,W,h0,cf,e1,fun u hu=>hp [u] H [x] z Q (.cons (j6 cf hu e3) .nil) e5 fun v hv=>q v (hv _)⟩
 ·exact zYa hp h
theorem vV8{f:List D->Option D}(hc:zL X (.builtin id) r)(hp:PrSN X.K c r f)(hg:Gl X x)(hm:X.mg x=none)(hv:cC x=some (.builtin id))(ha:OsD X c E (e::es) os)(hn:x≠"__name__":=by decide)(hdb:(x == ("__debug__":Str))=false:=by decide)(he:aY (e::es) X.env=(false,eval e X.env)::aY es X.env:=by rfl)(hpl:(cV pos (aY es X.env)).any (·.1)=false:=by rfl):OD X c E (.Call (.Name x p) (e::es) [] pos) (oL f os):=
 ⟨PE.imp (qX9 hc hg hm hv ha.h hn hdb he hpl) fun _ _ _ h=>zXi hp h⟩
theorem vYj{f:List D->Option D}(hc:zL X (.type T) r)(hp:PrSN X.K c r f)(hg:Gl X x)(hm:X.mg x=none)(hv:cC x=some (.type T))(ha:OsD X c E (e::es) os)(hn:x≠"__name__":=by decide)(hdb:(x == ("__debug__":Str))=false:=by decide)(he:aY (e::es) X.env=(false,eval e X.env)::aY es X.env:=by rfl)(hpl:(cV pos (aY es X.env)).any (·.1)=false:=by rfl):OD X c E (.Call (.Name x p) (e::es) [] pos) (oL f os):=
 ⟨PE.imp (qZl hc hg hm hv ha.h hn hdb he hpl) fun _ _ _ h=>zXi hp h⟩
end
section
variable{K:aQ}{c:Nat->aZ}{E:XK}{env env' :Ev}{σ:L2.St}{H H' :Hp}{B W W' :Fp}{p:aZ}{o:O}{k:Kd}
theorem Got.lay(cf:Cf K c env σ H B W)(hn:H p=none)(sm:Same H H'){ds:List D}(ha:OwAt c H' p k vs)(hd:DsAt K c (hide (hd2 (hd2 B W) (one p)) H') vs ds):Got K c env σ H B W env H' W (one p) (.ow k (ds.map .fz)) (.ref p):=by
 obtain⟨z1,z2⟩:=cf.fresh hn;have st:∀a,B a+W a≠0->H' a=H a:=fun a z=>by obtain⟨o,q,_⟩:=cf.hbs z;rw[q,sm a o q]
 have np:∀a o,H a=some o->a≠p:=fun a o q z=>by rw[z,hn]at q;cases q
 have s1:Same (hide (hd2 B W) H) (hide (hd2 (hd2 B (one p)) W) H'):=zV fun a o z q=>⟨by have:=xV (np a o q);dsimp only[hd2]at *;omega,sm a o q⟩
 have s2:hide (hd2 B (hd2 W (one p))) H' =hide (hd2 (hd2 B (one p)) W) H' :=zJ fun a=>by dsimp only[hd2];omega
 have s3:hide (hd2 (hd2 B W) (one p)) H' =hide (hd2 (hd2 B (one p)) W) H' :=zJ fun a=>by dsimp only[hd2];omega
 refine⟨⟨by rw[s2];exact s1,fun a z=>st a (by omega),fun a z=>?_,fun a z=>?_,fun a z1 _=>.of (st a (by omega)),fun _ o h=>⟨⟨o,h⟩,rfl⟩,rfl⟩,⟨cf.at_.keep s1 fun a z=>st a (by omega),fun a=>?_,fun a z=>?_⟩,OAt.ow.mpr ⟨p,vs,fun _=>0,rfl,ha,OsAt.fzs.mpr ⟨by rw[←s3];exact hd,fun _=>rfl⟩,fun _=>rfl⟩⟩
 ·by_cases q:a=p
  ·exact .inr (by rw[q];exact hn)
  ·exact .inl (by have:=xV q;dsimp only[hd2]at z;omega)
 ·cases q:H a with
  |none=>rfl
  |some o=>rw[sm a o q]at z;cases z
 ·have:=cf.nd a;by_cases q:a=p
  ·subst q;rw[show hd2 B (one a) a=B a+one a a from rfl,jR];omega
  ·rw[show hd2 B (one p) a=B a+one p a from rfl,xV q];omega
 ·by_cases q:a=p
  ·subst q;exact ha.hb
  ·rw [show hd2 B (one p) a=B a + one p a from rfl,xV q] at z;obtain⟨o,h1,h2⟩:=cf.hb a (by omega);exact⟨o,sm a o h1,h2⟩
theorem qYd(cf:Cf K c env σ H B W)(hn:H p=none)(sm:Same H H'):Same (hide (hd2 B W) H) (hide (hd2 (hd2 B W) (one p)) H'):=zV fun a o z q=>⟨by
 have np:a≠p:=fun z=>by rw[z,hn]at q;cases q
 have:=xV np;dsimp only[hd2]at *;omega,sm a o q⟩
end
noncomputable def PrF(K:aQ)(c:Nat->aZ)(r:List V->Hp->VK->Prop)(f:List D->Option (List D)):Prop:=∀(us:List V) (H:Hp) (T:Fp) (xs ds:List D) (Q:VK),(∀a,T a≠0->∃o,H a=some o/\Hb o)->Vws K c (hide T H) H us xs->f xs=some ds->
 (∀p ws H',H p=none->Same H H' ->H' p=some (.lst ws)->DsAt K c (hide (hd2 T (one p)) H') ws ds->Q (.ref p) H')->r us H Q
noncomputable def PrA(K:aQ)(c:Nat->aZ)(r:List V->Hp->VK->Prop)(f:List D->Option D):Prop:=∀(us:List V) (H:Hp) (T:Fp) (xs:List D) (z:D) (Q:VK),(∀a,T a≠0->∃o,H a=some o/\Hb o)->Vws K c (hide T H) H us xs->f xs=some z->
 (∀v H',Same H H' ->DAt K c (hide T H') v z->Q v H')->r us H Q
noncomputable def eF(f:List D->Option (List D))(os:List Oe):SE:=fun env=>(evOs os env).bind fun r=>(qQg r.1 r.2).bind fun q=>(opt (f q.1)).bind fun ds=>.ok (.ow .lst (ds.map .fz),q.2)
noncomputable def svA(f:List D->Option D)(os:List Oe):SV:=fun env=>(evOs os env).bind fun r=>(qQg r.1 r.2).bind fun q=>(opt (f q.1)).bind fun z=>.ok (z,q.2)
section
variable{X:Cx}{K:aQ}{c:Nat->aZ}{E:XK}{e:Expr}{es:List Expr}{pos p:Pos}{x:Str}{id T:String}{r:List V->Hp->VK->Prop}{os:List Oe}
theorem zXj{f:List D->Option (List D)}(hp:PrF K c r f)(h:tE K c E (eF f os) σ H Q):tCB r (tOs K c E os) σ H Q:=by
 obtain⟨env,B,W,cf,w⟩:=h;refine qVo cf (qY.mp w) fun r1 w1 us H1 W1 g=>?_
 obtain⟨xs,env2,W2,st2,cf2,v2,w2⟩:=rsvBs_wp g.cf g.at_ (qY.mp w1);obtain⟨ds,e2,w3⟩:=qU w2;refine hp us H1 (hd2 B W2) xs ds Q (fun a z=>cf2.hbs z) v2 e2 fun p ws H' hn sm hq dz=>?_
 exact w3 _ H' W2 _ ((Got.lay cf2 hn sm (k:=.lst) hq dz).back (g.st.trans st2))
theorem jQr{f:List D->Option D}(hp:PrA K c r f)(h:tV K c E (svA f os) σ H Q):tCB r (tOs K c E os) σ H Q:=by
 obtain⟨env,B,W,cf,w⟩:=h;refine qVo cf (qY.mp w) fun r1 w1 us H1 W1 g=>?_
 obtain⟨xs,env2,W2,st2,cf2,v2,w2⟩:=rsvBs_wp g.cf g.at_ (qY.mp w1);obtain⟨z,e2,w3⟩:=qU w2;refine hp us H1 (hd2 B W2) xs z Q (fun a z=>cf2.hbs z) v2 e2 fun v H' sm dz=>?_
 exact w3 v H' W2 ⟨(g.st.trans st2).trans (.grow cf2 sm),cf2.grow sm,dz⟩
theorem vY0{f:List D->Option (List D)}(hc:zL X (.type T) r)(hp:PrF X.K c r f)(hg:Gl X x)(hm:X.mg x=none)(hv:cC x=some (.type T))(ha:OsD X c E (e::es) os)(hn:x≠"__name__":=by decide)(hdb:(x == ("__debug__":Str))=false:=by decide)(he:aY (e::es) X.env=(false,eval e X.env)::aY es X.env:=by rfl)(hpl:(cV pos (aY es X.env)).any (·.1)=false:=by rfl):ED X c E (.Call (.Name x p) (e::es) [] pos) (eF f os):=
 ⟨PE.imp (qZl hc hg hm hv ha.h hn hdb he hpl) fun _ _ _ h=>zXj hp h⟩
theorem vYx{f:List D->Option D}(hc:zL X (.type T) r)(hp:PrA X.K c r f)(hg:Gl X x)(hm:X.mg x=none)(hv:cC x=some (.type T))(ha:OsD X c E (e::es) os)(hn:x≠"__name__":=by decide)(hdb:(x == ("__debug__":Str))=false:=by decide)(he:aY (e::es) X.env=(false,eval e X.env)::aY es X.env:=by rfl)(hpl:(cV pos (aY es X.env)).any (·.1)=false:=by rfl):EV X c E (.Call (.Name x p) (e::es) [] pos) (svA f os):=
 ⟨PE.imp (qZl hc hg hm hv ha.h hn hdb he hpl) fun _ _ _ h=>jQr hp h⟩
end
noncomputable def evVs:List SV->Ev->Res (List D×Ev)
 |[],env=>.ok ([],env)
 |s::ss,env=>(s env).bind fun r=>(evVs ss r.2).bind fun r' =>.ok (r.1::r'.1,r'.2)
noncomputable def tVs(K:aQ)(c:Nat->aZ)(E:XK):List SV->TA
 |[]=>tNil
 |s::ss=>qKe (tV K c E s) (tVs K c E ss)
structure VsD(X:Cx)(c:Nat->aZ)(E:XK)(es:List Expr)(ss:List SV):Prop where
 h:PA X es (tVs X.K c E ss)
theorem qX:VsD X c E [] []:=⟨qZ7⟩
theorem vV{es:List Expr}{s:SV}(ha:EV X c E e s)(hr:VsD X c E es ss)(hs:aY (e::es) X.env=(false,eval e X.env)::aY es X.env:=by rfl):VsD X c E (e::es) (s::ss):=⟨yH ha.h hr.h hs⟩
structure GotDs(K:aQ)(c:Nat->aZ)(env:Ev)(σ:L2.St)(H:Hp)(B W:Fp)(env' :Ev)(H' :Hp)(W' :Fp)(xs:List D)(us:List V):Prop where
 st:Step env σ H B W env' σ H' W'
 cf:Cf K c env' σ H' B W'
 at_:DsAt K c (hide (hd2 B W') H') us xs
theorem qZ3{K:aQ}:∀{ss:List SV} {env:Ev} {σ:L2.St} {H:Hp} {B W:Fp} {Q:List V->Hp->Prop} {w:List D×Ev->Prop},Cf K c env σ H B W->(evVs ss env).wp w (erP K c E H B W)->(∀r,w r->∀us H' W',GotDs K c env σ H B W r.2 H' W' r.1 us->Q us H')->tVs K c E ss σ H Q
 |[],env,σ,H,B,W,Q,w,cf,hw,k=>k _ hw [] H W ⟨.refl,cf,.nil⟩
 | s::ss,env,σ,H,B,W,Q,w,cf,hw,k=>by
   refine⟨env,B,W,cf,wp_mono (fun r w1 u H1 W1 g1=>?_) (fun _ _ he=>he) (qY.mp hw)⟩;refine qZ3 g1.cf (wp_mono (fun _ q=>q) (fun C fs he=>he.back g1.st) (qY.mp w1)) fun r' w3 us H2 W2 g2=>?_
   exact k _ w3 (u::us) H2 W2 ⟨g1.st.trans g2.st,g2.cf,.cons (g1.at_.same g2.st.same) g2.at_⟩
noncomputable def svTup(ss:List SV):SV:=fun env=>(evVs ss env).bind fun r=>cond (decide (r.1.length<=1000)) (.ok (.tup r.1,r.2)) .no
noncomputable def eLst(ss:List SV):SE:=fun env=>(evVs ss env).bind fun r=>cond (decide (r.1.length<=1000)) (.ok (.ow .lst (r.1.map .fz),r.2)) .no
theorem zQm(h:n<=1000):n<=aA:=dB (vX3 h)
section
variable{X:Cx}{c:Nat->aZ}{E:XK}{es:List Expr}{pos:Pos}{ss:List SV}
theorem qG{x1}(h:VsD X c E es ss):EV X c E (.Tuple es x1 pos) (svTup ss):=by
 refine⟨PE.imp (zY1 h.h) fun σ H Q=>?_⟩;rintro⟨env,B,W,cf,w⟩;refine qZ3 cf (qY.mp w) fun r w1 us H1 W1 g=>?_
 obtain⟨hl,w2⟩:=vL w1;refine⟨zQm (by rw[g.at_.len];exact of_decide_eq_true hl),fun p hp=>?_⟩;have sm:Same H1 (upd H1 p (.tup us)):=.upd hp;obtain⟨z1,z2⟩:=g.cf.fresh hp;refine w2 (.ref p) _ W1 ⟨g.st.trans (.grow g.cf sm),g.cf.grow sm,.of (k:=.tup) (SqT.of ?_) (g.at_.same (zV fun a o z q=>⟨z,sm a o q⟩))⟩;rw[vD (by dsimp only[hd2];omega),upd_same]
theorem vN(h:VsD X c E es ss):ED X c E (.List es pos) (eLst ss):=by
 refine⟨PE.imp (zY5 h.h) fun σ H Q=>?_⟩;rintro⟨env,B,W,cf,w⟩;refine qZ3 cf (qY.mp w) fun r w1 us H1 W1 g=>?_
 obtain⟨hl,w2⟩:=vL w1;refine⟨zQm (by rw[g.at_.len];exact of_decide_eq_true hl),fun p hp=>?_⟩;have sm:Same H1 (upd H1 p (.lst us)):=.upd hp;exact w2 (.ref p) _ W1 _ ((Got.lay g.cf hp sm (k:=.lst) upd_same (g.at_.same (qYd g.cf hp sm))).back g.st)
noncomputable def eDct0:SE:=fun env=>.ok (.ow (.dct []) [],env)
theorem qQw:ED X c E (.Dict [] [] pos) eDct0:=by
 refine⟨PE.imp zVq fun σ H Q=>?_⟩;rintro⟨env,B,W,cf,w⟩;intro p hp;have sm:Same H (upd H p (.dK [])):=.upd hp;exact w (.ref p) _ W _ (Got.lay cf hp sm (k:=.dct []) (vs:=[]) (ds:=[]) ⟨rfl,List.nodup_nil,upd_same⟩ .nil)
end
inductive Out where
 |nx (env:Ev)|rt (o:O) (env:Ev)|bk (env:Ev)|ct (env:Ev)
noncomputable abbrev SS:=Ev->Res Out
structure GotR(K:aQ)(c:Nat->aZ)(env:Ev)(σ:L2.St)(H:Hp)(B W:Fp)(env' :Ev)(σ' :L2.St)(H' :Hp)(W' Z:Fp)(o:O)(u:V):Prop where
 st:Step env σ H B W env' σ' H' (hd2 W' Z)
 cf:Cf K c env' σ' H' (hd2 B Z) W'
 at_:OAt K c (hide (hd2 (hd2 B Z) W') H') H' o u Z
noncomputable def OutP(K:aQ)(c:Nat->aZ)(env:Ev)(σ:L2.St)(H:Hp)(B W:Fp)(D:Ends):Out->Prop
 |.nx e=>∀σ' H' W',Step env σ H B W e σ' H' W' ->Cf K c e σ' H' B W' ->D.nx σ' H'
 |.bk e=>∀σ' H' W',Step env σ H B W e σ' H' W' ->Cf K c e σ' H' B W' ->D.bk σ' H'
 |.ct e=>∀σ' H' W',Step env σ H B W e σ' H' W' ->Cf K c e σ' H' B W' ->D.ct σ' H'
 |.rt o e=>∀v σ' H' W' Z,GotR K c env σ H B W e σ' H' W' Z o v->D.rt v H'
noncomputable def tS(K:aQ)(c:Nat->aZ)(E:XK)(s:SS):TS:=fun D σ H=>∃env B W,Cf K c env σ H B W/\(s env).wp (OutP K c env σ H B W D) (erP K c E H B W)
structure SD(X:Cx)(c:Nat->aZ)(E:XK)(st:Stmt)(s:SS):Prop where
 h:PS X st (tS X.K c E s)
structure SDs(X:Cx)(c:Nat->aZ)(E:XK)(st:List Stmt)(s:SS):Prop where
 h:PSs X st (tS X.K c E s)
theorem PS.imp{st:Stmt}{t t' :TS}(h:PS X st t)(k:∀D σ H,t' D σ H->t D σ H):PS X st t' :=fun pins s σ H D I q=>h pins s σ H D I (k D σ H q)
theorem PSs.imp{st:List Stmt}{t t' :TS}(h:PSs X st t)(k:∀D σ H,t' D σ H->t D σ H):PSs X st t' :=fun pins s σ H D I q=>h pins s σ H D I (k D σ H q)
theorem PS.len{st:Stmt}{t:TS}(h:PS X st (fun D σ H=>σ.length=X.N.length/\t D σ H)):PS X st t:=fun pins s σ H D I q=>h pins s σ H D I ⟨I.len,q⟩
section
variable{K:aQ}{c:Nat->aZ}{E:XK}{env env' :Ev}{σ σ' :L2.St}{H H' :Hp}{B W W' :Fp}{D:Ends}{o:Out}{s:SS}
theorem OutP.back(st:Step env σ H B W env' σ' H' W')(h:OutP K c env σ H B W D o):OutP K c env' σ' H' B W' D o:=by
 cases o with
 |nx e=>exact fun σ2 H2 W2 s2 cf=>h σ2 H2 W2 (st.trans s2) cf
 |bk e=>exact fun σ2 H2 W2 s2 cf=>h σ2 H2 W2 (st.trans s2) cf
 |ct e=>exact fun σ2 H2 W2 s2 cf=>h σ2 H2 W2 (st.trans s2) cf
 |rt r e=>exact fun v σ2 H2 W2 Z g=>h v σ2 H2 W2 Z ⟨st.trans g.st,g.cf,g.at_⟩
theorem vQg(st:Step env σ H B W env' σ' H' W')(cf:Cf K c env' σ' H' B W')(h:(s env').wp (OutP K c env σ H B W D) (erP K c E H B W)):tS K c E s D σ' H' :=
 ⟨env',B,W',cf,wp_mono (fun _ q=>q.back st) (fun _ _ he=>he.back st) h⟩
end
noncomputable def sSeq(s t:SS):SS:=fun env=>(s env).bind fun o=>match o with
 |.nx e=>t e
 |o=>.ok o
noncomputable def sNil:SS:=fun env=>.ok (.nx env)
section
variable{X:Cx}{c:Nat->aZ}{E:XK}{st:Stmt}{sts:List Stmt}{s t u:SS}{pos:Pos}
theorem qC:SDs X c E [] sNil:=by
 refine⟨PSs.imp zJt fun D σ H=>?_⟩;rintro⟨env,B,W,cf,w⟩;exact w σ H W .refl cf
theorem qZ(h:SD X c E st s):SDs X c E [st] s:=⟨vWw h.h⟩
theorem qQ(h:SD X c E st s)(k:SDs X c E sts t):SDs X c E (st::sts) (sSeq s t):=by
 refine⟨PSs.imp (zVh h.h k.h) fun D σ H=>?_⟩;rintro⟨env,B,W,cf,w⟩;refine⟨env,B,W,cf,wp_mono (fun o ho=>?_) (fun _ _ he=>he) (qY.mp w)⟩;cases o with
 |nx e=>exact fun σ' H' W' st' cf' =>vQg st' cf' ho
 |bk e=>exact ho
 |ct e=>exact ho
 |rt r e=>exact ho
noncomputable def sIf(b:ST)(s t:SS):SS:=fun env=>(b env).bind fun r=>cond r.1 (s r.2) (t r.2)
theorem qS{x y:List Stmt}{sc:ST}(hc:TD X c E e sc)(ha:SDs X c E x s)(hb:SDs X c E y t):SD X c E (.If e x y pos) (sIf sc s t):=by
 refine⟨PS.imp (jQx hc.h ha.h hb.h) fun D σ H=>?_⟩;rintro⟨env,B,W,cf,w⟩;refine⟨env,B,W,cf,wp_mono (fun r1 h1 H1 W1 st1 cf1=>?_) (fun _ _ he=>he) (qY.mp w)⟩;obtain⟨k,e1⟩:=r1;cases k with
 |true=>exact vQg st1 cf1 h1
 |false=>exact vQg st1 cf1 h1
noncomputable def sRet(s:SE):SS:=fun env=>(s env).bind fun r=>.ok (.rt r.1 r.2)
theorem qE{s:SE}(h:ED X c E e s):SD X c E (.Return (some e) pos) (sRet s):=by
 refine⟨PS.imp (zYp h.h) fun D σ H=>?_⟩;rintro⟨env,B,W,cf,w⟩;exact⟨env,B,W,cf,wp_mono (fun r1 h1 u H1 W1 Z g=>h1 u σ H1 W1 Z ⟨g.st,g.cf,g.at_⟩) (fun _ _ he=>he) (qY.mp w)⟩
noncomputable def eMv(i:Nat):SE:=fun env=>match env[i]? with
 |some (.s false o)=>.ok (o,env.set i .un)
 |_=>.no
theorem vJf{s:Slot}{o:O}(hs:∀o,s≠ .s true o)(h:(env.set i s)[j]?=some (.s true o)):j≠i/\env[j]?=some (.s true o):=by
 grind
theorem qWx(h:PE X e (tVar i)):ED X c E e (eMv i):=by
 refine⟨PE.imp h fun σ H Q=>?_⟩;rintro⟨env,B,W,cf,w⟩;unfold eMv at w;split at w
 ·rename_i o e0;obtain⟨x,Z1,R,h1,h2,h3,h4⟩:=cf.focus e0;cases x with
  |none=>exact h2.elim
  | some v=>
    have eq:hide (hd2 (hd2 B Z1) R) H=hide (hd2 B W) H:=zJ fun a=>by dsimp only[hd2];rw[h3];omega
    have eq2:hide (hd2 B (hd2 R Z1)) H=hide (hd2 B W) H:=zJ fun a=>by dsimp only[hd2];rw[h3];omega
    have cf' :=h4 H (hd2 B Z1) R .un (some v) (fun _=>0) (by rw[eq];exact Same.refl _) (fun a=>by omega) (fun _ _=>rfl) (fun _=>rfl) (fun a=>by have:=cf.nd a;rw[h3]at this;dsimp only[hd2];omega) (fun a z=>by
     by_cases q:B a=0
     ·exact jZ.hb (x:=some v) h2 (by dsimp only[hd2]at z;omega)
     ·exact cf.hb a q)
    rw[jX h1]at cf';refine⟨v,h1,w v H R Z1 ⟨⟨by rw[eq2];exact Same.refl _,fun _ _=>rfl,fun a z=>.inl (by dsimp only[hd2]at z;rw[h3];omega),fun _ z=>z,fun _ _ _=>.refl,fun j o' q=>?_,cQ⟩,cf',by rw[eq];exact h2⟩⟩;grind
 ·exact w.elim
noncomputable def vO(s:SE):SS:=fun env=>(s env).bind fun r=>.ok (.nx r.2)
theorem vC{s:SE}(h:ED X c E e s)(hs:swapsWith e none pos.line X.env=pure false:=by rfl):SD X c E (.Expr e pos) (vO s):=by
 refine⟨PS.imp (vWx h.h hs) fun D σ H=>?_⟩;rintro⟨env,B,W,cf,w⟩;exact⟨env,B,W,cf,wp_mono (fun r1 h1 u H1 W1 Z g=>h1 σ H1 W1 g.fz.st g.fz.cf) (fun _ _ he=>he) (qY.mp w)⟩
end
section
variable{K:aQ}{c:Nat->aZ}{env env' :Ev}{σ σ' :L2.St}{H H' :Hp}{B W W' Z:Fp}{i:Nat}{o:O}{u:V}
theorem GotR.put(g:GotR K c env σ H B W env' σ' H' W' Z o u)(hi:i<env'.length):∃W2,Step env σ H B W (env'.set i (.s false o)) (σ'.set i (some u)) H' W2/\Cf K c (env'.set i (.s false o)) (σ'.set i (some u)) H' B W2:=by
 obtain⟨W2,cf2,sm,nw⟩:=g.cf.put (B:=B) (io:=false) (fun _=>rfl) g.at_ hi;refine⟨W2,g.st.trans ⟨?_,fun _ _=>rfl,fun a z=>.inl ?_,fun _ z=>z,fun _ _ _=>.refl,fun j o' q=>?_,cQ⟩,cf2⟩
 ·rw [show hide (hd2 B (hd2 W' Z)) H' =hide (hd2 (hd2 B Z) W') H' from zJ fun a=>by dsimp only [hd2];omega];exact sm
 ·have:=nw a z;dsimp only[hd2];omega
 ·obtain⟨q1,q2⟩:=vJf (fun _ z=>by cases z) q;exact⟨⟨o',q2⟩,bK (Ne.symm q1)⟩
theorem Got.r(g:Got K c env σ H B W env' H' W' Z o u):GotR K c env σ H B W env' σ H' W' Z o u:=⟨g.st,g.cf,g.at_⟩
end
noncomputable def sSet(i:Nat)(s:SE):SS:=fun env=>(s env).bind fun r=>.ok (.nx (r.2.set i (.s false r.1)))
section
variable{X:Cx}{c:Nat->aZ}{E:XK}{pos pos' :Pos}{i:Nat}{x:Str}{e:Expr}
theorem Cf.len{K:aQ}(h:Cf K c env σ H B W):env.length=σ.length:=h.at_.len
theorem vQm{K:aQ}(cf:Cf K c env σ H B W)(hl:σ.length=N.length)(hi:N[i]?=some x):i<env.length:=by
 rw[cf.len,hl];exact(aL.mp hi).1
theorem qK5{s:SE}(hN:X.N.Nodup)(hi:X.N[i]?=some x)(hx:Loc X.env.scope x)(he:ED X c E e s)(hs:swapsWith e (some (.Name x pos')) pos.line X.env=pure false:=by rfl)(hf:X.fn x=true\/X.env.scope.names.lookup x=some .local :=by first|exact .inl rfl|exact .inr rfl|assumption):
  SD X c E (.Assign [.Name x pos'] e pos) (sSet i s):=by
 refine⟨PS.len (PS.imp (zYo hN hi hx he.h hs hf) fun D σ H=>?_)⟩;rintro⟨hl,env,B,W,cf,w⟩;refine⟨env,B,W,cf,wp_mono (fun r1 h1 u H1 W1 Z g=>?_) (fun _ _ he=>he) (qY.mp w)⟩;obtain⟨W2,s2,c2⟩:=g.r.put (vQm g.cf hl hi);exact h1 _ H1 W2 s2 c2
end
noncomputable abbrev SG:=D->Ev->Option Ev
noncomputable def tG(K:aQ)(c:Nat->aZ)(T:List Nat)(g:SG):TG:=fun v σ H Q=>∃env B W d e,Cf K c env σ H B W/\DAt K c (hide (hd2 B W) H) v d/\g d env=some e/\∀σ' W',Step env σ H B W e σ' H W' ->Cf K c e σ' H B W' ->(∀i,i∉T->σ'[i]?=σ[i]?)->Q σ' H
structure GD(X:Cx)(c:Nat->aZ)(e:Expr)(T:List Nat)(g:SG):Prop where
 h:PG X e (tG X.K c T g)
noncomputable abbrev SGs:=List D->Ev->Option Ev
noncomputable def tGs(K:aQ)(c:Nat->aZ)(T:List Nat)(g:SGs):TGs:=fun vs σ H Q=>∃env B W ds e,Cf K c env σ H B W/\DsAt K c (hide (hd2 B W) H) vs ds/\g ds env=some e/\∀σ' W',Step env σ H B W e σ' H W' ->Cf K c e σ' H B W' ->(∀i,i∉T->σ'[i]?=σ[i]?)->Q σ' H
structure GDs(X:Cx)(c:Nat->aZ)(es:List Expr)(T:List Nat)(g:SGs):Prop where
 h:PGs X es (tGs X.K c T g)
theorem PG.imp{t t' :TG}(h:PG X e t)(k:∀v σ H Q,t' v σ H Q->t v σ H Q):PG X e t' :=fun pins s σ H v u Q I r q=>h pins s σ H v u Q I r (k v σ H Q q)
theorem PGs.imp{e:List Expr}{t t' :TGs}(h:PGs X e t)(k:∀v σ H Q,t' v σ H Q->t v σ H Q):PGs X e t' :=fun pins s σ H v u Q I r q=>h pins s σ H v u Q I r (k v σ H Q q)
theorem PG.len{t:TG}(h:PG X e (fun v σ H Q=>σ.length=X.N.length/\t v σ H Q)):PG X e t:=fun pins s σ H v u Q I r q=>h pins s σ H v u Q I r ⟨I.len,q⟩
noncomputable def gN(i:Nat):SG:=fun d env=>some (env.set i (.s false (.fz d)))
noncomputable def gNl:SGs:=fun ds env=>match ds with
 |[]=>some env
 |_=>none
noncomputable def gCn(g:SG)(gs:SGs):SGs:=fun ds env=>match ds with
 |d::r=>(g d env).bind fun e=>gs r e
 |[]=>none
noncomputable def gT(n:Nat)(gs:SGs):SG:=fun d env=>match d with
 |.nd .tup ds=>if ds.length=n then gs ds env else none
 |_=>none
section
variable{X:Cx}{c:Nat->aZ}{pos:Pos}{x:Str}{i n:Nat}{e:Expr}{es:List Expr}{g:SG}{gs:SGs}{T T' :List Nat}
theorem zW3(hN:X.N.Nodup)(hi:X.N[i]?=some x)(hx:Loc X.env.scope x)(hf:X.fn x=true\/X.env.scope.names.lookup x=some .local :=by first|exact .inl rfl|exact .inr rfl|assumption):GD X c (.Name x pos) [i] (gN i):=by
 refine⟨PG.len (PG.imp (vWy hN hi hx hf) fun v σ H Q=>?_)⟩;rintro⟨hl,env,B,W,d,e,cf,hd,h1,h2⟩;cases h1;have g:GotD X.K c env σ H B W env H W d v:=⟨.refl,cf,hd⟩
 obtain⟨W2,s2,c2⟩:=g.own.r.put (vQm cf hl hi);exact h2 _ W2 s2 c2 fun j hj=>bK fun z=>hj (by rw[z];exact bT)
theorem yI:GDs X c [] [] gNl:=by
 refine⟨PGs.imp zJ4 fun v σ H Q=>?_⟩;rintro⟨env,B,W,ds,e,cf,hd,h1,h2⟩;cases ds with
 | nil=>
   have:=hd.un0;cases h1;exact⟨this,h2 _ W .refl cf fun _ _=>rfl⟩
 |cons d r=>cases h1
theorem v5(h:GD X c e T g)(k:GDs X c es T' gs)(hs:(assignEach (e::es) X.env).map (·.2)=assign e X.env::(assignEach es X.env).map (·.2):=by rfl):GDs X c (e::es) (T ++ T') (gCn g gs):=by
 refine⟨PGs.imp (zVm h.h k.h hs) fun v σ H Q=>?_⟩;rintro⟨env,B,W,ds,e,cf,hd,h1,h2⟩;cases ds with
 |nil=>cases h1
 | cons d r=>
   obtain⟨u,us,rfl,a,b⟩:=hd.un;obtain⟨e2,e1,h1⟩:=bnd h1;exact⟨u,us,rfl,env,B,W,d,e2,cf,a,e1,fun σ' W' st' cf' k1=>⟨e2,B,W',r,e,cf',b.same st'.same,h1,fun σ2 W2 st2 cf2 k2=>h2 σ2 W2 (st'.trans st2) cf2 fun i hi=>(k2 i fun z=>hi (bF _ z)).trans (k1 i fun z=>hi (List.mem_append_left _ z))⟩⟩
theorem qVp{k:Nat}(hc:X.calm=true)(h:GDs X c es T gs)(hn:(assignEach es X.env).length =n:=by rfl)(hst:(assignEach es X.env).findIdx? (·.1)=none:=by rfl):GD X c (.Tuple es k pos) T (gT n gs):=by
 refine⟨PG.imp (zYx hc h.h hn hst) fun v σ H Q=>?_⟩;rintro⟨env,B,W,d,e,cf,hd,h1,h2⟩;unfold gT at h1;split at h1
 ·rename_i ds;split at h1
  ·rename_i hl;obtain⟨p,vs,q1,q2,q3⟩:=hd.un;exact⟨p,vs,q1,qT.tup q2,by rw[q3.len];exact hl,env,B,W,ds,e,cf,q3,h1,h2⟩
  ·cases h1
 ·cases h1
end
noncomputable def ItD(K:aQ)(c:Nat->aZ)(F:Hp)(J:It)(ds:List D):Prop:=∀(i:Nat) (H:Hp) (T:Fp),Same F (hide T H)->(∀a,T a≠0->∃o,H a=some o/\Hb o)->
 (∀d,ds[i]?=some d->J.go i H/\∀x H',J.yld i H x H' ->Same H H' /\DAt K c (hide T H') x d)/\(i=ds.length->J.stop i H)
noncomputable abbrev SI:=Ev->Res (List D×Ev)
noncomputable def tIt(K:aQ)(c:Nat->aZ)(E:XK)(s:SI):TI:=fun σ H R=>∃env B W,Cf K c env σ H B W/\(s env).wp (fun r=>∀J H' W',Step env σ H B W r.2 σ H' W' ->Cf K c r.2 σ H' B W' ->ItD K c (hide (hd2 B W') H') J r.1->R J H') (erP K c E H B W)
structure ID'(X:Cx)(c:Nat->aZ)(E:XK)(tg e:Expr)(s:SI):Prop where
 h:PI X tg e (tIt X.K c E s)
theorem PI.imp{t t' :TI}(h:PI X tg e t)(k:∀σ H R,t' σ H R->t σ H R):PI X tg e t' :=fun pins s σ H R I q=>h pins s σ H R I (k σ H R q)
noncomputable def forS(g:SG)(body:SS):List D->SS
 |[],env=>.ok (.nx env)
 |d::ds,env=>(opt (g d env)).bind fun e1=>(body e1).bind fun o=>match o with
    |.nx e2=>forS g body ds e2
    |.ct e2=>forS g body ds e2
    |.bk e2=>.ok (.nx e2)
    |.rt r e2=>.ok (.rt r e2)
noncomputable def sFor(it:SI)(g:SG)(body:SS):SS:=fun env=>(it env).bind fun r=>forS g body r.1 r.2
theorem zZm{K:aQ}{T:List Nat}{D:Ends}{J:It}{H1:Hp}{W1:Fp}{ds:List DX.D}{e1:Ev}(cf1:Cf K c e1 σ H1 B W1)(iter:ItD K c (hide (hd2 B W1) H1) J ds)(h1:(forS g body ds e1).wp (OutP K c e1 σ H1 B W1 D) (erP K c E H1 B W1)):∃W:Nat->Nat->L2.St->Hp->Prop,(∃m,W 0 m σ H1)/\∀i m σ H,W i m σ H->
   (J.stop i H/\D.nx σ H)\/(J.go i H/\∃N:L2.St->Hp->Prop,(∀σ' H',N σ' H' ->∃m',m'<m/\W (i+1) m' σ' H')/\∀x H',J.yld i H x H' ->tG K c T g x σ H' fun σ2 H2=>tS K c E body {D with nx:=N,ct:=N,bk:=D.nx} σ2 H2):=by
 refine⟨fun i m σ' H' =>m=ds.length - i/\i<=ds.length/\∃env' W',Same (hide (hd2 B W1) H1) (hide (hd2 B W') H')/\Cf K c env' σ' H' B W' /\(forS g body (ds.drop i) env').wp (OutP K c env' σ' H' B W' D) (erP K c E H' B W'),
  ⟨ds.length,by simp,bO _,e1,W1,Same.refl _,cf1,h1⟩,?_⟩
 rintro i m σ' H' ⟨rfl,hi,env',W',sm,cf',w'⟩;obtain⟨it1,it2⟩:=iter i H' (hd2 B W') sm (fun a z=>cf'.hbs z);by_cases hlt:i<ds.length
 ·obtain⟨go,yl⟩:=it1 ds[i] (aF hlt);refine .inr ⟨go,fun σ2 H2=>ds.length - (i+1)<ds.length - i/\(ds.length - (i+1)=ds.length - (i+1)/\i+1<=ds.length/\∃env2 W2,Same (hide (hd2 B W1) H1) (hide (hd2 B W2) H2)/\Cf K c env2 σ2 H2 B W2/\(forS g body (ds.drop (i+1)) env2).wp (OutP K c env2 σ2 H2 B W2 D) (erP K c E H2 B W2)),fun σ2 H2 q=>⟨_,q.1,q.2⟩,fun x H2 y=>?_⟩;obtain⟨sm2,hx⟩:=yl x H2 y;rw[List.drop_eq_getElem_cons hlt]at w';obtain⟨e3,e2,w'⟩:=qU w';refine⟨env',B,W',ds[i],e3,cf'.grow sm2,hx,e2,fun σ3 W3 st3 cf3 _=>?_⟩;have stA:Step env' σ' H' B W' e3 σ3 H2 W3:=(Step.grow cf' sm2).trans st3
  have next:∀e4,(forS g body (ds.drop (i+1)) e4).wp (OutP K c env' σ' H' B W' D) (erP K c E H' B W')->∀σ4 H4 W4,Step e3 σ3 H2 B W3 e4 σ4 H4 W4->Cf K c e4 σ4 H4 B W4->
    ds.length - (i+1)<ds.length - i/\(ds.length - (i+1)=ds.length - (i+1)/\i+1<=ds.length/\∃env2 W2,Same (hide (hd2 B W1) H1) (hide (hd2 B W2) H4)/\Cf K c env2 σ4 H4 B W2/\(forS g body (ds.drop (i+1)) env2).wp (OutP K c env2 σ4 H4 B W2 D) (erP K c E H4 B W2)):=fun e4 q σ4 H4 W4 st4 cf4=>by
   have stB:=stA.trans st4;exact⟨by omega,rfl,hlt,e4,W4,sm.trans stB.same,cf4,wp_mono (fun o q=>q.back stB) (fun _ _ he=>he.back stB) q⟩
  refine⟨e3,B,W3,cf3,wp_mono (fun o q=>?_) (fun _ _ he=>he.back stA) (qY.mp w')⟩;cases o with
  |nx e4=>exact next e4 q
  |ct e4=>exact next e4 q
  |bk e4=>exact fun σ4 H4 W4 st4 cf4=>q σ4 H4 W4 (stA.trans st4) cf4
  |rt r e4=>exact fun v σ4 H4 W4 Z g=>q v σ4 H4 W4 Z ⟨stA.trans g.st,g.cf,g.at_⟩
 ·have hi2:i=ds.length:=by omega
  subst hi2;rw[List.drop_length]at w';exact .inl ⟨it2 rfl,w' σ' H' W' .refl cf'⟩
theorem zZ8{K:aQ}{T:List Nat}{D:Ends}(h:tS K c E (sFor it g body) D σ H):tFor (tIt K c E it) (tG K c T g) (tS K c E body) D σ H:=by
 obtain⟨env,B,W,cf,w⟩:=h;refine⟨env,B,W,cf,wp_mono (fun r1 h1 J H1 W1 st1 cf1 iter=>?_) (fun _ _ he=>he) (qY.mp w)⟩;exact zZm cf1 iter (wp_mono (fun o q=>q.back st1) (fun _ _ he=>he.back st1) h1)
theorem j5{iter:Expr}{body:List Stmt}{T:List Nat}{s:SS}(hp:PassesOwn (model X.prog X.w) X.A X.env X.xe)(hc:X.calm=true)(hi:ID' X c E tg iter it)(hg:GD X c tg T g)(hb:SDs X c E body s)(hs:∀x,foldedSetIterable iter X.env x=pure x:=by intro _;rfl):SD X c E (.For tg iter body [] pos) (sFor it g s):=
 ⟨PS.imp (zQd hp hc hi.h hg.h hb.h hs) fun _ _ _ h=>zZ8 h⟩
noncomputable abbrev Fn:=Ev->Res (O×Ev)
noncomputable def zKs:Slot->Slot
 |.s true o=>.s true o
 |_=>.un
noncomputable def outs:Nat->Ev->Ev
 | 0,_=> []
 |_+1,[]=> []
 |n+1,s::e=>zKs s::outs n e
noncomputable def fnS(n m:Nat)(body:SS):Fn:=fun args=>(body (args ++ List.replicate m .un)).bind fun o=>match o with
 |.nx e=>.ok (.fz .non,outs n e)
 |.rt r e=>.ok (r,outs n e)
 |_=>.no
noncomputable def spD(K:aQ)(c:Nat->aZ)(n:Nat)(F:Fn):Sp:=fun vs H Q E=>∃args B W,args.length=n/\Cf K c args (vs.map some) H B W/\
 (F args).wp (fun r=>∀v H' W' Z,GotR K c args (vs.map some) H B W r.2 (vs.map some) H' W' Z r.1 v->Q v H') (erP K c E H B W)
section
variable{K:aQ}{c:Nat->aZ}{F H H' :Hp}
theorem SlAt.uns(t:TabF c F):∀m:Nat,SlAt K c F H (List.replicate m .un) (List.replicate m none) (fun _=>0)
 | 0=>⟨⟨rfl,t⟩,fun _=>rfl⟩
 |m+1=>⟨none,List.replicate m none,fun _=>0,fun _=>0,rfl,fun _=>rfl,SlAt.uns t m,fun _=>rfl⟩
theorem SlAt.append:∀{env env' :Ev} {σ σ' :L2.St} {Z Z' :Fp},SlAt K c F H env σ Z->SlAt K c F H env' σ' Z' ->SlAt K c F H (env ++ env') (σ ++ σ') (fun a=>Z a+Z' a)
 | [],env',σ,σ',Z,Z',h,k=>by
   rw[h.1.1];exact k.cast fun a=>by rw[h.2];omega
 | s::env,env',σ,σ',Z,Z',h,k=>by
   obtain⟨x,r,Z1,Z2,rfl,b,cc,d⟩:=h;exact⟨x,r ++ σ',Z1,_,rfl,b,cc.append k,fun a=>by dsimp only;rw[d];omega⟩
theorem Cf.ext{m:Nat}(h:Cf K c args τ H B W):Cf K c (args ++ List.replicate m .un) (τ ++ List.replicate m none) H B W:=
 ⟨(h.at_.append (SlAt.uns h.at_.tab m)).cast fun a=>by(try dsimp only);omega,h.nd,h.hb⟩
theorem SlAt.outs:∀{n:Nat} {e:Ev} {σ τ:L2.St} {Z:Fp},SlAt K c F H e σ Z->n<=e.length->τ.length=n->(∀(i:Nat) o,i<n->e[i]?=some (.s true o)->σ[i]?=τ[i]?)->∃Z',SlAt K c F H (outs n e) τ Z' /\∀a,Z' a<=Z a
 | 0,e,σ,τ,Z,h,hl,ht,k=>⟨fun _=>0,⟨⟨cI ht,h.tab⟩,fun _=>rfl⟩,fun _=>bO _⟩
 |n+1,[],σ,τ,Z,h,hl,ht,k=>by simp at hl
 |n+1,s::e,σ,[],Z,h,hl,ht,k=>by simp at ht
 | n + 1,s::e,σ,t::τ,Z,h,hl,ht,k=>by
   obtain⟨x,r,Z1,Z2,rfl,b,cc,d⟩:=h;obtain⟨Z',h1,h2⟩:=SlAt.outs (n:=n) (τ:=τ) cc (by simpa using hl) (by simpa using ht) fun i o hi e=>by
    have:=k (i+1) o (by omega) (by simpa using e);simpa using this
   have un:∃Y:Fp,SlAt K c F H (.un ::DX.outs n e) (t::τ) Y/\∀a,Y a<=Z a:=⟨Z',⟨t,τ,fun _=>0,Z',rfl,fun _=>rfl,h1,fun a=>by dsimp only;omega⟩,fun a=>by have:=h2 a;rw[d];omega⟩
   cases s with
   |un=>exact un
   | s io o=>
     cases io with
     |false=>exact un
     | true=>
       have e0:=k 0 o (by omega) rfl;simp only[dG,Option.some.injEq]at e0;subst e0;exact⟨fun a=>Z1 a+Z' a,⟨x,τ,Z1,Z',rfl,b,h1,fun _=>rfl⟩,fun a=>by have:=h2 a;rw[d];dsimp only;omega⟩
theorem vV6:∀{n i:Nat} {e:Ev} {o:O},(outs n e)[i]?=some (.s true o)->i<n/\e[i]?=some (.s true o)
 | 0,i,e,o,h=>by simp[outs]at h
 |n+1,i,[],o,h=>by simp[outs]at h
 | n + 1,0,s::e,o,h=>by
   simp only[outs,dG,Option.some.injEq]at h;refine⟨Nat.succ_pos _,?_⟩;cases s with
   |un=>cases h
   |s io o' =>cases io <;> cases h;rfl
 | n + 1,i + 1,s::e,o,h=>by
   simp only[outs,List.getElem?_cons_succ]at h⊢;obtain⟨h1,h2⟩:=vV6 h;exact⟨by omega,h2⟩
theorem vV5:∀{n:Nat} {e:Ev},n<=e.length->(outs n e).length =n
 | 0,e,_=>by simp[outs]
 |n+1,[],h=>by simp at h
 |n+1,s::e,h=>by rw[outs,aK,vV5 (by simpa using h)]
theorem GotR.out{e:Ev}{m:Nat}{r:O}(hn:args.length=n)(cf:Cf K c args τ H B W)(g:GotR K c (args ++ List.replicate m .un) (τ ++ List.replicate m none) H B W e σ' H' W' Z r v):
  ∃W2,GotR K c args τ H B W (outs n e) τ H' W2 Z r v:=by
 have hle:n<=e.length:=by rw[g.st.len,aU];omega
 have hτ:τ.length=n:=by rw[←cf.len];exact hn
 have back:∀(i:Nat) (o:O),i<n->e[i]?=some (.s true o)->(∃o0,args[i]?=some (.s true o0))/\σ'[i]?=τ[i]?:=fun i o hi h=>by
  obtain⟨⟨o0,h3⟩,h5⟩:=g.st.io i o h;grind
 obtain⟨W2,h1,h2⟩:=g.cf.at_.outs hle hτ fun i o hi h=>(back i o hi h).2
 have sm:Same (hide (hd2 (hd2 B Z) W') H') (hide (hd2 (hd2 B Z) W2) H'):=v7 fun a z=>by have:=h2 a;dsimp only[hd2]at *;omega
 have sm2:Same (hide (hd2 B (hd2 W' Z)) H') (hide (hd2 B (hd2 W2 Z)) H'):=v7 fun a z=>by have:=h2 a;dsimp only[hd2]at *;omega
 refine⟨W2,⟨g.st.same.trans sm2,g.st.by_,fun a z=>g.st.new a (by have:=h2 a;dsimp only[hd2]at *;omega),g.st.dom,fun a z1 z2=>g.st.pin a z1 (by have:=h2 a;dsimp only[hd2]at *;omega),fun i o h=>?_,by rw[vV5 hle,hn]⟩,
  ⟨h1.keep sm fun _ _=>rfl,fun a=>by have:=h2 a;have:=g.cf.nd a;dsimp only[hd2]at *;omega,g.cf.hb⟩,g.at_.keep sm fun _ _=>rfl⟩
 obtain⟨hi,h3⟩:=vV6 h;grind
end
theorem fnD{K:aQ}{x:Str}{st:Stmt}{f:aZ}{k:Nat}(F:Fun K x qual st f fd)(S:FnScope N ps (qK st))(hb:∀(cdv:Value) (A:bR) (outer:List Env) (s:aJ) (H:Hp) (E:XK),Room k (A.deeper (envOfC qual (qK st) s.heap.objs.size f cdv))->SDs (cxOf (CXd P w) P w K mg base N qual (qK st) f cdv A outer s H E) c E (zU st) body):
  FnOk P w K mg base (CXd P w) (k+1) f fd ps (spD K c ps.length (fnS ps.length (N.length - ps.length) body)):=by
 refine F.okD S (fun vs H Q E h=>?_) (fun cdv Ar outer s H vs Q E hr h=>?_)
 ·obtain⟨args,B,W,hl,cf,_⟩:=h;have:=cf.len;rw[aW]at this;omega
 ·obtain⟨args,B,W,hl,cf,wp0⟩:=h;have hvl:vs.length=ps.length:=by
   have:=cf.len;rw[aW]at this;omega
  refine⟨_,(hb cdv Ar outer s H E hr).h,?_⟩;have hst:L2.qVh N vs=vs.map some ++ List.replicate (N.length - ps.length) none:=by unfold L2.qVh;rw[hvl]
  show tS K c E body _ (L2.qVh N vs) H;rw[hst];unfold fnS at wp0;refine⟨args ++ List.replicate (N.length - ps.length) .un,B,W,cf.ext,wp_mono (fun o ho=>?_) (fun _ _ he=>he) (qY.mp wp0)⟩;cases o with
  | nx e=>
    intro σ' H' W' st' cf';have g:GotR K c (args ++ List.replicate (N.length - ps.length) .un) (vs.map some ++ List.replicate (N.length - ps.length) none) H B W e σ' H' W' (fun _=>0) (.fz .non) .non :=⟨st'.cast (fun _=>rfl) (fun _=>rfl) fun _=>rfl,cf'.cast (fun _=>rfl) fun _=>rfl,OAt.fz.mpr ⟨.non,fun _=>rfl⟩⟩
    obtain⟨W2,g2⟩:=g.out hl cf;exact ho .non H' W2 _ g2
  | rt r e=>
    intro v σ' H' W' Z g;obtain⟨W2,g2⟩:=g.out hl cf;exact ho v H' W2 Z g2
  |bk e=>exact ho.elim
  |ct e=>exact ho.elim
mutual
def vB:D->Bool
 |.nd .tup ds=>flatDs ds
 |.nd _ _=>false
 |_=>true
def flatDs:List D->Bool
 |[]=>true
 |d::ds=>vB d && flatDs ds
end
mutual
def qXr:O->Bool
 |.fz d=>vB d
 |.ow _ os=>flatOs os
def flatOs:List O->Bool
 |[]=>true
 |o::os=>qXr o && flatOs os
end
theorem qYr:∀{ds:List D} {i:Nat} {d:D},flatDs ds=true->ds[i]?=some d->vB d=true
 |[],i,d,h,e=>by simp at e
 | x::ds,0,d,h,e=>by
   rw[flatDs,aD]at h;cases e;exact h.1
 | x::ds,i + 1,d,h,e=>by
   rw[flatDs,aD]at h;exact qYr h.2 (by simpa using e)
section
variable{K:aQ}{c:Nat->aZ}{F F' H H' :Hp}
theorem zQ7(k:∀a o,F a=some o->¬Hb o->F' a=some o){p:aZ}(h:SqT K F p vs):SqT K F' p vs:=by
 rcases h with(h|⟨o,h⟩)|h
 ·exact .inl (.inl (k _ _ h fun z=>z))
 ·exact .inl (.inr ⟨o,k _ _ h fun z=>z⟩)
 ·exact .inr h
theorem DAt.flat(k:∀a o,F a=some o->¬Hb o->F' a=some o){d:D}(h:DAt K c F v d)(hf:vB d=true):DAt K c F' v d:=by
 induction h with
 |non=>exact .non
 |int i=>exact .int i
 |str i=>exact .str i
 |bl i=>exact .bl i
 |fn i=>exact .fn i
 | @nd p kd vs ds h l r ih=>
   cases kd with
   | tup=>
     exact .nd (zQ7 k h) l fun i v d a b=>ih i v d a b (qYr hf b)
   |lst=>simp[vB]at hf
   |dct ks=>simp[vB]at hf
   |dcT ks=>simp[vB]at hf
   |obj C fs=>simp[vB]at hf
   |exc C fs=>simp[vB]at hf
mutual
theorem OAt.flat(k:∀a o,F a=some o->¬Hb o->F' a=some o):∀{o:O} {v:V} {Z:Fp},qXr o=true->OAt K c F H o v Z->OAt K c F' H o v Z
 | .fz d,v,Z,hf,h=>by
   rw[OAt.fz]at h⊢;rw[qXr]at hf;exact⟨h.1.flat k hf,h.2⟩
 | .ow kd os,v,Z,hf,h=>by
   rw[OAt.ow]at h⊢;rw[qXr]at hf;obtain⟨p,vs,Z',a,b,c,d⟩:=h;exact⟨p,vs,Z',a,b,OsAt.flat k hf c,d⟩
theorem OsAt.flat(k:∀a o,F a=some o->¬Hb o->F' a=some o):∀{os:List O} {vs:List V} {Z:Fp},flatOs os=true->OsAt K c F H os vs Z->OsAt K c F' H os vs Z
 |[],vs,Z,hf,h=>by rw[OsAt.nil]at h⊢;exact h
 | o::os,vs,Z,hf,h=>by
   rw[OsAt.cons]at h⊢;rw[flatOs,aD]at hf;obtain⟨v,r,Z1,Z2,a,b,c,d⟩:=h;exact⟨v,r,Z1,Z2,a,OAt.flat k hf.1 b,OsAt.flat k hf.2 c,d⟩
end
end
mutual
def ndD:D->Bool
 |.nd (.dct _) _=>false
 |.nd (.dcT _) _=>false
 |.nd _ ds=>ndDs ds
 |_=>true
def ndDs:List D->Bool
 |[]=>true
 |d::ds=>ndD d && ndDs ds
end
mutual
def ndO:O->Bool
 |.fz d=>ndD d
 |.ow _ os=>ndOs os
def ndOs:List O->Bool
 |[]=>true
 |o::os=>ndO o && ndOs os
end
noncomputable def ndS:Slot->Bool
 |.un =>true
 |.s _ o=>ndO o
theorem vZa:∀{ds:List D} {i:Nat} {d:D},ndDs ds=true->ds[i]?=some d->ndD d=true
 |[],i,d,h,e=>by simp at e
 | x::ds,0,d,h,e=>by
   rw[ndDs,aD]at h;cases e;exact h.1
 | x::ds,i + 1,d,h,e=>by
   rw[ndDs,aD]at h;exact vZa h.2 (by simpa using e)
noncomputable def isDK:HO->Prop
 |.dK _=>True
 |.dT _=>True
 |_=>False
section
variable{K:aQ}{c:Nat->aZ}{F F' H H' :Hp}
theorem NdAt.nd'(k:∀a o,F a=some o->¬isDK o->F' a=some o){p:aZ}(h:NdAt K c F p kd vs)(hk:∀ks,kd≠ .dct ks)(hk' :∀ks,kd≠ .dcT ks):NdAt K c F' p kd vs:=by
 cases kd with
 | lst=>
   rcases h with(h|⟨o,h⟩)|h
   ·exact .inl (.inl (k _ _ h fun z=>z))
   ·exact .inl (.inr ⟨o,k _ _ h fun z=>z⟩)
   ·exact .inr h
 | tup=>
   rcases h with(h|⟨o,h⟩)|h
   ·exact .inl (.inl (k _ _ h fun z=>z))
   ·exact .inl (.inr ⟨o,k _ _ h fun z=>z⟩)
   ·exact .inr h
 |dct ks=>grind
 |dcT ks=>grind
 |obj C fs=>obtain⟨a,dx,b⟩:=h;exact⟨a,dx,k _ _ b fun z=>z⟩
 | exc C fs=>
   obtain⟨a,ox,b,d⟩:=h;refine⟨a,ox,k _ _ b fun z=>z,?_⟩;cases ox with
   |none=>exact d
   |some dx=>exact k _ _ d fun z=>z
theorem DAt.nd'(k:∀a o,F a=some o->¬isDK o->F' a=some o){d:D}(h:DAt K c F v d)(hf:ndD d=true):DAt K c F' v d:=by
 induction h with
 |non=>exact .non
 |int i=>exact .int i
 |str i=>exact .str i
 |bl i=>exact .bl i
 |fn i=>exact .fn i
 | @nd p kd vs ds h l r ih=>
   have hk:(∀ks,kd≠ .dct ks)/\(∀ks,kd≠ .dcT ks)/\ndDs ds=true:=by
    cases kd with
    |lst=>rw[ndD]at hf <;> simp_all
    |tup=>rw[ndD]at hf <;> simp_all
    |dct ks=>simp[ndD]at hf
    |dcT ks=>simp[ndD]at hf
    |obj C fs=>rw[ndD]at hf <;> simp_all
    |exc C fs=>rw[ndD]at hf <;> simp_all
   exact .nd (h.nd' k hk.1 hk.2.1) l fun i v d a b=>ih i v d a b (vZa hk.2.2 b)
mutual
theorem OAt.nd'(k:∀a o,F a=some o->¬isDK o->F' a=some o):∀{o:O} {v:V} {Z:Fp},ndO o=true->OAt K c F H o v Z->OAt K c F' H o v Z
 | .fz d,v,Z,hf,h=>by
   rw[OAt.fz]at h⊢;rw[ndO]at hf;exact⟨h.1.nd' k hf,h.2⟩
 | .ow kd os,v,Z,hf,h=>by
   rw[OAt.ow]at h⊢;rw[ndO]at hf;obtain⟨p,vs,Z',a,b,c,d⟩:=h;exact⟨p,vs,Z',a,b,OsAt.nd' k hf c,d⟩
theorem OsAt.nd'(k:∀a o,F a=some o->¬isDK o->F' a=some o):∀{os:List O} {vs:List V} {Z:Fp},ndOs os=true->OsAt K c F H os vs Z->OsAt K c F' H os vs Z
 |[],vs,Z,hf,h=>by rw[OsAt.nil]at h⊢;exact h
 | o::os,vs,Z,hf,h=>by
   rw[OsAt.cons]at h⊢;rw[ndOs,aD]at hf;obtain⟨v,r,Z1,Z2,a,b,c,d⟩:=h;exact⟨v,r,Z1,Z2,a,OAt.nd' k hf.1 b,OsAt.nd' k hf.2 c,d⟩
end
theorem SlAt.nd'(k:∀a o,F a=some o->¬isDK o->F' a=some o):∀{env:Ev} {σ:L2.St} {Z:Fp},env.all ndS=true->SlAt K c F H env σ Z->SlAt K c F' H env σ Z
 |[],_,_,_,h=>⟨⟨h.1.1,fun z=>k _ _ (h.1.2 z) fun y=>y⟩,h.2⟩
 | s::env,σ,Z,hf,h=>by
   rw[dR,aD]at hf;obtain⟨x,r,Z1,Z2,a,b,cc,d⟩:=h;refine⟨x,r,Z1,Z2,a,?_,SlAt.nd' k hf.2 cc,d⟩;cases s with
   |un=>exact b
   | s io o=>
     cases x with
     |none=>exact b.elim
     |some v=>exact OAt.nd' k hf.1 b
end
noncomputable def dcFz:O->Bool
 | .ow (.dct _) os=>os.all fun o=>match o with
   |.fz _=>true
   |_=>false
 |_=>false
theorem vXl{K:aQ}{F:Hp}{o:O}(h:OAt K c F H o v Z)(e:dcFz o=true):∀a,Z a≠0->∃ho,H a=some ho/\isDK ho:=by
 unfold dcFz at e;split at e
 ·rename_i ks os;obtain⟨p,vs,Z',rfl,b,cc,d⟩:=h;have key:∀{os:List O} {vs:List V} {Z:Fp},(os.all fun o=>match o with|.fz _=>true|_=>false)=true->OsAt K c F H os vs Z->∀a,Z a=0:=fun {os}=>by
   induction os with
   |nil=>intro vs Z _ h;exact h.2
   | cons o os ih=>
     intro vs Z hf h;rw[dR,aD]at hf;obtain⟨v,r,Z1,Z2,_,b,cc,d⟩:=h;cases o with
     |ow _ _=>cases hf.1
     |fz x=>rw[OAt.fz]at b;intro a;rw[d,b.2,ih hf.2 cc]
  intro a z;have z0:=key e cc a;by_cases y:a=p
  ·subst y;exact⟨_,b.2.2,trivial⟩
  ·rw[d,xV y,z0]at z;exact absurd rfl z
 ·cases e
inductive Am where
 |v (s:SV)|b (s:SP)|io (i:Nat)
noncomputable def pIo(i:Nat):SP:=fun env=>match env[i]? with
 |some (.s _ _)=>some (.p i [])
 |_=>none
noncomputable def Am.o:Am->Oe
 |.v s=>.v s
 |.b s=>.p s
 |.io i=>.p (pIo i)
noncomputable def yF:List Am->List Hn->List Nat
 |.io _::as,.p j _::hs=>j::yF as hs
 |_::as,_::hs=>yF as hs
 |_,_=> []
noncomputable def qVc:List Nat->Ev->Option (List O×Ev)
 |[],env=>some ([],env)
 | j::js,env=>match env[j]? with
   |some (.s _ o)=>(qVc js (env.set j .un)).bind fun q=>some (o::q.1,q.2)
   |_=>none
noncomputable def flag(env:Ev)(j:Nat):Bool:=match env[j]? with
 |some (.s io _)=>io
 |_=>false
noncomputable def putS(e1:Ev):List Nat->List O->Ev->Ev
 |j::js,o::os,env=>putS e1 js os (env.set j (.s (flag e1 j) o))
 |_,_,env=>env
noncomputable def getL:List Nat->List O->Nat->Option O
 |j::js,o::os,i=>if j=i then some o else getL js os i
 |_,_,_=>none
noncomputable def qQt(ls:List Nat)(lo:List O):List Am->List Hn->List O->Option Ev
 |[],[],_=>some []
 |.v _::as,.d x::hs,os=>(qQt ls lo as hs os).bind fun r=>some (.s false (.fz x)::r)
 |.b _::as,.d x::hs,os=>(qQt ls lo as hs os).bind fun r=>some (.s false (.fz x)::r)
 |.b _::as,.p i π::hs,os=>(getL ls lo i).bind fun o0=>(getP o0 π).bind fun o=>(qQt ls lo as hs os).bind fun r=>some (.s false (.fz (fzO o))::r)
 |.io _::as,.p _ []::hs,o::os=>(qQt ls lo as hs os).bind fun r=>some (.s true o::r)
 |_,_,_=>none
noncomputable def j4:List Am->List Hn->List Nat
 |.b _::as,.p i _::hs=>cond ((j4 as hs).contains i) (j4 as hs) (i::j4 as hs)
 |_::as,_::hs=>j4 as hs
 |_,_=> []
noncomputable def qWs:List Am->Ev->Option (List O)
 |[],[]=>some []
 |.io _::as,.s true o::e=>(qWs as e).bind fun r=>some (o::r)
 |.io _::_,_::_=>none
 |_::as,_::e=>qWs as e
 |_,_=>none
noncomputable def yV:List Am->List V->List V
 |.io _::as,u::us=>u::yV as us
 |_::as,_::us=>yV as us
 |_,_=> []
section
variable{K:aQ}{c:Nat->aZ}{F F' H H' :Hp}
theorem qX2:∀{js:List Nat} {env envR:Ev} {os:List O} {σ:L2.St} {W:Fp},SlAt K c F H env σ W->qVc js env=some (os,envR)->∃vs Wc R,js.map (fun j=>σ[j]?)=vs.map (fun v=>some (some v))/\OsAt K c F H os vs Wc/\SlAt K c F H envR σ R/\(∀a,W a=Wc a+R a)/\
  js.Nodup/\(∀j∈js,envR[j]?=some .un)/\(∀j,j∉js->envR[j]?=env[j]?)/\envR.length=env.length
 | [],env,envR,os,σ,W,h,e=>by
   cases e;exact⟨[],fun _=>0,W,rfl,OsAt.nil.mpr ⟨rfl,fun _=>rfl⟩,h,fun a=>by(try dsimp only);omega,List.nodup_nil,fun _ z=>by simp at z,fun _ _=>rfl,rfl⟩
 | j::js,env,envR,os,σ,W,h,e=>by
   simp only[qVc]at e;cases e0:env[j]? with
   |none=>grind
   | some s=>
     rw[e0]at e;cases s with
     |un=>cases e
     | s io o=>
       obtain⟨q,e1,e2⟩:=bnd e;cases e2;obtain⟨x,Z1,R1,h1,h2,h3,h4⟩:=h.focus e0;cases x with
       |none=>exact h2.elim
       | some v=>
         have h5:=h4 F H .un (some v) (fun _=>0) R1 (Same.refl _) (fun _ _=>rfl) (fun _=>rfl) fun a=>by(try dsimp only);omega
         rw[jX h1]at h5;obtain⟨vs,Wc,R,a1,a2,a3,a4,a5,a6,a7,a8⟩:=qX2 h5 e1;have hj:j<env.length:=(aL.mp e0).1;have nj:j∉js:=fun z=>by
          have key:∀{js:List Nat} {env:Ev} {q:List O×Ev},env[j]?=some .un ->j∈js->qVc js env=some q->False:=by
           intro js;induction js with
           |nil=>grind
           | cons i is ih=>
             intro env q hu z ht;simp only[qVc]at ht;by_cases hi:i=j
             ·grind
             ·rcases aG.mp z with z | z
              ·grind
              ·cases e3:env[i]? with
               |none=>grind
               | some s=>
                 rw[e3]at ht;cases s with
                 |un=>cases ht
                 | s io o=>
                   obtain⟨q',e4,_⟩:=bnd ht;grind
          grind
         refine⟨v::vs,fun a=>Z1 a+Wc a,R,by rw[aS,aS,h1,a1],OsAt.cons.mpr ⟨v,vs,Z1,Wc,rfl,h2,a2,fun _=>rfl⟩,a3,fun a=>by rw[h3,a4];(try dsimp only);omega,cB.mpr ⟨nj,a5⟩,fun i hi=>?_,fun i hi=>?_,by rw[a8,cQ]⟩
         ·grind
         ·grind
theorem vQo{e1:Ev}:∀{js:List Nat} {os:List O} {vs:List V} {env:Ev} {σ:L2.St} {R Wc Y:Fp},SlAt K c F H env σ R->js.Nodup->(∀j∈js,env[j]?=some .un)->js.map (fun j=>σ[j]?)=vs.map (fun v=>some (some v))->OsAt K c F H os vs Wc->(∀a,Y a=R a+Wc a)->SlAt K c F H (putS e1 js os env) σ Y
 | [],os,vs,env,σ,R,Wc,Y,h,_,_,e,k,y=>by
   cases vs with
   |cons v vs=>cases e
   | nil=>
     cases os with
     |cons o os=>rw[OsAt.cons]at k;obtain⟨_,_,_,_,z,_⟩:=k;cases z
     | nil=>
       exact h.cast fun a=>by rw[y,k.2];omega
 | j::js,os,vs,env,σ,R,Wc,Y,h,hn,hu,e,k,y=>by
   cases vs with
   |nil=>cases e
   | cons v vs=>
     rw[aS,aS,List.cons.injEq]at e;cases os with
     |nil=>rw[OsAt.nil]at k;cases k.1
     | cons o os=>
       obtain⟨v',r,Z1,Z2,z,k1,k2,k3⟩:=k;cases z;rw[cB]at hn;obtain⟨x,Z0,R0,h1,h2,h3,h4⟩:=h.focus (hu j bT);have z0:∀a,Z0 a=0:=h2;have hx:x=some v:=by rw[e.1]at h1;exact(Option.some.inj h1).symm
       subst hx;have h5:=h4 F H (.s (flag e1 j) o) (some v) Z1 (fun a=>Z1 a+R a) (Same.refl _) (fun _ _=>rfl) k1 fun a=>by rw[h3,z0];omega
       rw[jX h1]at h5;simp only[putS];exact vQo h5 hn.2 (fun i hi=>by rw[bK fun z=>hn.1 (by rw[z];exact hi)];exact hu i (aO _ hi)) e.2 k2 fun a=>by rw[y,k3];omega
theorem qX8{e1:Ev}:∀{js:List Nat} {os:List O} {env:Ev} {i:Nat} {o:O},(putS e1 js os env)[i]?=some (.s true o)->(i∈js/\flag e1 i=true)\/env[i]?=some (.s true o)
 |[],os,env,i,o,h=>.inr (by simpa[putS] using h)
 |j::js,[],env,i,o,h=>.inr (by simpa[putS] using h)
 | j::js,o' ::os,env,i,o,h=>by
   simp only[putS]at h;rcases qX8 h with⟨h1,h2⟩|h1
   ·grind
   ·grind
theorem qX7{e1:Ev}:∀{js:List Nat} {os:List O} {env:Ev},(putS e1 js os env).length =env.length
 |[],os,env=>by simp[putS]
 |j::js,[],env=>by simp[putS]
 |j::js,o' ::os,env=>by simp only[putS];rw[qX7,cQ]
theorem vQi{u:V}{x:D}(h:DAt K c F u x):jZ K c F H (.s io (.fz x)) (some u) (fun _=>0):=by
 show OAt K c F H (.fz x) u (fun _=>0);rw[OAt.fz];grind
theorem vW8:∀{ls:List Nat} {lo:List O} {vs:List V} {L:Fp} {i:Nat} {o:O},OsAt K c F H lo vs L->ls.map (fun j=>σ[j]?)=vs.map (fun v=>some (some v))->getL ls lo i=some o->∃(v:V) (Z R:Fp),σ[i]?=some (some v)/\OAt K c F H o v Z/\∀a,L a=Z a+R a
 |[],lo,vs,L,i,o,h,e,g=>by cases lo <;> simp[getL]at g
 |j::js,[],vs,L,i,o,h,e,g=>by simp[getL]at g
 |j::js,o0::lo,[],L,i,o,h,e,g=>by cases e
 | j::js,o0::lo,v::vs,L,i,o,h,e,g=>by
   rw[aS,aS,List.cons.injEq]at e;obtain⟨v',r,Z1,Z2,z,b,cc,d⟩:=h;cases z;simp only[getL]at g;by_cases q:j=i
   ·rw [if_pos q] at g;cases g;exact⟨v,Z1,Z2,by rw[←q];exact e.1,b,d⟩
   ·rw [if_neg q] at g;obtain⟨w,Z,R,h1,h2,h3⟩:=vW8 cc e.2 g;exact⟨w,Z,fun a=>Z1 a+R a,h1,h2,fun a=>by rw[d,h3];(try dsimp only);omega⟩
theorem mkArgs_at{lo:List O}{lv:List V}{L:Fp}{Fc:Hp}(ol:OsAt K c F H lo lv L)(el:ls.map (fun j=>σ[j]?)=lv.map (fun v=>some (some v)))(tb:TabF c Fc)(lk:∀a,L a≠0->Fc a=H a)(sm:Same F Fc):∀{as:List Am} {hs:List Hn} {us:List V} {os:List O} {args:Ev} {Wc:Fp},zF K c F σ H us hs->OsAt K c F H os (yV as us) Wc->qQt ls lo as hs os=some args->
  SlAt K c Fc H args (us.map some) Wc/\args.length=as.length
 | [],[],us,os,args,Wc,hh,ho,e=>by
   cases e;cases us with
   |cons u us=>exact hh.elim
   | nil=>
     cases os with
     |cons o os=>rw[OsAt.cons]at ho;obtain⟨_,_,_,_,z,_⟩:=ho;cases z
     |nil=>rw[OsAt.nil]at ho;exact⟨⟨⟨rfl,tb⟩,ho.2⟩,rfl⟩
 | .v s::as, .d x::hs,us,os,args,Wc,hh,ho,e=>by
   cases us with
   |nil=>exact hh.elim
   | cons u us=>
     obtain⟨r,e1,e2⟩:=bnd e;cases e2;obtain⟨h1,h2⟩:=mkArgs_at ol el tb lk sm (as:=as) (hs:=hs) hh.2 ho e1;exact⟨⟨some u,us.map some,fun _=>0,Wc,rfl,vQi (DAt.same sm hh.1),h1,fun a=>by(try dsimp only);omega⟩,by rw[aK,aK,h2]⟩
 | .b s::as, .d x::hs,us,os,args,Wc,hh,ho,e=>by
   cases us with
   |nil=>exact hh.elim
   | cons u us=>
     obtain⟨r,e1,e2⟩:=bnd e;cases e2;obtain⟨h1,h2⟩:=mkArgs_at ol el tb lk sm (as:=as) (hs:=hs) hh.2 ho e1;exact⟨⟨some u,us.map some,fun _=>0,Wc,rfl,vQi (DAt.same sm hh.1),h1,fun a=>by(try dsimp only);omega⟩,by rw[aK,aK,h2]⟩
 | .b s::as, .p i π::hs,us,os,args,Wc,hh,ho,e=>by
   cases us with
   |nil=>exact hh.elim
   | cons u us=>
     obtain⟨o0,e0,e⟩:=bnd e;obtain⟨o,e5,e⟩:=bnd e;obtain⟨r,e1,e2⟩:=bnd e;cases e2;obtain⟨h1,h2⟩:=mkArgs_at ol el tb lk sm (as:=as) (hs:=hs) hh.2 ho e1;have hw:vZ H σ i π=some u:=hh.1;have dd:DAt K c Fc u (fzO o):=by
      obtain⟨v,Z,R,g1,g2,g3⟩:=vW8 ol el e0;obtain⟨v1,Z1,R1,k1,k2,k3,k4⟩:=OAt.focus g2 e5;have:v1=u:=by
       unfold vZ at hw;rw[g1]at hw;exact Option.some.inj (k1.symm.trans hw)
      subst this;exact k2.dat sm fun a z=>lk a (by rw[g3,k3];omega)
     exact⟨⟨some u,us.map some,fun _=>0,Wc,rfl,vQi dd,h1,fun a=>by(try dsimp only);omega⟩,by rw[aK,aK,h2]⟩
 | .io i::as, .p j []::hs,us,os,args,Wc,hh,ho,e=>by
   cases us with
   |nil=>exact hh.elim
   | cons u us=>
     cases os with
     |nil=>cases e
     | cons o os=>
       obtain⟨r,e1,e2⟩:=bnd e;cases e2;rw[show yV (.io i::as) (u::us)=u::yV as us from rfl,OsAt.cons]at ho;obtain⟨v,r',Z1,Z2,z,k1,k2,k3⟩:=ho;cases z;obtain⟨h1,h2⟩:=mkArgs_at ol el tb lk sm (as:=as) (hs:=hs) hh.2 k2 e1;exact⟨⟨some u,us.map some,Z1,Z2,rfl,k1.keep sm fun _ _=>rfl,h1,k3⟩,by rw[aK,aK,h2]⟩
 |.v _::_,.p _ _::_,_,_,_,_,_,_,e=>by cases e
 |.io _::_,.d _::_,_,_,_,_,_,_,e=>by cases e
 |.io _::_,.p _ (_::_)::_,_,_,_,_,_,_,e=>by cases e
 |[],_::_,_,_,_,_,_,_,e=>by cases e
 |.v _::_,[],_,_,_,_,_,_,e=>by cases e
 |.b _::_,[],_,_,_,_,_,_,e=>by cases e
 |.io _::_,[],_,_,_,_,_,_,e=>by cases e
theorem outOs_at:∀{as:List Am} {e:Ev} {us:List V} {os:List O} {W:Fp},SlAt K c F H e (us.map some) W->qWs as e=some os->∃W',OsAt K c F H os (yV as us) W' /\∀a,W' a<=W a
 | [],[],us,os,W,h,e=>by
   cases e;have:us=[]:=by simpa using h.1.1
   exact⟨fun _=>0,OsAt.nil.mpr ⟨rfl,fun _=>rfl⟩,fun _=>bO _⟩
 | .io i::as, .s true o::e,us,os,W,h,eq=>by
   obtain⟨r,e1,e2⟩:=bnd eq;cases e2;obtain⟨x,t,Z1,Z2,z,b,cc,d⟩:=h;cases us with
   |nil=>cases z
   | cons u us=>
     rw[aS,List.cons.injEq]at z;obtain⟨z1,z2⟩:=z;subst z1 z2;obtain⟨W',h1,h2⟩:=outOs_at cc e1;exact⟨fun a=>Z1 a+W' a,OsAt.cons.mpr ⟨u,_,Z1,W',rfl,b,h1,fun _=>rfl⟩,fun a=>by have:=h2 a;rw[d];(try dsimp only);omega⟩
 | .v _::as,s::e,us,os,W,h,eq=>by
   obtain⟨x,t,Z1,Z2,z,b,cc,d⟩:=h;cases us with
   |nil=>cases z
   | cons u us=>
     rw[aS,List.cons.injEq]at z;obtain⟨z1,z2⟩:=z;subst z2;obtain⟨W',h1,h2⟩:=outOs_at (as:=as) cc (by simpa[qWs] using eq);exact⟨W',h1,fun a=>by have:=h2 a;rw[d];omega⟩
 | .b _::as,s::e,us,os,W,h,eq=>by
   obtain⟨x,t,Z1,Z2,z,b,cc,d⟩:=h;cases us with
   |nil=>cases z
   | cons u us=>
     rw[aS,List.cons.injEq]at z;obtain⟨z1,z2⟩:=z;subst z2;obtain⟨W',h1,h2⟩:=outOs_at (as:=as) cc (by simpa[qWs] using eq);exact⟨W',h1,fun a=>by have:=h2 a;rw[d];omega⟩
 |.io _::_,.un ::_,_,_,_,_,eq=>by cases eq
 |.io _::_,.s false _::_,_,_,_,_,eq=>by cases eq
 |[],_::_,_,_,_,_,eq=>by cases eq
 |.v _::_,[],_,_,_,_,eq=>by cases eq
 |.b _::_,[],_,_,_,_,eq=>by cases eq
 |.io _::_,[],_,_,_,_,eq=>by cases eq
theorem yX{lo:List O}:∀{as:List Am} {hs:List Hn} {us:List V} {os:List O} {args:Ev},zF K c F σ H us hs->qQt ls lo as hs os=some args->(yF as hs).map (fun j=>σ[j]?)=(yV as us).map (fun v=>some (some v))
 |[],[],us,os,args,hh,_=>by cases us <;> rfl
 | .io i::as, .p j []::hs,us,os,args,hh,e=>by
   cases us with
   |nil=>exact hh.elim
   | cons u us=>
     cases os with
     |nil=>cases e
     | cons o os=>
       obtain⟨r,e1,_⟩:=bnd e;have w:vZ H σ j []=some u:=hh.1;have w2:σ[j]?=some (some u):=by
        unfold vZ at w;cases e:σ[j]? with
        |none=>grind
        | some y=>
          rw[e]at w;cases y with
          |none=>cases w
          | some v=>have:v=u:=by cases v <;> simpa [walk] using w
                    rw[this]
       simp only[yF,yV,aS];rw[w2,yX hh.2 e1]
 | .v s::as, .d x::hs,us,os,args,hh,e=>by
   cases us with
   |nil=>exact hh.elim
   | cons u us=>
     obtain⟨r,e1,_⟩:=bnd e;simp only[yF];exact yX hh.2 e1
 | .b s::as, .d x::hs,us,os,args,hh,e=>by
   cases us with
   |nil=>exact hh.elim
   | cons u us=>
     obtain⟨r,e1,_⟩:=bnd e;simp only[yF];exact yX hh.2 e1
 | .b s::as, .p i π::hs,us,os,args,hh,e=>by
   cases us with
   |nil=>exact hh.elim
   | cons u us=>
     obtain⟨o0,_,e⟩:=bnd e;obtain⟨o,_,e⟩:=bnd e;obtain⟨r,e1,_⟩:=bnd e;simp only[yF];exact yX hh.2 e1
 |.v _::_,.p _ _::_,_,_,_,_,e=>by cases e
 |.io _::_,.d _::_,_,_,_,_,e=>by cases e
 |.io _::_,.p _ (_::_)::_,_,_,_,_,e=>by cases e
 |[],_::_,_,_,_,_,e=>by cases e
 |.v _::_,[],_,_,_,_,e=>by cases e
 |.b _::_,[],_,_,_,_,e=>by cases e
 |.io _::_,[],_,_,_,_,e=>by cases e
end
noncomputable def qJ8(lo:List O)(r:O)(os:List O):Bool:=lo.isEmpty || (qXr r && flatOs os) || (lo.all dcFz && ndO r && ndOs os)
noncomputable def qQk(F:Fn)(as:List Am)(hs:List Hn)(env:Ev):Res (O×Ev):=(opt (qVc (j4 as hs) env)).bind fun t0=>(opt (qVc (yF as hs) t0.2)).bind fun t=>(opt (qQt (j4 as hs) t0.1 as hs t.1)).bind fun args=>(F args).bind fun q=>(opt (qWs as q.2)).bind fun os=>
 cond (qJ8 t0.1 q.1 os) (.ok (q.1,putS env (j4 as hs) t0.1 (putS env (yF as hs) os t.2))) .no
noncomputable def qN(F:Fn)(as:List Am):SE:=fun env=>(evOs (as.map Am.o) env).bind fun r=>qQk F as r.1 r.2
theorem vWu{e1:Ev}:∀{js:List Nat} {os:List O} {env:Ev} {i:Nat},i∉js->(putS e1 js os env)[i]?=env[i]?
 |[],os,env,i,_=>by cases os <;> rfl
 |j::js,[],env,i,_=>rfl
 | j::js,o::os,env,i,h=>by
   simp only[putS];rw[vWu fun z=>h (aO _ z),bK fun z=>h (by rw[z];exact bT)]
theorem qQq{K:aQ}{hs:List Hn}{F:Fn}(cf:Cf K c env σ H B W)(hh:zF K c (hide (hd2 B W) H) σ H us hs)(hw:(qQk F as hs env).wp (fun r=>∀u H' W' Z,Got K c env σ H B W r.2 H' W' Z r.1 u->Q u H') (erP K c E H B W)):spD K c as.length F us H Q E:=by
 obtain⟨t0,e0,w0⟩:=qU hw
 obtain⟨t,e1,w1⟩:=qU w0
 obtain⟨args,e2,w2⟩:=qU w1
 obtain⟨lo,eL⟩:=t0
 obtain⟨os,eR⟩:=t
 obtain⟨lv,L,R1,l1,l2,l3,l4,l5,l6,l7,l8⟩:=qX2 cf.at_ e0
 obtain⟨vs,Wc,R,a1,a2,a3,a4',a5,a6,a7,a8⟩:=qX2 l3 e1
 have a4:∀a,W a=L a+(Wc a+R a):=fun a=>by rw[l4,a4']
 have hv:=yX hh e2
 have hvs:vs=yV as us:=by
  have e:vs.map (fun v=>some (some v))=(yV as us).map (fun v=>some (some v)):=a1.symm.trans hv
  exact List.map_inj_right (f:=fun v:V=>some (some v)) (fun x y h=>Option.some.inj (Option.some.inj h)) |>.mp e
 subst hvs
 have nd:∀a,B a+(L a+(Wc a+R a))<=1:=fun a=>by have:=cf.nd a;rw[a4]at this;exact this
 let Bc:Fp:=fun a=>B a+R a
 have bc:∀a,Bc a=B a+R a:=fun _=>rfl
 have smc:Same (hide (hd2 B W) H) (hide (hd2 Bc Wc) H):=v7 fun a z=>by have:=a4 a;have:=bc a;dsimp only[hd2]at *;omega
 have Lv:∀a,L a≠0->hide (hd2 Bc Wc) H a=H a:=fun a q=>vD (by have:=nd a;have:=bc a;dsimp only[hd2];omega)
 obtain⟨sA,la⟩:=mkArgs_at l2 l1 (cf.at_.tab.same smc) Lv smc (as:=as) (hs:=hs) hh a2 e2
 have hbR:∀a,B a+(L a+R a)≠0->∃o,H a=some o/\Hb o:=fun a z=>cf.hbs (by rw[a4];omega)
 have cfc:Cf K c args (us.map some) H Bc Wc:=⟨sA,fun a=>by have:=nd a;rw[bc];omega,fun a z=>hbR a (by rw[bc]at z;omega)⟩
 refine⟨args,Bc,Wc,la,cfc,wp_mono (fun q w3 v H' W' Z g=>?_) (fun C fs he H2 Y ox sx er=>?_) (qY.mp w2)⟩
 rotate_left
 · -- an error:what lies aside stays
   have eq:hide (hd2 B fun a=>Y a+R a) H2=hide (hd2 Bc Y) H2:=zJ fun a=>by have:=bc a;dsimp only[hd2];omega
   exact he H2 (fun a=>Y a+R a) ox ⟨by rw[eq];exact smc.trans sx.same,fun a z=>sx.by_ a (by rw[bc];omega),sx.dom⟩ (by rw[eq];exact er)
 obtain⟨os',e3,w4⟩:=qU w3
 obtain⟨hf,w5⟩:=vL w4
 have cellR:∀a,R a≠0->H' a=H a:=fun a z=>g.st.by_ a (by rw[bc];omega)
 have cellL:∀a,L a≠0->H' a=H a:=fun a z=>by
  obtain⟨o,h1,_⟩:=hbR a (by omega)
  have h2:=g.st.same a o (by rw[Lv a z];exact h1)
  rw[(jD h2).2,h1]
 have cellB:∀a,B a≠0->H' a=H a:=fun a z=>g.st.by_ a (by rw[bc];omega)
 obtain⟨W2,b1,b2⟩:=outOs_at g.cf.at_ e3
 have newL:∀a,L a≠0->W' a+Z a=0:=fun a z=>by
  by_cases q0:W' a+Z a=0
  ·exact q0
  ·rcases g.st.new a (by dsimp only [hd2];omega) with q1 | q1
   ·have:=nd a;omega
   ·obtain⟨o,h1,_⟩:=hbR a (by omega);rw[q1]at h1;cases h1
 have nd4:∀a,B a+Z a+(L a+(R a+W2 a))<=1:=fun a=>by
  have n1:=g.cf.nd a
  have n2:=b2 a
  have n3:=nd a
  have n4:=bc a
  dsimp only[hd2]at n1
  by_cases z:L a=0
  ·omega
  ·have:=newL a z;omega
 have sm4:Same (hide (hd2 B W) H) (hide (hd2 (hd2 B Z) (fun a=>L a+(R a+W2 a))) H'):=fun a o h=>by
  obtain⟨z1,z2⟩:=jD h
  obtain⟨z3,z4⟩:=jD (g.st.same a o (smc a o h))
  rw[vD]
  ·exact z4
  ·have:=a4 a;have:=b2 a
   dsimp only[hd2]at *
   omega
 have kF:∀(P:HO->Prop),(∀a,L a≠0->∃o,H a=some o/\P o)->∀a o,hide (hd2 (hd2 Bc Z) W') H' a=some o->¬P o->hide (hd2 (hd2 B Z) (fun a=>L a+(R a+W2 a))) H' a=some o:=fun P hP a o q1 q2=>by
  obtain⟨z1,z2⟩:=jD q1
  rw[vD]
  ·exact z2
  ·have:=b2 a;have:=bc a
   by_cases z:L a=0
   ·dsimp only[hd2]at *;omega
   ·obtain⟨o2,h1,h2⟩:=hP a z
    rw[cellL a z,h1]at z2
    cases z2
    exact absurd h2 q2
 have fin:OAt K c (hide (hd2 (hd2 B Z) (fun a=>L a+(R a+W2 a))) H') H' q.1 v Z/\OsAt K c (hide (hd2 (hd2 B Z) (fun a=>L a+(R a+W2 a))) H') H' os' (yV as us) W2:=by
  unfold qJ8 at hf
  rw[Bool.or_eq_true,Bool.or_eq_true]at hf
  rcases hf with(hf|hf)|hf
  ·have hl0:lo=[]:=List.isEmpty_iff.mp hf
   subst hl0
   rw[OsAt.nil]at l2
   have sm:Same (hide (hd2 (hd2 Bc Z) W') H') (hide (hd2 (hd2 B Z) (fun a=>L a+(R a+W2 a))) H'):=v7 fun a z=>by have:=b2 a;have:=l2.2 a;have:=bc a;dsimp only[hd2]at *;omega
   exact⟨g.at_.keep sm fun _ _=>rfl,b1.keep sm fun _ _=>rfl⟩
  ·rw [aD] at hf
   have k:=kF Hb fun a z=>by obtain⟨o,h1,h2⟩:=hbR a (by omega);exact⟨o,h1,h2⟩
   exact⟨g.at_.flat k hf.1,b1.flat k hf.2⟩
  ·rw [aD,aD] at hf
   have hP:∀{lo:List O} {lv:List V} {L:Fp},lo.all dcFz=true->OsAt K c (hide (hd2 B W) H) H lo lv L->∀a,L a≠0->∃o,H a=some o/\isDK o:=fun {lo}=>by
    induction lo with
    |nil=>intro lv L _ h a z;rw[OsAt.nil]at h;exact absurd (h.2 a) z
    | cons o lo ih=>
      intro lv L hl h a z
      rw[dR,aD]at hl
      rw[OsAt.cons]at h
      obtain⟨v,r,Z1,Z2,_,p1,p2,p3⟩:=h
      by_cases y:Z1 a=0
      ·exact ih hl.2 p2 a (by rw[p3]at z;omega)
      ·exact vXl p1 hl.1 a y
   have k:=kF isDK (hP hf.1.1 l2)
   exact⟨g.at_.nd' k hf.1.2,b1.nd' k hf.2⟩
 have sl3:=vQo (e1:=env) (a3.keep sm4 cellR) a5 a6 a1 fin.2 (Y:=fun a=>R a+W2 a) fun _=>rfl
 have sl4:=vQo (e1:=env) sl3 l5 (fun j hj=>by
  by_cases z:j∈yF as hs
  · -- taken twice:not so
    exfalso
    have:eL[j]?=some .un :=l6 j hj
    have key:∀{js:List Nat} {env:Ev} {q:List O×Ev},env[j]?=some .un ->j∈js->qVc js env=some q->False:=by
     intro js
     induction js with
     |nil=>intro env q _ z;simp at z
     | cons i is ih=>
       intro env q hu z ht
       simp only[qVc]at ht
       by_cases hi:i=j
       ·subst hi;rw[hu]at ht;cases ht
       ·rcases aG.mp z with z | z
        ·exact hi z.symm
        ·cases e3:env[i]? with
         |none=>rw[e3]at ht;cases ht
         | some s=>
           rw[e3]at ht
           cases s with
           |un=>cases ht
           | s io o=>
             obtain⟨q',e4,_⟩:=bnd ht
             exact ih (by rw[bK hi];exact hu) z e4
    exact key this z e1
  ·rw[vWu z,a7 j z];exact l6 j hj) l1 (l2.keep sm4 cellL) (Y:=fun a=>L a+(R a+W2 a)) fun a=>by(try dsimp only);omega
 refine w5 v H' (fun a=>L a+(R a+W2 a)) Z ⟨⟨?_,cellB,fun a z=>?_,g.st.dom,fun a z1 z2=>?_,fun i o h=>?_,by rw[qX7,qX7,a8,l8]⟩,⟨sl4,fun a=>nd4 a,fun a z=>?_⟩,fin.1⟩
 ·rw [show hide (hd2 B (hd2 (fun a=>L a + (R a + W2 a)) Z)) H' =hide (hd2 (hd2 B Z) (fun a=>L a + (R a + W2 a))) H' from zJ fun a=>by dsimp only [hd2];omega]
  exact sm4
 ·by_cases q0:L a + R a=0
  ·rcases g.st.new a (by have:=b2 a;dsimp only [hd2] at *;omega) with q1 | q1
   ·exact .inl (by rw[a4];omega)
   ·exact .inr q1
  ·exact .inl (by rw[a4];omega)
 ·by_cases q1:L a=0
  ·by_cases q0:R a=0
   ·exact g.st.pin a (by rw[a4]at z1;omega) (by have:=b2 a;dsimp only[hd2]at *;omega)
   ·exact .of (cellR a q0)
  ·exact .of (cellL a q1)
 ·refine⟨?_,rfl⟩
  have fl:flag env i=true->∃o0,env[i]?=some (.s true o0):=fun h2=>by
   unfold flag at h2
   split at h2
   ·rename_i io o' e
    rw[h2]at e
    exact⟨o',e⟩
   ·cases h2
  rcases qX8 h with⟨h1,h2⟩|h1
  ·exact fl h2
  ·rcases qX8 h1 with⟨h1,h2⟩ | h1
   ·exact fl h2
   ·by_cases z:i∈yF as hs
    ·rw[a6 i z]at h1;cases h1
    ·rw [a7 i z] at h1
     by_cases y:i∈j4 as hs
     ·rw[l6 i y]at h1;cases h1
     ·rw[l7 i y]at h1;exact⟨o,h1⟩
 ·by_cases q0:B a=0
  ·exact g.cf.hb a (by have:=bc a;dsimp only[hd2]at *;omega)
  ·rw[cellB a q0];exact cf.hb a q0
theorem zQ6{K:aQ}{F:Fn}(h:tE K c E (qN F as) σ H Q):vKk (spD K c as.length F) [] E (tOs K c E (as.map Am.o)) σ H Q:=by
 obtain⟨env,B,W,cf,w⟩:=h;refine qVo cf (qY.mp w) fun r1 w1 us H1 W1 g=>?_
 rw[bL];exact qQq g.cf g.at_ (wp_mono (fun r q v H' W' Z g2=>q v H' W' Z (g2.back g.st)) (fun _ _ he=>he.back g.st) w1)
section
variable{X:Cx}{c:Nat->aZ}{E:XK}{k:Nat}{f:aZ}{fd:bZ}{ps:List Str}{x:Str}{p pos:Pos}{e:Expr}{es:List Expr}{F:Fn}{as:List Am}
theorem qQx(G:FnOk X.prog X.w X.K X.mg X.base (CXd X.prog X.w) k f fd ps (spD X.K c as.length F))(hr:Room k X.A)(hg:Gl X x)(hm:X.mg x=some (.ref f))(hk:cY X.K (.ref f)=true)(hb:wJ X.K fd ps [])(hx:zC (CXd X.prog X.w) X E)(ha:OsD X c E (e::es) (as.map Am.o))(hdb:(x == ("__debug__":Str))=false:=by decide)(he:aY (e::es) X.env=(false,eval e X.env)::aY es X.env:=by rfl)(hpl:(cV pos (aY es X.env)).any (·.1)=false:=by rfl):
  ED X c E (.Call (.Name x p) (e::es) [] pos) (qN F as):=
 ⟨PE.imp (zJ9 G hr hg hm hk hb .nil hx ha.h hdb he hpl) fun _ _ _ h=>zQ6 h⟩
theorem zZs(G:FnOk X.prog X.w X.K X.mg X.base (CXd X.prog X.w) k f fd ps (spD X.K c 0 F))(hr:Room k X.A)(hg:Gl X x)(hm:X.mg x=some (.ref f))(hk:cY X.K (.ref f)=true)(hb:wJ X.K fd ps [])(hx:zC (CXd X.prog X.w) X E)(hdb:(x == ("__debug__":Str))=false:=by decide):ED X c E (.Call (.Name x p) [] [] pos) (qN F []):=by
 refine⟨PE.imp (zVs G hr hg hm hk hb .nil hx hdb) fun σ H Q h=>?_⟩;obtain⟨env,B,W,cf,w⟩:=h;exact qQq (as:=[]) (hs:=[]) cf trivial w
theorem xI(h:PE X e (tVar i)):OD X c E e (Am.io i).o :=by
 refine⟨PE.imp h fun σ H Q=>?_⟩;rintro⟨env,B,W,h1,cf,e0,q⟩;simp only[pIo]at e0;cases e1:env[i]? with
 |none=>grind
 | some s=>
   rw[e1]at e0;cases s with
   |un=>cases e0
   | s io o=>
     cases e0;obtain⟨x,Z1,R,h1,h2,h3,h4⟩:=cf.focus e1;cases x with
     |none=>exact h2.elim
     |some v=>exact⟨v,h1,q v (by show vZ H σ i []=some v;unfold vZ;rw[h1];simp[walk])⟩
end
noncomputable def hasF(m:Str)(fs:List Str):Bool:=fs.any fun g=>decide (m=g)
noncomputable def qJl(env:Ev)(h:Hn)(C:Nat)(m:Str):Bool:=match rsv env h with
 |some (.nd (.obj C' fs) _)=>C' == C &&!hasF m fs
 |_=>false
noncomputable def jO(C:Nat)(m:Str)(F:Fn)(a0:Am)(as:List Am):SE:=fun env=>(evO a0.o env).bind fun r0=>cond (qJl r0.2 r0.1 C m && (r0.1.st || (as.map Am.o).all Oe.isP)) ((evOs (as.map Am.o) r0.2).bind fun r=>qQk F (a0::as) (r0.1::r.1) r.2) .no
theorem qWm:∀{fs:List Str} {vs:List V},hasF m fs=false->(fs.zip vs).lookup m=none
 |[],vs,_=>by simp
 |g::r,[],_=>by simp
 | g::r,v::vs,h=>by
   unfold hasF at h;rw[dC,Bool.or_eq_false_iff]at h;rw[bS,List.lookup,show(m == g)=false from beq_eq_false_iff_ne.mpr (of_decide_eq_false h.1)];exact qWm h.2
section
variable{K:aQ}{c:Nat->aZ}{E:XK}
theorem vVx{F:Fn}(h:tE K c E (jO C m F a0 as) σ H Q):vJ2 (c C) m (spD K c (a0::as).length F) [] E (tO K c E a0.o) (tOs K c E (as.map Am.o)) σ H Q:=by
 obtain⟨env,B,W,cf,w⟩:=h;refine qVg cf (qY.mp w) fun r0 w1 u H1 W1 g1=>?_
 obtain⟨hs,w2⟩:=vL w1;rw[aD]at hs;obtain⟨ho,hst⟩:=hs;have obj:∃a dx fs,u=.ref a/\H1 a=some (.ins (c C) dx fs)/\fs.lookup m=none:=by
  unfold qJl at ho;split at ho
  ·rename_i C' fs ds e;rw[aD,Bool.not_eq_true']at ho;obtain⟨p,vs,rfl,⟨h1,dx,h2⟩,h3⟩:=(j6 g1.cf g1.at_ e).un;have:C' =C:=by simpa using ho.1
   subst this;exact⟨p,dx,_,rfl,h2,qWm ho.2⟩
  ·cases ho
 obtain⟨a,dx,fs,rfl,h2,h3⟩:=obj;refine⟨a,dx,fs,rfl,h2,h3,?_⟩;refine qVo g1.cf (wp_mono (fun _ q=>q) (fun _ _ he=>he.back g1.st) (qY.mp w2)) fun r w3 us H2 W2 g2=>?_
 rw[bL];have hh:zF K c (hide (hd2 B W2) H2) σ H2 (.ref a::us) (r0.1::r.1):=by
  refine⟨?_,g2.at_⟩;cases e:r0.1.st with
  |true=>exact g1.at_.step g2.st.same e
  | false=>
    rw[e]at hst;obtain⟨e1,e2,_⟩:=g2.pu (by simpa using hst);rw[e1,e2];exact g1.at_
 exact qQq g2.cf hh (wp_mono (fun r q v H' W' Z g=>q v H' W' Z (g.back (g1.st.trans g2.st))) (fun _ _ he=>he.back (g1.st.trans g2.st)) w3)
end
section
variable{X:Cx}{c:Nat->aZ}{E:XK}{k:Nat}{f:aZ}{fd:bZ}{ps:List Str}{x m:Str}{p pos apos:Pos}{e o:Expr}{es:List Expr}{F:Fn}{a0:Am}{as:List Am}{C:Nat}
theorem vXf(ho:OD X c E o a0.o)(hc:Cls X.K (c C))(hm:Meth X.K (c C) m f)(G:FnOk X.prog X.w X.K X.mg X.base (CXd X.prog X.w) k f fd ps (spD X.K c (a0::as).length F))(hr:Room k X.A)(hb:wJ X.K fd ps [])(hx:zC (CXd X.prog X.w) X E)(ha:OsD X c E (e::es) (as.map Am.o))(hst:aY (e::es) X.env=(false,eval e X.env)::aY es X.env:=by rfl)(hpl:(cV pos (aY es X.env)).any (·.1)=false:=by rfl)(ht:eval (.Call (.Attribute o m apos) (e::es) [] pos) X.env=(do
   let ov ←eval o X.env;standAt apos.atName;let (f,first) ←holding [ov] (getMethod ov m pl);callWith pos f first (cV pos (aY (e::es) X.env)) (backToKw pos (keywordEach [] X.env))):=by rfl):
  ED X c E (.Call (.Attribute o m apos) (e::es) [] pos) (jO C m F a0 as):=
 ⟨PE.imp (vW0 ho.h hc hm G hr hb .nil hx ha.h hst hpl ht) fun _ _ _ h=>vVx h⟩
theorem zZp(ho:OD X c E o a0.o)(hc:Cls X.K (c C))(hm:Meth X.K (c C) m f)(G:FnOk X.prog X.w X.K X.mg X.base (CXd X.prog X.w) k f fd ps (spD X.K c 1 F))(hr:Room k X.A)(hb:wJ X.K fd ps [])(hx:zC (CXd X.prog X.w) X E)(ht:eval (.Call (.Attribute o m apos) [] [] pos) X.env=(do
   let ov ←eval o X.env;standAt apos.atName;let (f,first) ←holding [ov] (getMethod ov m pl);callWith pos f first (cV pos (aY [] X.env)) (backToKw pos (keywordEach [] X.env))):=by rfl):
  ED X c E (.Call (.Attribute o m apos) [] [] pos) (jO C m F a0 []):=
 ⟨PE.imp (zVo ho.h hc hm G hr hb .nil hx ht) fun _ _ _ h=>vVx (as:=[]) h⟩
end
noncomputable def popL(env:Ev)(n:Nat):Option (O×Ev):=match env[n]? with
 |some (.s _ o)=>some (o,env.take n)
 |_=>none
noncomputable def qWv(C:Nat)(F:Fn)(as:List Am):SE:=fun env=>(evOs (as.map Am.o) env).bind fun r=>(qQk F (.io r.2.length::as) (.p r.2.length []::r.1) (r.2 ++ [.s false (.ow (.obj C []) [])])).bind fun q=>match q.1 with
 |.fz .non =>opt (popL q.2 r.2.length)
 |_=>.no
section
variable{K:aQ}{c:Nat->aZ}{E:XK}
theorem qKm(sm:Same H H'):∀{π:List Nat} {v u:V},walk H v π=some u->walk H' v π=some u
 |[],v,u,h=>by cases v <;> simpa[walk] using h
 | j::π,v,u,h=>by
   cases v with
   | ref p=>
     simp only[walk]at h⊢;cases e:H p with
     |none=>grind
     | some o=>
       rw[e]at h;rw[sm p o e];dsimp only at h⊢;cases e2:(kids o)[j]? with
       |none=>grind
       |some v=>rw[e2]at h;exact qKm sm h
   |_=>cases h
theorem zF.push{F:Hp}{y:L2.St}(sF:Same F F')(sm:Same H H'):∀{us:List V} {hs:List Hn},zF K c F σ H us hs->zF K c F' (σ ++ y) H' us hs
 |[],[],_=>trivial
 | u::us,h::hs,a=>by
   refine⟨?_,zF.push sF sm a.2⟩;cases h with
   |d x=>exact DAt.same sF a.1
   | p i π=>
     have w:vZ H σ i π=some u:=a.1;show vZ H' (σ ++ y) i π=some u;unfold vZ at w⊢;cases e:σ[i]? with
     |none=>grind
     | some x=>
       rw[e]at w;rw[dX (aL.mp e).1,e];cases x with
       |none=>cases w
       |some v=>exact qKm sm w
 |[],_::_,a=>a.elim
 |_::_,[],a=>a.elim
theorem SlAt.pop{F:Hp}:∀{env:Ev} {σ:L2.St} {s:Slot} {x:Option V} {Z:Fp} {n:Nat},SlAt K c F H env (σ ++ [x]) Z->env[n]?=some s->n=σ.length->∃Z1 R,jZ K c F H s x Z1/\SlAt K c F H (env.take n) σ R/\∀a,Z a=Z1 a+R a
 |[],σ,s,x,Z,n,h,e,hn=>by simp at e
 | s0::env,[],s,x,Z,n,h,e,hn=>by
   subst hn;obtain⟨y,r,Z1,Z2,e1,b,cc,d⟩:=h;cases e1;cases e;have:env=[]:=by
    cases env with
    |nil=>rfl
    |cons s1 env=>obtain⟨_,_,_,_,z,_⟩:=cc;cases z
   subst this;exact⟨Z1,Z2,b,⟨⟨rfl,cc.1.2⟩,cc.2⟩,d⟩
 | s0::env,y::σ,s,x,Z,n,h,e,hn=>by
   subst hn;obtain⟨y',r,Z1,Z2,e1,b,cc,d⟩:=h;cases e1;obtain⟨Z3,R,h1,h2,h3⟩:=SlAt.pop (σ:=σ) cc (by simpa using e) rfl;exact⟨Z3,fun a=>Z1 a+R a,h1,⟨_,_,Z1,R,rfl,b,h2,fun _=>rfl⟩,fun a=>by rw[d,h3];(try dsimp only);omega⟩
theorem vVy{F:Fn}(h:tE K c E (qWv C F as) σ H Q):vKj (c C) (spD K c (as.length+1) F) [] E (tOs K c E (as.map Am.o)) σ H Q:=by
 obtain⟨env,B,W,cf,w⟩:=h;refine qVo cf (qY.mp w) fun r w1 us H1 W1 g=>?_
 intro x dx hx hdx hne;rw[bL];have sm1:Same H1 (upd H1 dx (.own x)):=.upd hdx;have hx1:upd H1 dx (.own x) x=none:=by rw[vQ fun z=>hne z.symm];exact hx
 have sm2:Same (upd H1 dx (.own x)) (upd (upd H1 dx (.own x)) x (.ins (c C) dx [])):=.upd hx1;have cf1:=g.cf.grow sm1;have gl:Got K c r.2 σ (upd H1 dx (.own x)) B W1 r.2 (upd (upd H1 dx (.own x)) x (.ins (c C) dx [])) W1 (one x) (.ow (.obj C []) ([].map .fz)) (.ref x):=Got.lay cf1 hx1 sm2 (k:=.obj C []) (vs:=[]) (ds:=[]) ⟨rfl,dx,upd_same⟩ .nil;generalize hH:upd (upd H1 dx (.own x)) x (.ins (c C) dx [])=H2 at *;have stG:Step r.2 σ H1 B W1 r.2 σ H2 (hd2 W1 (one x)):=(Step.grow g.cf sm1).trans gl.st;have lenσ:σ.length=r.2.length:=g.cf.len.symm;have hid:hide (hd2 (hd2 B (one x)) W1) H2=hide (hd2 B (hd2 W1 (one x))) H2:=zJ fun a=>by dsimp only[hd2];omega
 have cfP:Cf K c (r.2 ++ [.s false (.ow (.obj C []) [])]) (σ ++ [some (.ref x)]) H2 B (hd2 W1 (one x)):=by
  refine⟨?_,fun a=>by have:=gl.cf.nd a;dsimp only[hd2]at *;omega,fun a z=>gl.cf.hb a (by dsimp only[hd2];omega)⟩;rw[←hid];refine(gl.cf.at_.append (env' :=[.s false (.ow (.obj C []) [])]) (σ' :=[some (.ref x)]) (Z' :=one x) ⟨some (.ref x),[],one x,fun _=>0,rfl,gl.at_,⟨⟨rfl,gl.cf.at_.tab⟩,fun _=>rfl⟩,fun a=>by(try dsimp only);omega⟩)
 have hh:zF K c (hide (hd2 B (hd2 W1 (one x))) H2) (σ ++ [some (.ref x)]) H2 (.ref x::us) (.p r.2.length []::r.1):=by
  refine⟨?_,zF.push stG.same (sm1.trans sm2) g.at_⟩;show vZ H2 (σ ++ [some (.ref x)]) r.2.length []=some (.ref x);unfold vZ;rw[eX (by omega),show r.2.length - σ.length=0 by omega];rfl
 refine qQq (as:=.io r.2.length::as) cfP hh (wp_mono (fun q w2 v H' W' Z gq=>?_) (fun C fs he=>?_) (qY.mp w1));rotate_left
 ·exact(he.back g.st).back stG
 obtain⟨q1,q2⟩:=q;cases q1 with
 |ow k os=>exact w2.elim
 | fz d=>
   cases d with
   | non=>
     have ev:=gq.at_;have hv:v=.non :=by cases ev.1;rfl
     refine⟨hv,?_⟩;obtain⟨p,e1,w3⟩:∃p,popL q2 r.2.length=some p/\∀u H' W' Z,Got K c env σ H B W p.2 H' W' Z p.1 u->Q u H' :=by
      cases e:popL q2 r.2.length with
      |none=>dsimp only at w2;rw[e]at w2;exact w2.elim
      |some p=>dsimp only at w2;rw[e]at w2;exact⟨p,rfl,w2⟩
     unfold popL at e1;split at e1
     ·rename_i io o e2;cases e1;obtain⟨Z1,R,h1,h2,h3⟩:=SlAt.pop gq.cf.at_ e2 lenσ.symm;have zz:∀a,Z a=0:=ev.2;have hd1:hide (hd2 (hd2 B Z) W') H' =hide (hd2 (hd2 B Z1) R) H' :=zJ fun a=>by dsimp only[hd2];rw[h3,zz];omega
      have hd3:hide (hd2 B (hd2 R Z1)) H' =hide (hd2 B (hd2 W' Z)) H' :=zJ fun a=>by dsimp only[hd2];rw[h3,zz];omega
      refine w3 (.ref x) H' R Z1 ⟨(g.st.trans stG).trans ⟨by rw[hd3];exact gq.st.same,gq.st.by_,fun a z=>gq.st.new a (by dsimp only[hd2]at *;rw[h3];omega),gq.st.dom,fun a z1 z2=>gq.st.pin a z1 (by dsimp only[hd2]at *;rw[h3];omega),fun i o' h=>?_,?_⟩,⟨by rw[←hd1];exact h2,fun a=>by have:=gq.cf.nd a;dsimp only[hd2]at *;rw[h3,zz]at this;omega,fun a z=>?_⟩,by rw[←hd1];exact h1⟩
      ·have hi:i<r.2.length:=by
        grind
       rw[List.getElem?_take_of_lt hi]at h;obtain⟨⟨o0,k1⟩,k2⟩:=gq.st.io i o' h;grind
      ·grind
      ·by_cases q0:B a=0
       ·exact h1.hb (by dsimp only[hd2]at z;omega)
       ·exact gq.cf.hb a (by dsimp only[hd2];omega)
     ·cases e1
   |_=>exact w2.elim
end
section
variable{X:Cx}{c:Nat->aZ}{E:XK}{k:Nat}{f:aZ}{fd:bZ}{ps:List Str}{x:Str}{p pos:Pos}{e:Expr}{es:List Expr}{F:Fn}{as:List Am}{C:Nat}
theorem zW7(M:Mk X.K (c C) f)(G:FnOk X.prog X.w X.K X.mg X.base (CXd X.prog X.w) k f fd ps (spD X.K c (as.length+1) F))(hr:Room (k+1) X.A)(hg:Gl X x)(hm:X.mg x=some (.ref (c C)))(hb:wJ X.K fd ps [])(hx:zC (CXd X.prog X.w) X E)(ha:OsD X c E (e::es) (as.map Am.o))(hdb:(x == ("__debug__":Str))=false:=by decide)(he:aY (e::es) X.env=(false,eval e X.env)::aY es X.env:=by rfl)(hpl:(cV pos (aY es X.env)).any (·.1)=false:=by rfl):
  ED X c E (.Call (.Name x p) (e::es) [] pos) (qWv C F as):=
 ⟨PE.imp (zJ6 M G hr hg hm hb .nil hx ha.h hdb he hpl) fun _ _ _ h=>vVy h⟩
theorem zZq(M:Mk X.K (c C) f)(G:FnOk X.prog X.w X.K X.mg X.base (CXd X.prog X.w) k f fd ps (spD X.K c 1 F))(hr:Room (k+1) X.A)(hg:Gl X x)(hm:X.mg x=some (.ref (c C)))(hb:wJ X.K fd ps [])(hx:zC (CXd X.prog X.w) X E)(hdb:(x == ("__debug__":Str))=false:=by decide):ED X c E (.Call (.Name x p) [] [] pos) (qWv C F []):=
 ⟨PE.imp (zVp M G hr hg hm hb .nil hx hdb) fun _ _ _ h=>vVy (as:=[]) h⟩
end
noncomputable abbrev lim:Nat:=1000000
theorem qJ9(h:n<=lim):n<aA:=Nat.lt_of_le_of_lt h (by decide)
section
variable{K:aQ}{c:Nat->aZ}{env env' :Ev}{σ:L2.St}{H H' :Hp}{B W Z:Fp}{i:Nat}{π:List Nat}{k:Kd}{os:List O}
theorem Cf.mut(cf:Cf K c env σ H (hd2 B Z) W)(e:getE env i π=some (.ow k os)):∃p vs Zk,vZ H σ i π=some (.ref p)/\OwAt c H p k vs/\OsAt K c (hide (hd2 (hd2 B Z) W) H) H os vs Zk/\
  ∀k' os' vs' Zk' Z2 ho,OsAt K c (hide (hd2 (hd2 B Z) W) H) H os' vs' Zk' ->(∀a,Zk' a+Z2 a<=Zk a+Z a)->OwAt c (upd H p ho) p k' vs' ->Hb ho->Pin (H p) (some ho)->
   ∃W',Cf K c (setE env i π (.ow k' os')) σ (upd H p ho) (hd2 B Z2) W' /\Step env σ H B (hd2 W Z) (setE env i π (.ow k' os')) σ (upd H p ho) (hd2 W' Z2)/\
    ∀o v,OAt K c (hide (hd2 (hd2 B Z) W) H) H o v Z2->OAt K c (hide (hd2 (hd2 B Z2) W') (upd H p ho)) (upd H p ho) o v Z2:=by
 obtain⟨v1,Z1,R,h1,h2,h3,h4⟩:=cf.place e;rw[OAt.ow]at h2;obtain⟨p,vs,Zk,rfl,b,cc,d⟩:=h2;refine⟨p,vs,Zk,h1,b,cc,fun k' os' vs' Zk' Z2 ho hk hz hp hb pn=>?_⟩;have nd:∀a,B a+Z a+(one p a+Zk a+R a)<=1:=fun a=>by have:=cf.nd a;rw[h3,d]at this;dsimp only[hd2]at this;omega
 have np:B p=0/\Z p=0/\Zk p=0/\R p=0:=by have:=nd p;rw[jR]at this;omega
 have nz:Zk' p=0/\Z2 p=0:=by have:=hz p;omega
 have hid:∀a,(hd2 (hd2 B Z) W) a=B a+Z a+(one p a+Zk a+R a):=fun a=>by dsimp only[hd2];rw[h3,d]
 have sm:Same (hide (hd2 (hd2 B Z) W) H) (hide (hd2 (hd2 B Z2) (fun a=>(one p a+Zk' a)+R a)) (upd H p ho)):=zV fun a o z q=>by
  rw[hid]at z;have:=hz a;have ne:a≠p:=fun y=>by rw[y,jR]at z;omega
  exact⟨by dsimp only[hd2];omega,by rw[vQ ne];exact q⟩
 have cell:∀a,a≠p->upd H p ho a=H a:=fun a z=>vQ z
 refine⟨fun a=>(one p a+Zk' a)+R a,h4 (upd H p ho) (hd2 B Z2) _ (.ow k' os') (fun a=>one p a+Zk' a) sm (fun _=>rfl) (fun a z=>cell a fun y=>by rw[y]at z;omega) (OAt.ow.mpr ⟨p,vs',Zk',rfl,hp,hk.keep sm fun a z=>cell a fun y=>by rw[y]at z;omega,fun _=>rfl⟩) (fun a=>?_) (fun a z=>?_),⟨?_,fun a z=>cell a fun y=>by rw[y]at z;omega,fun a z=>.inl ?_,fun a z=>?_,fun a z1 z2=>?_,fun j o q=>⟨qZg q,rfl⟩,qQm⟩,fun o v h=>h.keep sm fun a z=>cell a fun y=>by rw[y]at z;omega⟩
 ·have:=nd a;have:=hz a;dsimp only[hd2];omega
 ·by_cases y:a=p
  ·subst y;exact⟨ho,upd_same,hb⟩
  ·rw [cell a y];by_cases q:B a=0
   ·exact cf.hbs (by have h5:=hid a;have h6:=hz a;dsimp only[hd2]at h5 z⊢;omega)
   ·exact cf.hb a (by dsimp only[hd2];omega)
 ·rw [show hide (hd2 B (hd2 W Z)) H=hide (hd2 (hd2 B Z) W) H from zJ fun a=>by dsimp only [hd2];omega,show hide (hd2 B (hd2 (fun a=>(one p a + Zk' a) + R a) Z2)) (upd H p ho)=hide (hd2 (hd2 B Z2) (fun a=>(one p a + Zk' a) + R a)) (upd H p ho) from zJ fun a=>by dsimp only [hd2];omega];exact sm
 ·have:=hz a;dsimp only[hd2]at *;rw[h3,d];omega
 ·by_cases y:a=p
  ·subst y;rw[upd_same]at z;cases z
  ·rw[cell a y]at z;exact z
 ·by_cases y:a=p
  ·subst y;rw[upd_same];exact pn
  ·exact .of (cell a y)
noncomputable def stab(env env1:Ev)(i:Nat):List Nat->Bool
 |[]=>true
 | [j]=>match env[i]?,env1[i]? with
   | some (.s _ (.ow (.obj _ fs) _)),some (.s _ (.ow _ _))=>match fs[j]? with
     |some f=>pinF f
     |none=>false
   |_,_=>false
 |_=>false
theorem vV0{K:aQ}{F:Hp}{os:List O}{x:Option V}{Z1:Fp}(h:jZ K c F H (.s io (.ow kd os)) x Z1):∃p vs,x=some (.ref p)/\OwAt c H p kd vs/\Z1 p≠0:=by
 cases x with
 |none=>exact h.elim
 | some v=>
   have h' :OAt K c F H (.ow kd os) v Z1:=h;obtain⟨p,vs,Z',rfl,b,_,d⟩:=h';exact⟨p,vs,rfl,b,by rw[d,jR];omega⟩
theorem qWf{Y:Fp}{u:V}(cf:Cf K c env σ H B W)(st:Step env σ H B W env' σ H' Y)(cf' :Cf K c env' σ H' B' W')(hY:∀a,W' a≠0->Y a≠0)(hs:stab env env' i π=true)(h:vZ H σ i π=some u):vZ H' σ i π=some u:=by
 cases π with
 | nil=>
   unfold vZ at h⊢;cases e:σ[i]? with
   |none=>rw[e]at h;cases h
   | some x=>
     rw[e]at h;cases x with
     |none=>cases h
     |some v=>simpa[walk] using h
 | cons j π=>
   cases π with
   |cons _ _=>simp[stab]at hs
   | nil=>
     simp only[stab]at hs;split at hs
     ·rename_i io C fs os io' k' os' e1 e2;split at hs
      ·rename_i f ef;obtain⟨x,Z1,R,h1,h2,h3,_⟩:=cf.focus e1;obtain⟨x',Z1',R',h1',h2',h3',_⟩:=cf'.focus e2;obtain⟨p,vs,rfl,⟨b1,dx,b2⟩,zp⟩:=vV0 h2;obtain⟨p',vs',rfl,_,zp'⟩:=vV0 h2';rw[h1]at h1';cases h1';have pn:=st.pin p (by rw[h3];omega) (hY p (by rw[h3'];omega));rw[b2]at pn;obtain⟨fs',e3,q⟩:=pn;unfold vZ at h⊢;rw[h1]at h⊢;simp only[walk,b2,kids,qVr b1]at h;cases ev:vs[j]? with
       |none=>rw[ev]at h;cases h
       | some v=>
         rw[ev]at h;have hv:v=u:=by cases v <;> simpa[walk] using h
         subst hv;have hz:(fs.zip vs)[j]?=some (f,v):=by rw[List.getElem?_zip_eq_some];exact⟨ef,ev⟩
         have h5:=q j f v hs hz;have h6:(kids (.ins (c C) dx fs'))[j]?=some v:=by
          show(fs'.map (·.2))[j]?=some v;rw[List.getElem?_map,h5];rfl
         show walk H' (.ref p) [j]=some v;rw[qZj e3 h6];simp[walk]
      ·cases hs
     ·cases hs
end
noncomputable def qZs(env:Ev)(i:Nat)(π:List Nat):Option (List O):=match getE env i π with
 |some (.ow .lst os)=>some os
 |_=>none
theorem qZo{os:List O}(h:qZs env i π=some os):getE env i π=some (.ow .lst os):=by
 unfold qZs at h;grind
noncomputable def eMu1(s:SP)(a:SE)(f:List O->O->Option (O×List O)):SE:=fun env=>(opt (s env)).bind fun h=>match h with
 |.p i π=>(opt (qZs env i π)).bind fun _=>(a env).bind fun r=>(opt (qZs r.2 i π)).bind fun os=>cond (stab env r.2 i π) ((opt (f os r.1)).bind fun z=>.ok (z.1,setE r.2 i π (.ow .lst z.2))) .no
 |_=>.no
noncomputable def apF(os:List O)(x:O):Option (O×List O):=cond (decide (os.length<=lim)) (some (.fz .non,os ++ [x])) none
noncomputable def exF(os:List O)(x:O):Option (O×List O):=match x with
 |.ow .lst ys=>cond (decide (os.length+ys.length<=lim)) (some (.fz .non,os ++ ys)) none
 |_=>none
noncomputable def PrM(K:aQ)(c:Nat->aZ)(r:V->List V->Hp->VK->Prop)(f:List O->O->Option (O×List O)):Prop:=∀(p:aZ) (vs:List V) (u:V) (F H:Hp) (os os' :List O) (x o:O) (Zk Z:Fp) (Q:VK),H p=some (.lst vs)->OsAt K c F H os vs Zk->OAt K c F H x u Z->f os x=some (o,os')->
 (∀v vs' Zk',o=.fz .non ->v=.non ->OsAt K c F H os' vs' Zk' ->(∀a,Zk' a<=Zk a+Z a)->Q v (upd H p (.lst vs')))->r (.ref p) [u] H Q
section
variable{K:aQ}{c:Nat->aZ}{E:XK}
theorem vX8:PrM K c rAppend apF:=fun p vs u F H os os' x o Zk Z Q h1 h2 h3 e q=>by
 obtain⟨q1,q2⟩:=zZ e;cases q2;exact⟨p,vs,u,rfl,rfl,h1,by rw[h2.length];exact qJ9 (of_decide_eq_true q1),q .non _ _ rfl rfl (h2.append (OsAt.one.mpr h3)) fun a=>aB _⟩
theorem vX7:PrM K c rExtend exF:=fun p vs u F H os os' x o Zk Z Q h1 h2 h3 e q=>by
 unfold exF at e;split at e
 ·obtain⟨q1,q2⟩:=zZ e;cases q2;rw[OAt.ow]at h3;obtain⟨b,ws,Z',rfl,g1,g2,g3⟩:=h3;exact⟨p,b,vs,ws,rfl,rfl,h1,g1,by rw[h2.length,g2.length];exact dB (qJ9 (of_decide_eq_true q1)),q .non _ _ rfl rfl (h2.append g2) fun a=>by(try dsimp only);rw[g3];omega⟩
 ·cases e
theorem vWi{r:V->List V->Hp->VK->Prop}{f:List O->O->Option (O×List O)}(hp:PrM K c r f){s:SP}{a:SE}(h:tE K c E (eMu1 s a f) σ H Q):tBM K "list" r (tP K c s) (qKe (tE K c E a) tNil) σ H Q:=by
 obtain⟨env,B,W,cf,w⟩:=h;obtain⟨h1,e0,w1⟩:=qU w;refine⟨env,B,W,h1,cf,e0,fun u hu=>?_⟩;cases h1 with
 |d x=>exact w1.elim
 | p i π=>
   obtain⟨os0,e1,w2⟩:=qU w1;have hu' :vZ H σ i π=some u:=hu;obtain⟨v1,Z1,R,g1,g2,g3,g4⟩:=cf.place (qZo e1);rw[hu']at g1;cases g1;obtain⟨p,vs0,Z0,rfl,b,_,_⟩:=g2;refine⟨.inl ⟨rfl,vs0,SqL.of b⟩,env,B,W,cf,wp_mono (fun r1 w3 x H1 W1 Z g=>?_) (fun _ _ he=>he) (qY.mp w2)⟩;obtain⟨os,e2,w4⟩:=qU w3;obtain⟨hs,w5⟩:=vL w4;obtain⟨z,e3,w6⟩:=qU w5;have hw:=qWf cf g.st g.cf (fun a z=>by dsimp only[hd2];omega) hs hu';obtain⟨p',vs,Zk,k1,k2,k3,k4⟩:=g.cf.mut (qZo e2);rw[hw]at k1;cases k1;refine hp p vs x _ H1 os z.2 r1.1 z.1 Zk Z Q k2 k3 g.at_ e3 fun v vs' Zk' ho hv hk hz=>?_
   subst hv;obtain⟨W',c1,c2,c3⟩:=k4 .lst z.2 vs' Zk' (fun _=>0) (.lst vs') hk (fun a=>by have:=hz a;omega) upd_same trivial (by have k2' :H1 p=some (.lst vs):=k2;rw[k2'];trivial);refine w6 .non _ W' (fun _=>0) ⟨g.st.trans c2,c1,by rw[ho,OAt.fz];exact⟨.non,fun _=>rfl⟩⟩
end
section
variable{X:Cx}{c:Nat->aZ}{E:XK}{o e:Expr}{apos cpos:Pos}{s:SP}{a:SE}
theorem vY1(ho:OD X c E o (.p s))(ha:ED X c E e a)(hbase:attributeBase o "append" X.env (eval o X.env)=eval o X.env:=by rfl)(hfew:((cV cpos (aY [e] X.env)).all (fun x=>!x.1) && (backToKw cpos (keywordEach [] X.env)).all (fun x=>x.1.isSome) && decide (([e]:List Expr).length+([]:List Keyword).length+(if([]:List Keyword).isEmpty then 0 else 1)<30))=true:=by rfl)(hline:(apos.endLine == cpos.line)=true:=by rfl)(hs:aY [e] X.env=(false,eval e X.env)::aY [] X.env:=by rfl)(hplain:(cV cpos (aY [] X.env)).any (·.1)=false:=by rfl):
  ED X c E (.Call (.Attribute o "append" apos) [e] [] cpos) (eMu1 s a apF):=
 ⟨PE.imp (vKs PySem.F.plainAttrs_list PySem.F.slot_list_append PySem.F.type_list_append qWl ho.h (yH ha.h qZ7 hs) hbase hfew hline hs hplain) fun _ _ _ h=>vWi vX8 h⟩
theorem vYz(ho:OD X c E o (.p s))(ha:ED X c E e a)(hbase:attributeBase o "extend" X.env (eval o X.env)=eval o X.env:=by rfl)(hfew:((cV cpos (aY [e] X.env)).all (fun x=>!x.1) && (backToKw cpos (keywordEach [] X.env)).all (fun x=>x.1.isSome) && decide (([e]:List Expr).length+([]:List Keyword).length+(if([]:List Keyword).isEmpty then 0 else 1)<30))=true:=by rfl)(hline:(apos.endLine == cpos.line)=true:=by rfl)(hs:aY [e] X.env=(false,eval e X.env)::aY [] X.env:=by rfl)(hplain:(cV cpos (aY [] X.env)).any (·.1)=false:=by rfl):
  ED X c E (.Call (.Attribute o "extend" apos) [e] [] cpos) (eMu1 s a exF):=
 ⟨PE.imp (vKs PySem.F.plainAttrs_list PySem.F.slot_list_extend PySem.F.type_list_extend vYk ho.h (yH ha.h qZ7 hs) hbase hfew hline hs hplain) fun _ _ _ h=>vWi vX7 h⟩
end
section
variable{κ α:Type}[DecidableEq κ]
theorem qKu{k:κ}:∀{ks:List κ},kidx k ks=none->k∉ks
 |[],_=>by simp
 | g::r,h=>by
   simp only[kidx]at h;by_cases q:g=k
   ·rw[if_pos q]at h;cases h
   ·rw [if_neg q] at h;have:=qKu (Option.map_eq_none_iff.mp h);rw[aG];exact fun z=>z.elim (fun z=>q z.symm) this
theorem vXt{k:κ}:∀{ks:List κ} {vs:List α},ks.length=vs.length->((ks.zip vs).any fun kv=>decide (kv.1=k))=(kidx k ks).isSome
 |[],[],_=>rfl
 | g::r,w::vs,h=>by
   rw[bS,dC,vXt (Nat.succ.inj h)];simp only[kidx];by_cases q:g=k
   ·rw[if_pos q,decide_eq_true q];rfl
   ·rw[if_neg q,decide_eq_false q];cases kidx k r <;> rfl
 |[],_::_,h=>by cases h
 |_::_,[],h=>by cases h
theorem qYn{k:κ}{v:α}:∀{ks:List κ} {vs:List α},k∉ks->(ks.zip vs).map (fun kv=>if kv.1=k then(kv.1,v) else kv)=ks.zip vs
 |[],vs,_=>by simp
 |g::r,[],_=>by simp
 | g::r,w::vs,h=>by
   rw[aG]at h;rw[bS,aS,if_neg fun z=>h (.inl z.symm),qYn fun z=>h (.inr z)]
theorem vW2{k:κ}{v:α}:∀{ks:List κ} {vs:List α} {j:Nat},ks.Nodup->kidx k ks=some j->(ks.zip vs).map (fun kv=>if kv.1=k then(kv.1,v) else kv)=ks.zip (vs.set j v)
 |[],vs,j,_,h=>by cases h
 |g::r,[],j,_,h=>by simp
 | g::r,w::vs,j,hn,h=>by
   rw[cB]at hn;simp only[kidx]at h;by_cases q:g=k
   ·rw [if_pos q] at h;cases h;rw[bS,aS,if_pos q,qYn (by rw[←q];exact hn.1)];rfl
   ·rw [if_neg q] at h;obtain⟨i,h1,rfl⟩:=bX.mp h;rw[bS,aS,if_neg q,vW2 hn.2 h1];rfl
theorem qX1{k:κ}{v:α}:∀{ks:List κ} {vs:List α},ks.length=vs.length->(ks ++ [k]).zip (vs ++ [v])=ks.zip vs ++ [(k,v)]
 |[],[],_=>rfl
 | g::r,w::vs,h=>by
   rw[List.cons_append,List.cons_append,bS,qX1 (Nat.succ.inj h)];rfl
 |[],_::_,h=>by cases h
 |_::_,[],h=>by cases h
end
theorem zVg{k:Key}{ks:List Key}(hl:ks.length=vs.length)(hn:ks.Nodup):putK (ks.zip vs) k v=match kidx k ks with
  |some j=>ks.zip (vs.set j v)
  |none=>(ks ++ [k]).zip (vs ++ [v]):=by
 unfold putK;rw[vXt hl];cases e:kidx k ks with
 |none=>rw[if_neg (by simp),qX1 hl]
 |some j=>rw[if_pos (by simp),vW2 hn e]
theorem vJq{k:κ}{ks:List κ}(h:ks.Nodup)(n:k∉ks):(ks ++ [k]).Nodup :=by
 rw[List.nodup_append];refine⟨h,by simp,fun a ha b hb e=>?_⟩;rw[bJ]at hb;exact n (by rw[←hb,←e];exact ha)
noncomputable def putO(ks:List Key)(os:List O)(k:Key)(o:O):O:=match kidx k ks with
 |some j=>.ow (.dct ks) (os.set j o)
 |none=>.ow (.dct (ks ++ [k])) (os ++ [o])
noncomputable def qXt(env:Ev)(i:Nat)(π:List Nat):Option (List Key×List O):=match getE env i π with
 |some (.ow (.dct ks) os)=>some (ks,os)
 |_=>none
theorem qKx{q:List Key×List O}(h:qXt env i π=some q):getE env i π=some (.ow (.dct q.1) q.2):=by
 unfold qXt at h;split at h
 ·rename_i e;cases h;exact e
 ·cases h
noncomputable def qKf(s k:SP)(a:SE):SS:=fun env=>(a env).bind fun r=>(opt (s r.2)).bind fun h=>(opt (k r.2)).bind fun hk=>(opt (rsv r.2 hk)).bind fun y=>(opt (qVl y)).bind fun key=>match h with
 |.p i π=>(opt (qXt r.2 i π)).bind fun q=>cond (decide (q.2.length<=lim)) (.ok (.nx (setE r.2 i π (putO q.1 q.2 key r.1)))) .no
 |.d _=>.no
noncomputable def sSetI(s k:SP)(a:SE):SS:=fun env=>(a env).bind fun r=>(opt (s r.2)).bind fun h=>(opt (k r.2)).bind fun hk=>(opt (rsv r.2 hk)).bind fun y=>(opt (xT y)).bind fun n=>match h with
 |.p i π=>(opt (qZs r.2 i π)).bind fun os=>(opt (ixN os.length n)).bind fun j=>.ok (.nx (setE r.2 i π (.ow .lst (os.set j r.1))))
 |.d _=>.no
theorem OsAt.put{K:aQ}{F:Hp}{os:List O}{Zk:Fp}{o:O}{u:V}(h:OsAt K c F H os vs Zk)(hj:j<os.length)(ho:OAt K c F H o u Z):∃Y,OsAt K c F H (os.set j o) (vs.set j u) Y/\∀a,Y a<=Zk a+Z a:=by
 obtain⟨v,Z1,R,h1,h2,h3,h4⟩:=h.focus (aF hj);exact⟨_,h4 F H o u Z (Same.refl _) (fun _ _=>rfl) ho,fun a=>by rw[h3];(try dsimp only);omega⟩
section
variable{X:Cx}{c:Nat->aZ}{E:XK}{o k e:Expr}{pos pos' :Pos}{s sk:SP}{a:SE}
theorem zJg(hu:X.A.units+1<cG)(ho:OD X c E o (.p s))(hk:OD X c E k (.p sk))(hv:ED X c E e a)(hs:swapsWith e (some (.Subscript o k pos')) pos.line X.env=pure false:=by rfl):
  SD X c E (.Assign [.Subscript o k pos'] e pos) (qKf s sk a):=by
 refine⟨PS.imp (zJu hu ho.h hk.h hv.h hs) fun D σ H=>?_⟩;rintro⟨env,B,W,cf,w⟩;refine⟨env,B,W,cf,wp_mono (fun r w1 u H1 W1 Z g=>?_) (fun _ _ he=>he) (qY.mp w)⟩;obtain⟨h,e1,w2⟩:=qU w1;obtain⟨hk1,e2,w3⟩:=qU w2;obtain⟨y,e3,w4⟩:=qU w3;obtain⟨key,e4,w5⟩:=qU w4;refine⟨r.2,_,W1,h,g.cf,e1,fun x hx=>⟨r.2,_,W1,hk1,g.cf,e2,fun yv hy=>?_⟩⟩;cases h with
 |d x=>exact w5.elim
 | p i π=>
   obtain⟨q,e5,w6⟩:=qU w5;obtain⟨hl,w7⟩:=vL w6;have hx' :vZ H1 σ i π=some x:=hx;obtain⟨p,vs,Zk,k1,⟨k2,k3,k4⟩,k5,k6⟩:=g.cf.mut (qKx e5);rw[hx']at k1;cases k1;rw[qJv (j6 g.cf hy e3) e4];have hz:(q.1.zip vs).length<aA:=by rw[List.length_zip,k5.length];exact Nat.lt_of_le_of_lt (Nat.min_le_right _ _) (qJ9 (of_decide_eq_true hl))
   refine⟨p,_,rfl,DPut.k k4 hz,?_⟩;rw[zVg k2 k3];unfold putO at w7;cases e6:kidx key q.1 with
   | some j=>
     rw[e6]at w7;obtain⟨Y,y1,y2⟩:=k5.put (by rw[←k5.length,←k2];exact(vQq e6).1) g.at_;obtain⟨W',c1,c2,_⟩:=k6 (.dct q.1) _ _ Y (fun _=>0) (.dK (q.1.zip (vs.set j u))) y1 (fun a=>by have:=y2 a;omega) ⟨by rw[cQ];exact k2,k3,upd_same⟩ trivial (by rw[k4];trivial);exact w7 σ _ W' (g.st.trans (c2.cast (fun _=>rfl) (fun _=>rfl) fun _=>rfl)) (c1.cast (fun _=>rfl) fun _=>rfl)
   | none=>
     rw[e6]at w7;obtain⟨W',c1,c2,_⟩:=k6 (.dct (q.1 ++ [key])) _ _ _ (fun _=>0) (.dK ((q.1 ++ [key]).zip (vs ++ [u]))) (k5.append (OsAt.one.mpr g.at_)) (fun a=>by(try dsimp only);omega) ⟨by rw[aU,aU,k2];rfl,vJq k3 (qKu e6),upd_same⟩ trivial (by rw[k4];trivial);exact w7 σ _ W' (g.st.trans (c2.cast (fun _=>rfl) (fun _=>rfl) fun _=>rfl)) (c1.cast (fun _=>rfl) fun _=>rfl)
theorem zJe(ho:OD X c E o (.p s))(hk:OD X c E k (.p sk))(hv:ED X c E e a)(hs:swapsWithSole [.Subscript o k pos'] e pos.line X.env=pure false:=by rfl)(hw:swappedStores [.Subscript o k pos'] e X.env=pure none:=by rfl)(h1:(assignEach [.Subscript o k pos'] X.env).map (·.2)=[assign (.Subscript o k pos') X.env]:=by rfl)(ha:∀v,assign (.Subscript o k pos') X.env v=(do
   let ov ←holding [v] (eval o X.env);let iv ←holding [v,ov] (eval k X.env);standAt pos';holding [v,ov,iv] (setItem ov iv v);release [v,ov,iv] []):=by intro _;rfl):SD X c E (.Assign [.Subscript o k pos'] e pos) (sSetI s sk a):=by
 refine⟨PS.imp (zYr hv.h (zYy ho.h hk.h zQ9 ha) hs hw h1) fun D σ H=>?_⟩;rintro⟨env,B,W,cf,w⟩;refine⟨env,B,W,cf,wp_mono (fun r w1 u H1 W1 Z g=>?_) (fun _ _ he=>he) (qY.mp w)⟩;obtain⟨h,e1,w2⟩:=qU w1;obtain⟨hk1,e2,w3⟩:=qU w2;obtain⟨y,e3,w4⟩:=qU w3;obtain⟨n,e4,w5⟩:=qU w4;refine⟨r.2,_,W1,h,g.cf,e1,fun x hx=>⟨r.2,_,W1,hk1,g.cf,e2,fun yv hy=>?_⟩⟩;cases h with
 |d x=>exact w5.elim
 | p i π=>
   obtain⟨os,e5,w6⟩:=qU w5;obtain⟨j,e6,w7⟩:=qU w6;have hx' :vZ H1 σ i π=some x:=hx;obtain⟨p,vs,Zk,k1,k2,k5,k6⟩:=g.cf.mut (qZo e5);rw[hx']at k1;cases k1;have hlen:=k5.length;have e6' :ixN vs.length n=some j:=by rw[hlen];exact e6
   refine⟨p,vs,n,j,rfl,zE (j6 g.cf hy e3) e4,k2,e6',?_⟩;have hj:j<os.length:=by rw[←hlen];have:=(vQr e6').2.1;omega
   obtain⟨Y,y1,y2⟩:=k5.put hj g.at_;obtain⟨W',c1,c2,_⟩:=k6 .lst _ _ Y (fun _=>0) (.lst (vs.set j u)) y1 (fun a=>by have:=y2 a;omega) upd_same trivial (by have k2' :H1 p=some (.lst vs):=k2;rw[k2'];trivial);exact w7 σ _ W' (g.st.trans (c2.cast (fun _=>rfl) (fun _=>rfl) fun _=>rfl)) (c1.cast (fun _=>rfl) fun _=>rfl)
end
theorem vV3{f:Str}:∀{fs:List Str} {vs:List V},fs.length=vs.length->putF f v (fs.zip vs)=match fidx f fs with
  |some j=>fs.zip (vs.set j v)
  |none=>(fs ++ [f]).zip (vs ++ [v])
 |[],[],_=>rfl
 | g::r,w::vs,h=>by
   rw[bS];simp only[putF,fidx];by_cases q:f=g
   ·simp_all
   ·rw [if_neg q,if_neg fun z=>q z.symm,vV3 (Nat.succ.inj h)];cases fidx f r <;> rfl
 |[],_::_,h=>by cases h
 |_::_,[],h=>by cases h
theorem qYg{f:Str}:∀{fs:List Str} {j:Nat},fidx f fs=some j->fs[j]?=some f
 |[],j,h=>by cases h
 | g::r,j,h=>by
   simp only[fidx]at h;by_cases q:f=g
   ·rw[if_pos q]at h;cases h;rw[q];rfl
   ·rw [if_neg q] at h;obtain⟨i,h1,rfl⟩:=bX.mp h;simpa using qYg h1
noncomputable def qKg(C:Nat)(fs:List Str)(os:List O)(f:Str)(o:O):Option O:=match fidx f fs with
 |some j=>cond (!pinF f) (some (.ow (.obj C fs) (os.set j o))) none
 |none=>cond (decide (os.length<1000)) (some (.ow (.obj C (fs ++ [f])) (os ++ [o]))) none
noncomputable def qWt(env:Ev)(i:Nat)(π:List Nat):Option (Nat×List Str×List O):=match getE env i π with
 |some (.ow (.obj C fs) os)=>some (C,fs,os)
 |_=>none
theorem qWk(h:qWt env i π=some q):getE env i π=some (.ow (.obj q.1 q.2.1) q.2.2):=by
 unfold qWt at h;grind
section
variable{K:aQ}{c:Nat->aZ}{env:Ev}{σ:L2.St}{H:Hp}{B W Z:Fp}{i:Nat}{π:List Nat}
theorem Cf.fld{f:Str}{o o' :O}{u:V}{p:aZ}(cf:Cf K c env σ H (hd2 B Z) W)(e:qWt env i π=some q)(hw:vZ H σ i π=some (.ref p))(ho:OAt K c (hide (hd2 (hd2 B Z) W) H) H o u Z)(e2:qKg q.1 q.2.1 q.2.2 f o=some o')(hl:q.2.2.length<=999):
  ∃dx fs W',H p=some (.ins (c q.1) dx fs)/\fs.length<1000/\Cf K c (setE env i π o') σ (upd H p (.ins (c q.1) dx (putF f u fs))) B W' /\Step env σ H B (hd2 W Z) (setE env i π o') σ (upd H p (.ins (c q.1) dx (putF f u fs))) W' :=by
 obtain⟨p',vs,Zk,k1,⟨k2,dx,k4⟩,k5,k6⟩:=cf.mut (qWk e);rw[hw]at k1;cases k1;refine⟨dx,q.2.1.zip vs,?_⟩;have hlen:(q.2.1.zip vs).length<1000:=by rw[List.length_zip,k5.length];have:=Nat.min_le_right q.2.1.length q.2.2.length;omega
 rw[vV3 k2];unfold qKg at e2;cases e6:fidx f q.2.1 with
 | some j=>
   rw[e6]at e2;obtain⟨pn,e3⟩:=zZ e2;cases e3;have hj:j<q.2.2.length:=by
    have:=(aL.mp (qYg e6)).1;rw[←k5.length,←k2];exact this
   obtain⟨Y,y1,y2⟩:=k5.put hj ho;obtain⟨W',c1,c2,_⟩:=k6 (.obj q.1 q.2.1) _ _ Y (fun _=>0) (.ins (c q.1) dx (q.2.1.zip (vs.set j u))) y1 (fun a=>by have:=y2 a;omega) ⟨by rw[cQ];exact k2,dx,upd_same⟩ trivial (by
    rw[k4];refine⟨_,rfl,fun j' f' v' hp hz=>?_⟩;rw[List.getElem?_zip_eq_some]at hz⊢;refine⟨hz.1,?_⟩;rw[bK fun y=>?_]
    ·exact hz.2
    ·subst y;rw[qYg e6]at hz;cases hz.1;rw[hp]at pn;cases pn)
   exact⟨W',k4,hlen,c1.cast (fun _=>rfl) fun _=>rfl,c2.cast (fun _=>rfl) (fun _=>rfl) fun _=>rfl⟩
 | none=>
   rw[e6]at e2;obtain⟨pn,e3⟩:=zZ e2;cases e3;obtain⟨W',c1,c2,_⟩:=k6 (.obj q.1 (q.2.1 ++ [f])) _ _ _ (fun _=>0) (.ins (c q.1) dx ((q.2.1 ++ [f]).zip (vs ++ [u]))) (k5.append (OsAt.one.mpr ho)) (fun a=>by(try dsimp only);omega) ⟨by rw[aU,aU,k2];rfl,dx,upd_same⟩ trivial (by
    rw[k4];refine⟨_,rfl,fun j' f' v' hp hz=>?_⟩;rw[qX1 k2,dX (aL.mp hz).1];exact hz)
   exact⟨W',k4,hlen,c1.cast (fun _=>rfl) fun _=>rfl,c2.cast (fun _=>rfl) (fun _=>rfl) fun _=>rfl⟩
end
noncomputable def qQf(cs:List Nat)(f:Str)(s:SP)(a:SE):SS:=fun env=>(a env).bind fun r=>(opt (s r.2)).bind fun h=>match h with
 |.p i π=>(opt (qWt r.2 i π)).bind fun q=>cond (cs.contains q.1 && decide (q.2.2.length<=999)) ((opt (qKg q.1 q.2.1 q.2.2 f r.1)).bind fun o=>.ok (.nx (setE r.2 i π o))) .no
 |.d _=>.no
noncomputable def vVm(cs:List Nat)(f:Str)(g:D->D->Option D)(s:SP)(a:SV):SS:=fun env=>(opt (s env)).bind fun h=>match h with
 | .p i π=>(opt (qWt env i π)).bind fun q=>(opt (fidx f q.2.1)).bind fun j=>(opt (q.2.2[j]?)).bind fun o0=>match o0 with
   |.fz x=>cond (cs.contains q.1) ((a env).bind fun r=>cond (stab env r.2 i π) ((opt (g x r.1)).bind fun z=>(opt (qWt r.2 i π)).bind fun q' =>cond (decide (q'.1=q.1) && decide (q'.2.2.length<=999)) ((opt (qKg q'.1 q'.2.1 q'.2.2 f (.fz z))).bind fun o=>.ok (.nx (setE r.2 i π o))) .no) .no) .no
   |.ow _ _=>.no
 |.d _=>.no
section
variable{X:Cx}{c:Nat->aZ}{E:XK}{o e:Expr}{f:Str}{pos pos' :Pos}{s:SP}{a:SE}{cs:List Nat}
theorem zJf(ok:xQ X.K c cs f)(ho:OD X c E o (.p s))(hv:ED X c E e a)(hs:swapsWith e (some (.Attribute o f pos')) pos.line X.env=pure false:=by rfl):SD X c E (.Assign [.Attribute o f pos'] e pos) (qQf cs f s a):=by
 refine⟨PS.imp (zYq ho.h hv.h hs) fun D σ H=>?_⟩;rintro⟨env,B,W,cf,w⟩;refine⟨env,B,W,cf,wp_mono (fun r w1 u H1 W1 Z g=>?_) (fun _ _ he=>he) (qY.mp w)⟩;obtain⟨h,e1,w2⟩:=qU w1;refine⟨r.2,_,W1,h,g.cf,e1,fun x hx=>?_⟩;cases h with
 |d x=>exact w2.elim
 | p i π=>
   obtain⟨q,e5,w6⟩:=qU w2;obtain⟨hc,w7⟩:=vL w6;obtain⟨o',e6,w8⟩:=qU w7;rw[aD]at hc;have hx' :vZ H1 σ i π=some x:=hx;obtain⟨p,_,_,k1,_⟩:=g.cf.mut (qWk e5);rw[hx']at k1;cases k1;obtain⟨dx,fs,W',m1,m2,m3,m4⟩:=g.cf.fld e5 hx' g.at_ e6 (of_decide_eq_true hc.2);obtain⟨c1,c2⟩:=ok q.1 (qXi hc.1);exact⟨p,_,dx,fs,rfl,m1,c1,c2,m2,w8 σ _ W' (g.st.trans m4) m3⟩
theorem zJi{op:Operator}{rd:V->V->Hp->VK->Prop}{g:D->D->Option D}{t:SV}(ok:xQ X.K c cs f)(ho:OD X c E o (.p s))(hv:EV X c E e t)(hop:InOp X op rd)(hp:PrS2 X.K c rd g):SD X c E (.AugAssign (.Attribute o f pos') op e pos) (vVm cs f g s t):=by
 refine⟨PS.imp (vX6 ho.h hv.h hop) fun D σ H=>?_⟩;rintro⟨env,B,W,cf,w⟩;obtain⟨h,e1,w2⟩:=qU w;refine⟨env,B,W,h,cf,e1,fun x hx=>?_⟩;cases h with
 |d x=>exact w2.elim
 | p i π=>
   obtain⟨q,e2,w3⟩:=qU w2;obtain⟨j,e3,w4⟩:=qU w3;obtain⟨o0,e4,w5⟩:=qU w4;cases o0 with
   |ow _ _=>exact w5.elim
   | fz y=>
     have hx' :vZ H σ i π=some x:=hx;have cf0:Cf X.K c env σ H (hd2 B fun _=>0) W:=cf.cast (fun _=>rfl) fun _=>rfl
     obtain⟨p,vs,Zk,k1,⟨k2,dx,k4⟩,k5,k6⟩:=cf0.mut (qWk e2);rw[hx']at k1;cases k1;obtain⟨v,Z1,R,g1,g2,g3,_⟩:=k5.focus e4;have hd:DAt X.K c (hide (hd2 B W) H) v y:=g2.1;obtain⟨hcs,w5⟩:=vL w5;obtain⟨c1,c2⟩:=ok q.1 (qXi hcs);refine⟨p,_,dx,_,v,rfl,k4,c1,c2,qQ1 e3 g1,env,B,W,cf,wp_mono (fun r w6 u H1 W1 gd=>?_) (fun _ _ he=>he) (qY.mp w5)⟩;obtain⟨hc,w7⟩:=vL w6;obtain⟨z,e5,w8⟩:=qU w7;obtain⟨q',e6,w9⟩:=qU w8;obtain⟨hc',w10⟩:=vL w9;obtain⟨o',e7,w11⟩:=qU w10;rw[aD]at hc';have hw:=qWf cf gd.st gd.cf (fun a z=>z) hc hx';refine hp v u H1 y r.1 z _ ((hd.same gd.st.same).same qT) (gd.at_.same qT) e5 fun v3 hv3=>?_
     have cf1:Cf X.K c r.2 σ H1 (hd2 B fun _=>0) W1:=gd.cf.cast (fun _=>rfl) fun _=>rfl
     obtain⟨dx',fs',W',m1,m2,m3,m4⟩:=cf1.fld e6 hw (Z:=fun _=>0) (u:=v3) (by rw[OAt.fz];exact⟨hv3 _,fun _=>rfl⟩) e7 (of_decide_eq_true hc'.2);have hq:q'.1=q.1:=of_decide_eq_true hc'.1;rw[hq]at m1 m3 m4;exact⟨dx',fs',m1,m2,w11 σ _ W' (gd.st.trans (m4.cast (fun _=>rfl) (fun _=>rfl) fun _=>rfl)) m3⟩
end
instance decMul(i j:Int):Decidable (IntMulOk i j):=by unfold IntMulOk;infer_instance
instance decDivP(i j:Int):Decidable (vWd i j):=by unfold vWd;infer_instance
instance decPow(i j:Int):Decidable (CPow i j):=by unfold CPow;infer_instance
noncomputable def i2(g:Int->Int->Int)(x y:D):Option D:=(xT x).bind fun i=>(xT y).bind fun j=>some (.int (g i j))
noncomputable def i2g(C:Int->Int->Prop)[∀i j,Decidable (C i j)](g:Int->Int->Int)(x y:D):Option D:=(xT x).bind fun i=>(xT y).bind fun j=>if C i j then some (.int (g i j)) else none
noncomputable def c2(g:Int->Int->Bool)(x y:D):Option D:=(xT x).bind fun i=>(xT y).bind fun j=>some (.bl (g i j))
theorem qXh{P:Prop}[Decidable P]{x y:α}(h:(if P then some x else none)=some y):P/\x=y:=by
 grind
section
variable{K:aQ}{c:Nat->aZ}
theorem vKr(g:Int->Int->Int):PrS2 K c (rI0 fun i j=>.int (g i j)) (i2 g):=fun u w H x y z Q hx hy e q=>by
 obtain⟨i,e1,e2⟩:=bnd e;obtain⟨j,e3,e4⟩:=bnd e2;cases e4;exact⟨i,j,zE hx e1,zE hy e3,q _ fun _=>.int _⟩
theorem qK9(C:Int->Int->Prop)[∀i j,Decidable (C i j)](g:Int->Int->Int):PrS2 K c (rI C fun i j=>.int (g i j)) (i2g C g):=fun u w H x y z Q hx hy e q=>by
 obtain⟨i,e1,e2⟩:=bnd e;obtain⟨j,e3,e4⟩:=bnd e2;obtain⟨p,rfl⟩:=qXh e4;exact⟨i,j,zE hx e1,zE hy e3,p,q _ fun _=>.int _⟩
theorem vVn(g:Int->Int->Bool):PrS2 K c (rI0 fun i j=>.bl (g i j)) (c2 g):=fun u w H x y z Q hx hy e q=>by
 obtain⟨i,e1,e2⟩:=bnd e;obtain⟨j,e3,e4⟩:=bnd e2;cases e4;exact⟨i,j,zE hx e1,zE hy e3,q _ fun _=>.bl _⟩
theorem zQf(g:Int->Int->Int):PrS2 K c (ipI g) (i2 g):=fun u w H x y z Q hx hy e q=>by
 obtain⟨i,j,e1,e2,r⟩:=vKr g u w H x y z Q hx hy e q;exact⟨i,j,e1,e2,r⟩
noncomputable def addS(x y:D):Option D:=(vKm x).bind fun i=>(vKm y).bind fun j=>if i.length+j.length<=aA then some (.str (i ++ j)) else none
theorem zJx:PrS2 K c (fun x y H Q=>∃i j,x=.str i/\y=.str j/\i.length+j.length<=aA/\Q (.str (i ++ j)) H) addS:=fun u w H x y z Q hx hy e q=>by
 obtain⟨i,e1,e2⟩:=bnd e;obtain⟨j,e3,e4⟩:=bnd e2;obtain⟨p,rfl⟩:=qXh e4;exact⟨i,j,qX3 hx e1,qX3 hy e3,p,q _ fun _=>.str _⟩
end
mutual
def dtOf:D->Option Dt
 |.non =>some .non
 |.int i=>some (.int i)
 |.str x=>some (.str x)
 | .nd .tup ds=>match dtsOf ds with
   |some xs=>some (.tup xs)
   |none=>none
 |_=>none
def dtsOf:List D->Option (List Dt)
 |[]=>some []
 | d::ds=>match dtOf d,dtsOf ds with
   |some x,some xs=>some (x::xs)
   |_,_=>none
end
section
variable{K:aQ}{c:Nat->aZ}
mutual
theorem vQv{F:Hp}:∀{d:D} {u:V} {x:Dt},DAt K c F u d->dtOf d=some x->qB K F u x
 |.non,u,x,h,e=>by cases h;simp[dtOf]at e;subst e;exact .non
 |.int i,u,x,h,e=>by cases h;simp[dtOf]at e;subst e;exact .int _
 |.str i,u,x,h,e=>by cases h;simp[dtOf]at e;subst e;exact .str _
 |.bl b,u,x,h,e=>by simp[dtOf]at e
 |.fn b,u,x,h,e=>by simp[dtOf]at e
 | .nd k ds,u,x,h,e=>by
   cases k with
   | tup=>
     simp only[dtOf]at e;cases e1:dtsOf ds with
     |none=>rw[e1]at e;cases e
     | some xs=>
       rw[e1]at e;cases e;obtain⟨p,vs,rfl,h1,h2⟩:=h.un;exact .tup h1 (dtsOf_at h2 e1)
   |lst=>simp[dtOf]at e
   |dct ks=>simp[dtOf]at e
   |dcT ks=>simp[dtOf]at e
   |obj C fs=>simp[dtOf]at e
   |exc C fs=>simp[dtOf]at e
theorem dtsOf_at{F:Hp}:∀{ds:List D} {us:List V} {xs:List Dt},DsAt K c F us ds->dtsOf ds=some xs->DatsAt K F us xs
 |[],us,xs,h,e=>by simp[dtsOf]at e;subst e;rw[h.un0];exact .nil
 | d::ds,us,xs,h,e=>by
   obtain⟨v,r,rfl,a,b⟩:=h.un;simp only[dtsOf]at e;cases e1:dtOf d with
   |none=>rw[e1]at e;cases e
   | some x=>
     cases e2:dtsOf ds with
     |none=>rw[e1,e2]at e;cases e
     | some ys=>
       rw[e1,e2]at e;cases e;exact .cons (vQv a e1) (dtsOf_at b e2)
end
end
noncomputable def eqB(x y:D):Option Bool:=match x,y with
 |.bl a,.bl b=>some (a == b)
 |.nd .lst ds,.nd .lst es=>(dtsOf ds).bind fun a=>(dtsOf es).bind fun b=>if Dt.hgts a<=30 then some (Dt.beqs a b) else none
 |x,y=>(dtOf x).bind fun a=>(dtOf y).bind fun b=>if a.hgt<=30 then some (Dt.beq a b) else none
noncomputable def eqD(x y:D):Option D:=(eqB x y).map .bl
noncomputable def neD(x y:D):Option D:=(eqB x y).map fun b=>.bl (!b)
noncomputable def zQc(K:aQ):R2:=fun x y H Q=>rEqD K x y H Q\/rEq x y H Q\/rEqL K x y H Q
noncomputable def zQb(K:aQ):R2:=fun x y H Q=>rNeD K x y H Q\/rNe x y H Q\/rNeL K x y H Q
theorem vV7(hu:X.A.units+64<cG):OpR X (bN .Eq) (zQc X.K):=(zKi hu).or (jQ3.or (zKh hu))
theorem zVx(hu:X.A.units+64<cG):OpR X (bN .NotEq) (zQb X.K):=(zKd hu).or (vKt.or (zKc hu))
theorem vXk(a b:Bool):decide (V.bl a=V.bl b)=(a == b):=by grind
section
variable{K:aQ}{c:Nat->aZ}
theorem zQv{u w:V}{x y:D}{b:Bool}(hx:DAt K c H u x)(hy:DAt K c H w y)(e:eqB x y=some b):
  (∃d e,qB K H u d/\qB K H w e/\d.hgt<=30/\Dt.beq d e=b)\/(∃p q,u=.bl p/\w=.bl q/\(p == q)=b)\/(∃p q vs ws ds es,u=.ref p/\w=.ref q/\SqL K H p vs/\SqL K H q ws/\DatsAt K H vs ds/\DatsAt K H ws es/\Dt.hgts ds<=30/\Dt.beqs ds es=b):=by
 unfold eqB at e;split at e
 ·cases e;cases hx;cases hy;exact .inr (.inl ⟨_,_,rfl,rfl,rfl⟩)
 ·obtain⟨a,e1,e2⟩:=bnd e;obtain⟨d,e3,e4⟩:=bnd e2;obtain⟨p,rfl⟩:=qXh e4;obtain⟨p1,vs,rfl,h1,h2⟩:=hx.un;obtain⟨p2,ws,rfl,h3,h4⟩:=hy.un;exact .inr (.inr ⟨p1,p2,vs,ws,a,d,rfl,rfl,h1,h3,dtsOf_at h2 e1,dtsOf_at h4 e3,p,rfl⟩)
 ·obtain⟨a,e1,e2⟩:=bnd e;obtain⟨d,e3,e4⟩:=bnd e2;obtain⟨p,rfl⟩:=qXh e4;exact .inl ⟨a,d,vQv hx e1,vQv hy e3,p,rfl⟩
theorem zXo:PrS2 K c (zQc K) eqD:=fun u w H x y z Q hx hy e q=>by
 obtain⟨b,e1,rfl⟩:=bX.mp e;rcases zQv hx hy e1 with⟨d,d2,h1,h2,h3,rfl⟩|⟨p,r,rfl,rfl,rfl⟩|⟨p,r,vs,ws,ds,es,h1,h2,h3,h4,h5,h6,h7,rfl⟩
 ·exact .inl ⟨d,d2,h1,h2,h3,q _ fun _=>.bl _⟩
 ·exact .inr (.inl ⟨rfl,by rw[vXk];exact q _ fun _=>.bl _⟩)
 ·exact .inr (.inr ⟨p,r,vs,ws,ds,es,h1,h2,h3,h4,h5,h6,h7,q _ fun _=>.bl _⟩)
theorem jQy:PrS2 K c (zQb K) neD:=fun u w H x y z Q hx hy e q=>by
 obtain⟨b,e1,rfl⟩:=bX.mp e;rcases zQv hx hy e1 with⟨d,d2,h1,h2,h3,rfl⟩|⟨p,r,rfl,rfl,rfl⟩|⟨p,r,vs,ws,ds,es,h1,h2,h3,h4,h5,h6,h7,rfl⟩
 ·exact .inl ⟨d,d2,h1,h2,h3,q _ fun _=>.bl _⟩
 ·exact .inr (.inl ⟨rfl,by rw[vXk];exact q _ fun _=>.bl _⟩)
 ·exact .inr (.inr ⟨p,r,vs,ws,ds,es,h1,h2,h3,h4,h5,h6,h7,q _ fun _=>.bl _⟩)
noncomputable def toV:D->Option V
 |.non =>some .non
 |.int i=>some (.int i)
 |.str x=>some (.str x)
 |.bl b=>some (.bl b)
 |_=>none
noncomputable def allV:List D->Option (List V)
 |[]=>some []
 |d::r=>(toV d).bind fun v=>(allV r).bind fun vs=>some (v::vs)
theorem vZ1{F:Hp}{u:V}{d:D}(h:DAt K c F u d)(e:toV d=some v):u=v/\qZv v=true:=by
 cases h <;> cases e <;> exact⟨rfl,rfl⟩
theorem vQz{F:Hp}:∀{us:List V} {ds:List D} {vs:List V},DsAt K c F us ds->allV ds=some vs->us=vs/\vs.all qZv=true
 |us,[],vs,h,e=>by cases e;exact⟨h.un0,rfl⟩
 | us,d::ds,vs,h,e=>by
   obtain⟨u,r,rfl,a,b⟩:=h.un;obtain⟨v,e1,e2⟩:=bnd e;obtain⟨ws,e3,e4⟩:=bnd e2;cases e4;obtain⟨h1,h2⟩:=vZ1 a e1;obtain⟨h3,h4⟩:=vQz b e3;grind
noncomputable def inB(x y:D):Option Bool:=match y with
 |.nd (.dct ks) _=>(qVl x).bind fun k=>some (kidx k ks).isSome
 |.nd .lst ds=>(toV x).bind fun v=>(allV ds).bind fun vs=>some (inV v vs)
 |.nd .tup ds=>(toV x).bind fun v=>(allV ds).bind fun vs=>some (inV v vs)
 |_=>none
noncomputable def inD(x y:D):Option D:=(inB x y).map .bl
noncomputable def niD(x y:D):Option D:=(inB x y).map fun b=>.bl (!b)
noncomputable def rInA(K:aQ)(neg:Bool):R2:=fun x y H Q=>rIn K neg x y H Q\/∃a o,y=.ref a/\DGet H a x o/\Q (.bl (if neg then !o.isSome else o.isSome)) H
theorem zKg(hu:X.A.units+1<cG):OpR X (bN .In) (rInA X.K false):=vYh.or (zKf hu)
theorem vYg(hu:X.A.units+1<cG):OpR X (bN .NotIn) (rInA X.K true):=vVa.or (vYf hu)
theorem zQp{neg:Bool}{u w:V}{x y:D}{b:Bool}(hx:DAt K c H u x)(hy:DAt K c H w y)(e:inB x y=some b)(q:Q (.bl (if neg then !b else b)) H):rInA K neg u w H Q:=by
 unfold inB at e;split at e
 ·obtain⟨k,e1,e2⟩:=bnd e;cases e2;obtain⟨p,vs,rfl,⟨h1,h2,h3⟩,h4⟩:=hy.un;rw[qJv hx e1];refine .inr ⟨p,_,rfl,vZ4 h3,?_⟩;rw[qVs h1];rename_i ks ds;have:((kidx k ks).bind fun j=>vs[j]?).isSome =(kidx k ks).isSome :=by
   cases e5:kidx k ks with
   |none=>rfl
   | some j=>
     have:=(vQq e5).1;grind
  grind
 ·obtain⟨v,e1,e2⟩:=bnd e;obtain⟨vs',e3,e4⟩:=bnd e2;cases e4;obtain⟨p,vs,rfl,h1,h2⟩:=hy.un;obtain⟨g1,g2⟩:=vZ1 hx e1;obtain⟨g3,g4⟩:=vQz h2 e3;subst g1 g3;exact .inl ⟨p,vs,rfl,.inl h1,g2,g4,q⟩
 ·obtain⟨v,e1,e2⟩:=bnd e;obtain⟨vs',e3,e4⟩:=bnd e2;cases e4;obtain⟨p,vs,rfl,h1,h2⟩:=hy.un;obtain⟨g1,g2⟩:=vZ1 hx e1;obtain⟨g3,g4⟩:=vQz h2 e3;subst g1 g3;exact .inl ⟨p,vs,rfl,.inr h1,g2,g4,q⟩
 ·cases e
theorem jQz:PrS2 K c (rInA K false) inD:=fun u w H x y z Q hx hy e q=>by
 obtain⟨b,e1,rfl⟩:=bX.mp e;exact zQp (neg:=false) hx hy e1 (q _ fun _=>.bl _)
theorem zVl:PrS2 K c (rInA K true) niD:=fun u w H x y z Q hx hy e q=>by
 obtain⟨b,e1,rfl⟩:=bX.mp e;exact zQp (neg:=true) hx hy e1 (q _ fun _=>.bl _)
noncomputable def negD(x:D):Option D:=(xT x).bind fun i=>some (.int (-i))
end
noncomputable abbrev oAdd:=o2 (i2 fun i j=>i+j)
noncomputable abbrev oSub:=o2 (i2 fun i j=>i - j)
noncomputable abbrev oMul:=o2 (i2g IntMulOk fun i j=>i * j)
noncomputable abbrev oDiv:=o2 (i2g vWd fun i j=>i / j)
noncomputable abbrev oMod:=o2 (i2g (fun _ j=>0<j) fun i j=>i % j)
noncomputable abbrev oPow:=o2 (i2g CPow fun i j=>i ^ j.toNat)
noncomputable abbrev oLt:=o2 (c2 fun i j=>decide (i<j))
noncomputable abbrev oLe:=o2 (c2 fun i j=>decide (i<=j))
noncomputable abbrev oGt:=o2 (c2 fun i j=>decide (j<i))
section
variable{X:Cx}{c:Nat->aZ}{E:XK}{a b d e:Expr}{oa ob oc:Oe}{pos:Pos}{k:Nat}
theorem qVk(ha:OD X c E a oa)(hb:OD X c E b ob):OD X c E (.BinOp a .Add b pos) (oAdd oa ob):=qXo zKj (vKr _) ha hb
theorem vVo(ha:OD X c E a oa)(hb:OD X c E b ob):OD X c E (.BinOp a .Sub b pos) (oSub oa ob):=qXo zKa (vKr _) ha hb
theorem qKi(ha:OD X c E a oa)(hb:OD X c E b ob):OD X c E (.BinOp a .Mult b pos) (oMul oa ob):=qXo zWg (qK9 _ _) ha hb
theorem yE(ha:OD X c E a oa)(hb:OD X c E b ob):OD X c E (.BinOp a .FloorDiv b pos) (oDiv oa ob):=qXo zVy (qK9 _ _) ha hb
theorem jF(ha:OD X c E a oa)(hb:OD X c E b ob):OD X c E (.BinOp a .Mod b pos) (oMod oa ob):=qXo zKe (qK9 _ _) ha hb
theorem jQ8(ha:OD X c E a oa)(hb:OD X c E b ob):OD X c E (.BinOp a .Pow b pos) (oPow oa ob):=qXo zKb (qK9 _ _) ha hb
theorem zKl(ha:OD X c E a oa)(hb:OD X c E b ob):OD X c E (.BinOp a .Add b pos) (o2 addS oa ob):=qXo vJp zJx ha hb
theorem o_lt(ha:OD X c E a oa)(hb:OD X c E b ob):OD X c E (.Compare a [.Lt] [b] pos) (oLt oa ob):=qXw zXr (vVn _) ha hb (yS _)
theorem o_le(ha:OD X c E a oa)(hb:OD X c E b ob):OD X c E (.Compare a [.LtE] [b] pos) (oLe oa ob):=qXw jQ2 (vVn _) ha hb (yS _)
theorem o_gt(ha:OD X c E a oa)(hb:OD X c E b ob):OD X c E (.Compare a [.Gt] [b] pos) (oGt oa ob):=qXw zXs (vVn _) ha hb (yS _)
theorem o_eq(hr:Room k X.A)(ha:OD X c E a oa)(hb:OD X c E b ob):OD X c E (.Compare a [.Eq] [b] pos) (o2 eqD oa ob):=qXw (vV7 hr.units) zXo ha hb (yS _)
theorem t_lt(ha:OD X c E a oa)(hb:OD X c E b ob):TD X c E (.Compare a [.Lt] [b] pos) (asB (oLt oa ob)):=qZ2 zXr (vVn _) ha hb (yS _)
theorem t_gt(ha:OD X c E a oa)(hb:OD X c E b ob):TD X c E (.Compare a [.Gt] [b] pos) (asB (oGt oa ob)):=qZ2 zXs (vVn _) ha hb (yS _)
theorem t_eq(hr:Room k X.A)(ha:OD X c E a oa)(hb:OD X c E b ob):TD X c E (.Compare a [.Eq] [b] pos) (asB (o2 eqD oa ob)):=qZ2 (vV7 hr.units) zXo ha hb (yS _)
theorem t_ne(hr:Room k X.A)(ha:OD X c E a oa)(hb:OD X c E b ob):TD X c E (.Compare a [.NotEq] [b] pos) (asB (o2 neD oa ob)):=qZ2 (zVx hr.units) jQy ha hb (yS _)
theorem t_in(hr:Room k X.A)(ha:OD X c E a oa)(hb:OD X c E b ob)(hm:behindInMarks .In b=false:=by rfl):TD X c E (.Compare a [.In] [b] pos) (asB (o2 inD oa ob)):=qZ2 (zKg (qVm hr)) jQz ha hb hm
theorem vWg(hr:Room k X.A)(ha:OD X c E a oa)(hb:OD X c E b ob)(hm:behindInMarks .NotIn b=false:=by rfl):TD X c E (.Compare a [.NotIn] [b] pos) (asB (o2 niD oa ob)):=qZ2 (vYg (qVm hr)) zVl ha hb hm
theorem vVp(ha:OD X c E a oa):OD X c E (.UnaryOp .USub a pos) (o1 negD oa):=jQ5 vKz (fun u H x z Q hx e q=>by
 obtain⟨i,e1,e2⟩:=bnd e;cases e2;exact⟨i,zE hx e1,q _ fun _=>.int _⟩) ha
theorem o_ix(hr:Room k X.A)(ha:OD X c E a oa)(hb:OD X c E b ob)(hs:qXm b:=by exact fun _ _=>rfl):OD X c E (.Subscript a b pos) (oIx oa ob):=jQ6 (qVm hr) ha hb hs
end
noncomputable def iSeq(K:aQ)(tl:TE):TI:=fun σ H R=>tl σ H fun x H1=>∃a,x=.ref a/\(((∃xs,SqL K H1 a xs)/\R (Itl K a) H1)\/((∃xs,SqT K H1 a xs)/\R (Itt K a) H1))
theorem zYv{l:Expr}{tl:TE}(hl:PE X l tl):PI X tg l (iSeq X.K tl):=by
 intro pins s σ H R I h;refine thn (hl pins s σ H _ I h) fun v s1 ⟨x,H1,I1,r1,q1⟩=>?_
 obtain⟨a,e,q1⟩:=q1;subst e;cases r1;rcases q1 with⟨⟨xs,hq⟩,q⟩|⟨⟨xs,hq⟩,q⟩
 ·obtain⟨its,rv,p,hz⟩:=I1.list hq;refine wpAny_pyIter_list p.isList ?_
  refine⟨s1.heap.objs.size,[s1.heap.objs.size],_,_,H1,rfl,I1.kept (t' :=s1.toks) fun b o e=>aX _ e,qKn a _,⟨_,aC _ rfl,rfl,rfl⟩,fun b hb=>?_,q⟩;have e:b=s1.heap.objs.size:=by simpa using hb
  subst e;exact I1.fpOk (aB _) (I1.hok.fresh (aB _))
 ·obtain⟨its,rv,p,hz⟩:=I1.tuple hq;refine wpAny_pyIter_tuple (show s1.heap.IsTuple a its.toArray from p) ?_
  refine⟨s1.heap.objs.size,[s1.heap.objs.size],_,_,H1,rfl,I1.kept (t' :=s1.toks) fun b o e=>aX _ e,vJa a _,⟨_,aC _ rfl,rfl,rfl⟩,fun b hb=>?_,q⟩;have e:b=s1.heap.objs.size:=by simpa using hb
  subst e;exact I1.fpOk (aB _) (I1.hok.fresh (aB _))
section
variable{K:aQ}{c:Nat->aZ}{F:Hp}{a b:aZ}{xs ys:List V}{ds es:List D}
theorem zZd(h:SqL K F a xs)(k:DsAt K c F xs ds):ItD K c F (Itl K a) ds:=by
 intro i H T sm hb;have h' :SqL K H a xs:=jJ qT (jJ sm h);refine⟨fun d hd=>?_,fun hi=>⟨xs,h',by rw[k.len];omega⟩⟩;obtain⟨v,h1,h2⟩:=k.get hd;refine⟨⟨xs,v,h',h1⟩,fun x H' y=>?_⟩;obtain⟨rfl,y2⟩:=y;have:=y2 xs h';rw[h1]at this;cases this;exact⟨Same.refl _,h2.same sm⟩
theorem zWt(h:SqT K F a xs)(k:DsAt K c F xs ds):ItD K c F (Itt K a) ds:=by
 intro i H T sm hb;have h' :SqT K H a xs:=qT.tup (sm.tup h);refine⟨fun d hd=>?_,fun hi=>⟨xs,h',by rw[k.len];omega⟩⟩;obtain⟨v,h1,h2⟩:=k.get hd;refine⟨⟨xs,v,h',h1⟩,fun x H' y=>?_⟩;obtain⟨rfl,y2⟩:=y;have:=y2 xs h';rw[h1]at this;cases this;exact⟨Same.refl _,h2.same sm⟩
noncomputable def rngD(lo:Int)(n:Nat):List D:=(List.range n).map fun(j:Nat)=>D.int (lo+(j:Int))
theorem zWu{lo:Int}:ItD K c F (Itr lo n) (rngD lo n):=by
 intro i H T sm hb;unfold rngD;refine⟨fun d hd=>?_,fun hi=>by rw[aW,List.length_range]at hi;exact Nat.le_of_eq hi.symm⟩;rw[List.getElem?_map]at hd;cases q:(List.range n)[i]? with
 |none=>rw[q]at hd;cases hd
 | some j=>
   rw[q]at hd;cases hd;obtain⟨hl,e⟩:=aL.mp q;rw[List.getElem_range]at e;subst e;rw[List.length_range]at hl;refine⟨hl,fun x H' y=>?_⟩;obtain⟨rfl,rfl⟩:=y;exact⟨Same.refl _,.int _⟩
def zipD:List D->List D->List D
 |d::ds,e::es=>D.tup [d,e]::zipD ds es
 |_,_=> []
theorem wW:∀(ds es:List D),(zipD ds es).length =min ds.length es.length
 |[],es=>by simp[zipD]
 |d::ds,[]=>by simp[zipD]
 |d::ds,e::es=>by simp only[zipD,aK,wW ds es];omega
theorem zipD_get:∀{ds es:List D} {i:Nat} {z:D},(zipD ds es)[i]?=some z->∃d e,ds[i]?=some d/\es[i]?=some e/\z=D.tup [d,e]
 |[],es,i,z,h=>by simp[zipD]at h
 |d::ds,[],i,z,h=>by simp[zipD]at h
 |d::ds,e::es,0,z,h=>by simp only[zipD,dG,Option.some.injEq]at h;exact⟨d,e,rfl,rfl,h.symm⟩
 | d::ds,e::es,i + 1,z,h=>by
   obtain⟨d',e',h1,h2,h3⟩:=zipD_get (ds:=ds) (es:=es) (i:=i) (z:=z) (by simpa[zipD] using h);exact⟨d',e',by simpa using h1,by simpa using h2,h3⟩
theorem vV4{T:Fp}{x y:V}{d e:D}{p:aZ}(hn:H p=none)(hb:∀a,T a≠0->∃o,H a=some o/\Hb o)(hx:DAt K c (hide T H) x d)(hy:DAt K c (hide T H) y e):Same H (upd H p (.tup [x,y]))/\DAt K c (hide T (upd H p (.tup [x,y]))) (.ref p) (D.tup [d,e]):=by
 have sm:Same H (upd H p (.tup [x,y])):=.upd hn;have hp:T p=0:=by
  grind
 have ss:Same (hide T H) (hide T (upd H p (.tup [x,y]))):=zV fun a o z q=>⟨z,sm a o q⟩
 exact⟨sm,.of (k:=.tup) (SqT.of (by rw[vD hp,upd_same])) (.cons (hx.same ss) (.cons (hy.same ss) .nil))⟩
noncomputable def wZ:Nat->List D->List D
 |_,[]=> []
 |n,d::ds=>D.tup [.int (n:Int),d]::wZ (n+1) ds
theorem qJ1:∀(n:Nat) (ds:List D),(wZ n ds).length =ds.length
 |_,[]=>rfl
 |n,d::ds=>by simp only[wZ,aK,qJ1 (n+1) ds]
theorem enumD_get:∀{n:Nat} {ds:List D} {i:Nat} {z:D},(wZ n ds)[i]?=some z->∃d,ds[i]?=some d/\z=D.tup [.int ((n+i:Nat):Int),d]
 |n,[],i,z,h=>by simp[wZ]at h
 |n,d::ds,0,z,h=>by simp only[wZ,dG,Option.some.injEq]at h;exact⟨d,rfl,h.symm⟩
 | n,d::ds,i + 1,z,h=>by
   obtain⟨d',h1,h2⟩:=enumD_get (n:=n+1) (ds:=ds) (i:=i) (z:=z) (by simpa[wZ] using h);grind
theorem zZe(h:SqL K F a xs)(k:DsAt K c F xs ds):ItD K c F (Ite K a) (wZ 0 ds):=by
 intro i H T sm hb;have g1:SqL K H a xs:=jJ qT (jJ sm h);refine⟨fun z hz=>?_,fun hi=>⟨xs,g1,by rw[qJ1,←k.len]at hi;omega⟩⟩;obtain⟨d,e1,rfl⟩:=enumD_get hz;obtain⟨v,v1,v2⟩:=k.get e1;refine⟨⟨xs,v,g1,v1⟩,fun x H' y=>?_⟩;obtain⟨p,rfl,hn,y2⟩:=y;rw[y2 xs v g1 v1,Nat.zero_add];exact vV4 hn hb (.int _) (v2.same sm)
theorem zWv(h:SqL K F a xs)(k:DsAt K c F xs ds):ItD K c F (Itv K a xs.length) ds.reverse:=by
 intro i H T sm hb;have g1:SqL K H a xs:=jJ qT (jJ sm h);have hl:=k.len;refine⟨fun z hz=>?_,fun hi=>⟨xs,g1,rfl,by rw[List.length_reverse]at hi;omega⟩⟩;have hi:i<ds.length:=by
  have:=(aL.mp hz).1;rw[List.length_reverse]at this;exact this
 rw[List.getElem?_reverse hi]at hz;obtain⟨v,v1,v2⟩:=k.get hz;rw[←hl]at v1;refine⟨⟨xs,v,g1,rfl,by omega,v1⟩,fun x H' y=>?_⟩;obtain⟨rfl,y2⟩:=y;have:=y2 xs g1;rw[v1]at this;cases this;exact⟨Same.refl _,v2.same sm⟩
end
noncomputable def qWr:D->Option (List D)
 |.nd .lst ds=>some ds
 |.nd .tup ds=>some ds
 |_=>none
noncomputable def qQi:D->Option (List D)
 |.nd .lst ds=>some ds
 |_=>none
noncomputable def qKd:D->Option (List D)
 |.nd .tup ds=>some ds
 |_=>none
section
variable{K:aQ}{c:Nat->aZ}{F:Hp}{u:V}{d:D}{ds:List D}
theorem qYc(h:DAt K c F u d)(e:qQi d=some ds):∃p vs,u=.ref p/\SqL K F p vs/\DsAt K c F vs ds:=by
 unfold qQi at e;split at e
 ·cases e;exact h.un
 ·cases e
theorem zQ4(h:DAt K c F u d)(e:qKd d=some ds):∃p vs,u=.ref p/\SqT K F p vs/\DsAt K c F vs ds:=by
 unfold qKd at e;split at e
 ·cases e;exact h.un
 ·cases e
theorem zVb(h:DAt K c F u d)(e:qWr d=some ds):∃p vs,u=.ref p/\(SqL K F p vs\/SqT K F p vs)/\DsAt K c F vs ds:=by
 unfold qWr at e;split at e
 ·cases e;obtain⟨p,vs,a,b,r⟩:=h.un;exact⟨p,vs,a,.inl b,r⟩
 ·cases e;obtain⟨p,vs,a,b,r⟩:=h.un;exact⟨p,vs,a,.inr b,r⟩
 ·cases e
end
noncomputable def iV(s:SV):SI:=fun env=>(s env).bind fun r=>(opt (qWr r.1)).bind fun ds=>.ok (ds,r.2)
noncomputable def iL(f:List D->Option (List D))(ss:List SV):SI:=fun env=>(evVs ss env).bind fun r=>(opt (f r.1)).bind fun ds=>.ok (ds,r.2)
noncomputable def in62(j:Int):Bool:=decide (-(2 ^ 62)<=j) && decide (j<2 ^ 62)
theorem vW6{j:Int}(h:in62 j=true): -(2 ^ 62)<=j/\j<2 ^ 62:=by
 unfold in62 at h;rw[aD]at h;exact⟨of_decide_eq_true h.1,of_decide_eq_true h.2⟩
noncomputable def rg1:List D->Option (List D)
 |[.int j]=>cond (in62 j) (some (rngD 0 j.toNat)) none
 |_=>none
noncomputable def zpL:List D->Option (List D)
 |[x,y]=>(qQi x).bind fun ds=>(qQi y).bind fun es=>some (zipD ds es)
 |_=>none
noncomputable def zpT:List D->Option (List D)
 |[x,y]=>(qKd x).bind fun ds=>(qKd y).bind fun es=>some (zipD ds es)
 |_=>none
noncomputable def zpM:List D->Option (List D)
 |[x,y]=>(qKd x).bind fun ds=>(qQi y).bind fun es=>some (zipD ds es)
 |_=>none
noncomputable def enL:List D->Option (List D)
 |[x]=>(qQi x).bind fun ds=>some (wZ 0 ds)
 |_=>none
section
variable{X:Cx}{c:Nat->aZ}{E:XK}{tg e e1 e2:Expr}{s:SV}{ss:List SV}{p pos tpos:Pos}{elts:List Expr}{kk:Nat}
theorem jI(h:EV X c E e s):ID' X c E tg e (iV s):=by
 refine⟨PI.imp (zYv h.h) fun σ H R=>?_⟩;rintro⟨env,B,W,cf,w⟩;refine⟨env,B,W,cf,wp_mono (fun r w1 u H1 W1 g=>?_) (fun _ _ he=>he) (qY.mp w)⟩;obtain⟨ds,e1,w2⟩:=qU w1;obtain⟨q,vs,rfl,b1,b2⟩:=zVb g.at_ e1;rcases b1 with b1|b1
 ·exact⟨q,rfl,.inl ⟨⟨vs,jJ qT b1⟩,w2 _ H1 W1 g.st g.cf (zZd b1 b2)⟩⟩
 ·exact⟨q,rfl,.inr ⟨⟨vs,qT.tup b1⟩,w2 _ H1 W1 g.st g.cf (zWt b1 b2)⟩⟩
theorem ds1{K:aQ}{F:Hp}{x:D}(h:DsAt K c F us [x]):∃u,us=[u]/\DAt K c F u x:=by
 obtain⟨u,r,rfl,a,b⟩:=h.un;rw[b.un0];exact⟨u,rfl,a⟩
theorem ds2{K:aQ}{F:Hp}{x y:D}(h:DsAt K c F us [x,y]):∃u w,us=[u,w]/\DAt K c F u x/\DAt K c F w y:=by
 obtain⟨u,r,rfl,a,b⟩:=h.un;obtain⟨w,rfl,b2⟩:=ds1 b;exact⟨u,w,rfl,a,b2⟩
theorem qWo(hg:Gl X "range")(hm:X.mg "range"=none)(ha:VsD X c E [e] ss)(hs:aY [e] X.env=[(false,eval e X.env)]:=by rfl):ID' X c E tg (.Call (.Name "range" p) [e] [] pos) (iL rg1 ss):=by
 refine⟨PI.imp (vYb hg hm ha.h hs) fun σ H R=>?_⟩;rintro⟨env,B,W,cf,w⟩;refine qZ3 cf (qY.mp w) fun r w1 us H1 W1 g=>?_
 obtain⟨ds,e1,w2⟩:=qU w1;have ga:=g.at_;unfold rg1 at e1;split at e1
 ·rename_i j e2;rw[e2]at ga;obtain⟨u,rfl,a⟩:=ds1 ga;obtain⟨q1,q2⟩:=zZ e1;cases q2;cases a;exact⟨j,rfl,(vW6 q1).1,(vW6 q1).2,w2 _ H1 W1 g.st g.cf zWu⟩
 ·cases e1
theorem vQt(hg:Gl X "enumerate")(hm:X.mg "enumerate"=none)(ha:VsD X c E [e] ss)(hs:aY [e] X.env=[(false,eval e X.env)]:=by rfl)(hs2:aY [] X.env=[]:=by rfl):ID' X c E (.Tuple elts kk tpos) (.Call (.Name "enumerate" p) [e] [] pos) (iL enL ss):=by
 refine⟨PI.imp (zJ3 hg hm ha.h hs hs2) fun σ H R=>?_⟩;rintro⟨env,B,W,cf,w⟩;refine qZ3 cf (qY.mp w) fun r w1 us H1 W1 g=>?_
 obtain⟨ds,e1,w2⟩:=qU w1;have ga:=g.at_;unfold enL at e1;split at e1
 ·rename_i x e2;rw[e2]at ga;obtain⟨u,rfl,a⟩:=ds1 ga;obtain⟨xs,q1,e3⟩:=bnd e1;cases e3;obtain⟨q,vs,rfl,c1,c2⟩:=qYc a q1;exact⟨q,rfl,⟨_,jJ qT c1⟩,w2 _ H1 W1 g.st g.cf (zZe c1 c2)⟩
 ·cases e1
end
noncomputable def Res.ne{α:Type}:Res α->Res α
 |.ok a=>.ok a
 |_=>.no
theorem zXg{Q:α->Prop}{E E' :Nat->List (Str×D)->Prop}:∀{x:Res α},x.ne.wp Q E->x.wp Q E'
 |.ok _,h=>h
 |.er _ _,h=>h.elim
 |.no,h=>h.elim
noncomputable def wT(g:SG)(t:ST)(el:SV):List D->Ev->Res (List D×Ev)
 |[],env=>.ok ([],env)
 |d::ds,env=>(opt (g d env)).bind fun e1=>(t e1).ne.bind fun r=>cond r.1 ((el r.2).ne.bind fun v=>(wT g t el ds v.2).bind fun q=>.ok (v.1::q.1,q.2)) (wT g t el ds r.2)
noncomputable def capO(cs:List (Nat×Nat))(i:Nat):Option Nat:=match cs with
 |[]=>none
 |c::r=>if c.1=i then some c.2 else capO r i
theorem qVy:∀{cs:List (Nat×Nat)} {i j:Nat},capO cs i=some j->(i,j)∈cs
 |[],i,j,h=>by cases h
 | c::r,i,j,h=>by
   simp only[capO]at h;split at h
   ·grind
   ·exact aO _ (qVy h)
theorem vWl:∀{cs:List (Nat×Nat)} {i i' j:Nat},(cs.map (·.2)).Nodup ->(i,j)∈cs->(i',j)∈cs->i=i'
 | c::r,i,i',j,hn,h1,h2=>by
   rw[aS,cB]at hn;rcases aG.mp h1 with a1|a1
   ·grind
   ·rcases aG.mp h2 with a2 | a2
    ·grind
    ·exact vWl hn.2 a1 a2
noncomputable def capS{α:Type}(cs:List (Nat×Nat))(u:α)(l:List α):Nat->Nat->List α
 |_,0=> []
 | i,n + 1=>(match capO cs i with
   |some j=>l.getD j u
   |none=>u)::capS cs u l (i+1) n
theorem qYi{cs:List (Nat×Nat)}{u:α}{l:List α}:∀(n i:Nat),(capS cs u l i n).length =n
 | 0,i=>rfl
 |n+1,i=>by rw[capS,aK,qYi n]
theorem qJz{cs:List (Nat×Nat)}{u:α}{l:List α}:∀(n i k:Nat),k<n->(capS cs u l i n)[k]?=some (match capO cs (i+k) with
  |some j=>l.getD j u
  |none=>u)
 | 0,i,k,h=>by omega
 |n+1,i,0,h=>by rw[capS];rfl
 | n + 1,i,k + 1,h=>by
   rw[capS,List.getElem?_cons_succ,qJz n (i+1) k (by omega),show i+1+k=i+(k+1) by omega]
theorem vX2{l:List (Option α)}{v:α}(h:l.getD j none=some v):l[j]?=some (some v):=by
 rw[cU]at h;cases e:l[j]? with
 |none=>rw[e]at h;cases h
 |some o=>rw[e]at h;cases h;rfl
noncomputable def qVd(cs:List (Nat×Nat)):Nat->Nat->Ev->Ev
 |_,0,env=>env
 | i,n + 1,env=>qVd cs (i + 1) n (match capO cs i with
   |some j=>env.set j .un
   |none=>env)
noncomputable def putI(cs:List (Nat×Nat)):Nat->Ev->Ev->Ev
 |_,[],env=>env
 | i,s::inn,env=>putI cs (i + 1) inn (match capO cs i with
   |some j=>env.set j s
   |none=>env)
noncomputable def vWc(cs:List (Nat×Nat))(T:List Nat)(n m:Nat):Bool:=decide ((cs.map (·.1)).Nodup /\(cs.map (·.2)).Nodup /\∀c∈cs,c.1<n/\c.2<m/\c.1∉T)
theorem qWe{cs:List (Nat×Nat)}:∀{n i:Nat} {env:Ev},(qVd cs i n env).length =env.length
 | 0,i,env=>rfl
 | n + 1,i,env=>by
   rw[qVd,qWe];grind
theorem vV2{cs:List (Nat×Nat)}:∀{inn:Ev} {i:Nat} {env:Ev},(putI cs i inn env).length =env.length
 |[],i,env=>rfl
 | s::inn,i,env=>by
   rw[putI,vV2];grind
theorem vVw{cs:List (Nat×Nat)}{k:Nat}{o:O}:∀{n i:Nat} {env:Ev},(qVd cs i n env)[k]?=some (.s true o)->env[k]?=some (.s true o)
 | 0,i,env,h=>h
 | n + 1,i,env,h=>by
   rw[qVd]at h;have:=vVw h;grind
theorem vWv{cs:List (Nat×Nat)}{k:Nat}{o:O}:∀{inn:Ev} {i:Nat} {env:Ev},(putI cs i inn env)[k]?=some (.s true o)->env[k]?=some (.s true o)\/∃i',capO cs i' =some k/\i<=i' /\inn[i' - i]?=some (.s true o)
 |[],i,env,h=>.inl h
 | s::inn,i,env,h=>by
   rw[putI]at h;rcases vWv h with h|⟨i',h1,h2,h3⟩
   ·grind
   ·grind
section
variable{K:aQ}{c:Nat->aZ}{F H:Hp}{cs:List (Nat×Nat)}
theorem cap_in{env0:Ev}(h2:(cs.map (·.2)).Nodup)(h3:∀e∈cs,e.2<env0.length):∀{n i:Nat} {env:Ev} {W:Fp},SlAt K c F H env σ W->(∀i' j,i<=i' ->capO cs i' =some j->env[j]?=env0[j]?)->
  ∃Wi R,SlAt K c F H (capS cs .un env0 i n) (capS cs none σ i n) Wi/\SlAt K c F H (qVd cs i n env) σ R/\∀a,W a=Wi a+R a
 | 0,i,env,W,h,q=>⟨fun _=>0,W,⟨⟨rfl,h.tab⟩,fun _=>rfl⟩,h,fun a=>by(try dsimp only);omega⟩
 | n + 1,i,env,W,h,q=>by
   cases e:capO cs i with
   | none=>
     obtain⟨Wi,R,a1,a2,a3⟩:=cap_in h2 h3 (n:=n) (i:=i+1) h fun i' j hi he=>q i' j (by omega) he
     refine⟨Wi,R,?_,?_,a3⟩
     ·rw [capS,capS,e];exact⟨none,_,fun _=>0,Wi,rfl,fun _=>rfl,a1,fun a=>by(try dsimp only);omega⟩
     ·rw[qVd,e];exact a2
   | some j=>
     have hm:=qVy e;have hj:j<env0.length:=h3 _ hm;have e1:env[j]?=some env0[j]:=by rw[q i j (aB _) e];exact aF hj
     obtain⟨x,Z1,R1,k1,k2,k3,k4⟩:=h.focus e1;have k5:=k4 F H .un x (fun _=>0) R1 (Same.refl _) (fun _ _=>rfl) (fun _=>rfl) fun a=>by(try dsimp only);omega
     rw[jX k1]at k5;obtain⟨Wi,R,a1,a2,a3⟩:=cap_in h2 h3 (n:=n) (i:=i+1) k5 fun i' j' hi he=>by
      have nj:j≠j' :=fun z=>by
       subst z;have:=vWl h2 hm (qVy he);omega
      rw[bK nj];exact q i' j' (by omega) he
     refine⟨fun a=>Z1 a+Wi a,R,?_,?_,fun a=>by rw[k3,a3];(try dsimp only);omega⟩
     ·rw [capS,capS,e];refine⟨x,_,Z1,Wi,?_,?_,a1,fun _=>rfl⟩
      ·dsimp only;rw[cU,k1];rfl
      ·dsimp only;rw[cU,aF hj];exact k2
     ·rw[qVd,e];exact a2
theorem cap_out:∀{inn:Ev} {σ2:L2.St} {i:Nat} {env:Ev} {R Wi:Fp},SlAt K c F H inn σ2 Wi->SlAt K c F H env σ R->(∀(k j:Nat),capO cs (i+k)=some j->k<inn.length->j<env.length/\σ2[k]?=σ[j]?)->(∀a,Wi a+R a<=1)->∃W,SlAt K c F H (putI cs i inn env) σ W/\∀a,W a<=Wi a+R a
 |[],σ2,i,env,R,Wi,h,k,q,_=>⟨R,k,fun a=>by omega⟩
 | s::inn,σ2,i,env,R,Wi,h,k,q,nd=>by
   obtain⟨x,r,Z1,Z2,rfl,b,cc,d⟩:=h;cases e:capO cs i with
   | none=>
     obtain⟨W,h1,h2⟩:=cap_out (i:=i+1) cc k (fun m j he hm=>by
      obtain⟨q1,q2⟩:=q (m+1) j (by rw[show i+(m+1)=i+1+m by omega];exact he) (by rw[aK];omega);exact⟨q1,by simpa using q2⟩) (fun a=>by have:=nd a;rw[d]at this;omega)
     refine⟨W,?_,fun a=>by have:=h2 a;rw[d];omega⟩;rw[putI,e];exact h1
   | some j=>
     obtain⟨q1,q2⟩:=q 0 j (by rw[Nat.add_zero];exact e) (by rw[aK];omega);rw[dG]at q2;obtain⟨y,Y1,R1,k1,k2,k3,k4⟩:=k.focus (aF q1);rw[←q2]at k1;cases k1;have k5:=k4 F H s x Z1 (fun a=>Z1 a+R1 a) (Same.refl _) (fun _ _=>rfl) b fun _=>rfl
     rw[jX q2.symm]at k5;obtain⟨W,h1,h2⟩:=cap_out (i:=i+1) cc k5 (fun m j' he hm=>by
      obtain⟨g1,g2⟩:=q (m+1) j' (by rw[show i+(m+1)=i+1+m by omega];exact he) (by rw[aK];omega);exact⟨by rw[cQ];exact g1,by simpa using g2⟩) (fun a=>by have:=nd a;rw[d,k3]at this;(try dsimp only);omega)
     refine⟨W,?_,fun a=>by have:=h2 a;(try dsimp only at this);rw[d,k3];omega⟩;rw[putI,e];exact h1
theorem Cf.write{p:aZ}{ho:HO}(cf:Cf K c env σ H B W)(hp:B p≠0)(hb:Hb ho):Cf K c env σ (upd H p ho) B W:=by
 have hh:(hd2 B W) p≠0:=by dsimp only[hd2];omega
 have np:∀a,W a≠0->a≠p:=fun a z y=>by have:=cf.nd a;rw[y]at z this;omega
 refine⟨by rw[qYf hh];exact cf.at_.keep (Same.refl _) fun a z=>vQ (np a z),cf.nd,fun a z=>?_⟩;by_cases y:a=p
 ·subst y;exact⟨ho,upd_same,hb⟩
 ·rw[vQ y];exact cf.hb a z
end
noncomputable def compS(n:Nat)(cs:List (Nat×Nat))(T:List Nat)(it:SI)(g:SG)(t:ST)(el:SV):SE:=fun env=>(it env).bind fun r=>cond (vWc cs T n r.2.length && decide (r.1.length<=lim))
 ((wT g t el r.1 (capS cs .un r.2 0 n)).bind fun q=>.ok (.ow .lst (q.1.map .fz),putI cs 0 q.2 (qVd cs 0 n r.2))) .no
structure TDs(X:Cx)(c:Nat->aZ)(E:XK)(ifs:List Expr)(t:ST):Prop where
 h:PTs X ifs (tT X.K c E t)
noncomputable def bTrue:ST:=fun env=>.ok (true,env)
theorem PTs.imp{e:List Expr}{t:TT}(h:PTs X e t)(k:∀σ H Q,t' σ H Q->t σ H Q):PTs X e t' :=fun pins s σ H Q I q=>h pins s σ H Q I (k σ H Q q)
theorem yG:TDs X c E [] bTrue:=by
 refine⟨PTs.imp zJr fun σ H Q=>?_⟩;rintro⟨env,B,W,cf,w⟩;exact w H W .refl cf
theorem vQf{t:ST}(h:TD X c E e t):TDs X c E [e] t:=⟨zJq h.h⟩
noncomputable abbrev EN' :XK:=fun _ _ _=>False
set_option maxHeartbeats 1000000 in
theorem vVz{K:aQ}{cs:List (Nat×Nat)}{T:List Nat}{t:ST}{el:SV}(h:tE K c E (compS n cs T it g t el) σ H Q):
  tComp (tIt K c E it) (tG K c T g) (tT K c EN' t) (tV K c EN' el) (fun σ=>capS cs none σ 0 n) σ H Q:=by
 obtain⟨env,B,W,cf,w⟩:=h;refine⟨env,B,W,cf,wp_mono (fun r1 h1 J H1 W1 st1 cf1 iter p hp=>?_) (fun _ _ he=>he) (qY.mp w)⟩;obtain⟨ds,e1⟩:=r1;obtain⟨hck,h1⟩:=vL h1;rw[aD]at hck;obtain⟨n1,n2,n3⟩:=(of_decide_eq_true hck.1:(cs.map (·.1)).Nodup /\(cs.map (·.2)).Nodup /\∀c∈cs,c.1<n/\c.2<e1.length/\c.1∉T)
 have hlim:ds.length<=lim:=of_decide_eq_true hck.2;obtain⟨Wi,R,i1,i2,i3⟩:=cap_in n2 (fun e he=>(n3 e he).2.1) (n:=n) (i:=0) cf1.at_ (fun _ _ _ _=>rfl);have nd1:∀a,B a+(Wi a+R a)<=1:=fun a=>by have:=cf1.nd a;rw[i3]at this;exact this
 obtain⟨pB,pW⟩:=cf1.fresh hp;have pWi:Wi p=0/\R p=0:=by have:=i3 p;omega
 have smp:Same H1 (upd H1 p (.lst [])):=.upd hp;have cellp:∀a,a≠p->upd H1 p (.lst []) a=H1 a:=fun a z=>vQ z
 let B0:Fp:=fun a=>B a+R a
 have hB0:∀a,B0 a=B a+R a:=fun _=>rfl
 have sm0:Same (hide (hd2 B W1) H1) (hide (hd2 (hd2 B0 (one p)) Wi) (upd H1 p (.lst []))):=zV fun a o z q=>by
  have ne:a≠p:=fun y=>by rw[y,hp]at q;cases q
  have:=xV ne;have:=i3 a;have:=hB0 a;dsimp only[hd2]at *;exact⟨by omega,by rw[cellp a ne];exact q⟩
 have cfI:Cf K c (capS cs .un e1 0 n) (capS cs none σ 0 n) (upd H1 p (.lst [])) (hd2 B0 (one p)) Wi:=by
  refine⟨i1.keep sm0 fun a z=>cellp a fun y=>by rw[y]at z;omega,fun a=>?_,fun a z=>?_⟩
  ·have:=nd1 a;have:=hB0 a;by_cases y:a=p
   ·subst y;dsimp only[hd2];rw[jR];omega
   ·dsimp only[hd2];rw[xV y];omega
  ·by_cases y:a=p
   ·subst y;exact⟨_,upd_same,trivial⟩
   ·rw [cellp a y];exact cf1.hbs (by have:=i3 a;have:=hB0 a;dsimp only[hd2]at z;rw[xV y]at z;omega)
 generalize hPost:(fun r:List D×Ev=>∀u H' W' Z,Got K c env σ H B W (putI cs 0 r.2 (qVd cs 0 n e1)) H' W' Z (.ow .lst (r.1.map .fz)) u->Q u H')=Post
 let Inv:Nat->Nat->L2.St->List V->Hp->Prop:=fun i m σ2 ys H2=>m=ds.length - i/\i<=ds.length/\∃inn W2 out,Step (capS cs .un e1 0 n) (capS cs none σ 0 n) (upd H1 p (.lst [])) B0 (hd2 Wi (one p)) inn σ2 H2 (hd2 W2 (one p))/\Cf K c inn σ2 H2 (hd2 B0 (one p)) W2/\
  H2 p=some (.lst ys)/\DsAt K c (hide (hd2 (hd2 B0 (one p)) W2) H2) ys out/\ys.length<=i/\(∀e∈cs,σ2[e.1]?=(capS cs none σ 0 n)[e.1]?)/\(wT g t el (ds.drop i) inn).wp (fun q=>Post (out ++ q.1,q.2)) (fun _ _=>True)
 refine⟨Inv,⟨ds.length,by simp,bO _,_,Wi,[],.refl,cfI,upd_same,.nil,aB _,fun _ _=>rfl,?_⟩,?_⟩
 ·refine wp_mono (fun q hq=>?_) (fun _ _ _=>trivial) (qY.mp h1);subst hPost;exact hq
 rintro i m σ2 ys H2 ⟨rfl,hi,inn,W2,out,st2,cf2,at2,dsO,hly,hσ,w2⟩;refine⟨at2,qJ9 (by omega),?_⟩;have eqI:hide (hd2 (hd2 B0 (one p)) Wi) (upd H1 p (.lst []))=hide (hd2 B0 (hd2 Wi (one p))) (upd H1 p (.lst [])):=zJ fun a=>by dsimp only[hd2];omega
 have eq2:hide (hd2 (hd2 B0 (one p)) W2) H2=hide (hd2 B0 (hd2 W2 (one p))) H2:=zJ fun a=>by dsimp only[hd2];omega
 have smI:Same (hide (hd2 B W1) H1) (hide (hd2 (hd2 B0 (one p)) W2) H2):=sm0.trans (by rw[eqI,eq2];exact st2.same);have p0:B0 p=0:=by rw[hB0];omega
 have pBp:(hd2 B0 (one p)) p≠0:=by dsimp only[hd2];rw[jR];omega
 obtain⟨it1,it2⟩:=iter i H2 (hd2 (hd2 B0 (one p)) W2) smI (fun a z=>cf2.hbs z);by_cases hlt:i<ds.length
 ·obtain⟨go,yl⟩:=it1 ds[i] (aF hlt);refine .inr ⟨go,fun x H3 y=>?_⟩;obtain⟨sm3,hx⟩:=yl x H3 y;rw[List.drop_eq_getElem_cons hlt]at w2;obtain⟨e3,e2,w3⟩:=qU w2;refine⟨inn,_,W2,ds[i],e3,cf2.grow sm3,hx,e2,fun σ4 W4 st4 cf4 kσ=>⟨e3,_,W4,cf4,wp_mono (fun r q H5 W5 st5 cf5=>?_) (fun _ _ he=>he) (zXg (E' :=erP K c EN' H3 (hd2 B0 (one p)) W4) (qY.mp w3))⟩⟩;obtain⟨b,e5⟩:=r;have st25:=((Step.grow cf2 sm3).trans st4).trans st5;have at5:H5 p=some (.lst ys):=by rw[st25.by_ p pBp];exact at2
  have hσ4:∀e∈cs,σ4[e.1]?=(capS cs none σ 0 n)[e.1]?:=fun e he=>(kσ e.1 (n3 e he).2.2).trans (hσ e he)
  cases b with
  | false=>
    have l25:=st25.lift (B:=B0) (Z:=one p) (W' :=hd2 W2 (one p)) (Y' :=hd2 W5 (one p)) (fun _=>rfl) (fun _=>rfl) (fun _=>rfl);exact⟨ds.length - (i+1),by omega,rfl,hlt,e5,W5,out,st2.trans l25,cf5,at5,dsO.same st25.same,by omega,hσ4,q⟩
  | true=>
    refine⟨e5,_,W5,cf5,wp_mono (fun r q u H6 W6 g6=>?_) (fun _ _ he=>he) (zXg (E' :=erP K c EN' H5 (hd2 B0 (one p)) W5) (qY.mp q))⟩;obtain⟨v,e6⟩:=r;have st26:=st25.trans g6.st;have at6:H6 p=some (.lst ys):=by rw[st26.by_ p pBp];exact at2
    have l26:=st26.lift (B:=B0) (Z:=one p) (W' :=hd2 W2 (one p)) (Y' :=hd2 W6 (one p)) (fun _=>rfl) (fun _=>rfl) (fun _=>rfl);have hh6:(hd2 (hd2 B0 (one p)) W6) p≠0:=by dsimp only[hd2]at *;omega
    have hh7:(hd2 B0 (hd2 W6 (one p))) p≠0:=by dsimp only[hd2];rw[jR];omega
    have wr:Step e6 σ4 H6 B0 (hd2 W6 (one p)) e6 σ4 (upd H6 p (.lst (ys ++ [u]))) (hd2 W6 (one p)):=by
     refine⟨by rw[qYf hh7];exact Same.refl _,fun a z=>vQ fun y=>by rw[y]at z;exact z p0,fun a z=>.inl z,fun a z=>?_,fun a _ _=>?_,fun _ o h=>⟨⟨o,h⟩,rfl⟩,rfl⟩
     ·by_cases y:a=p
      ·subst y;rw[upd_same]at z;cases z
      ·rw[vQ y]at z;exact z
     ·by_cases y:a=p
      ·subst y;rw[at6];trivial
      ·exact .of (vQ y)
    refine⟨at6,ds.length - (i+1),by omega,rfl,hlt,e6,W6,out ++ [v],(st2.trans l26).trans wr,g6.cf.write pBp trivial,upd_same,?_,by rw[aU,List.length_singleton];omega,hσ4,?_⟩
    ·rw [qYf hh6];exact(dsO.same st26.same).append (.cons g6.at_ .nil)
    ·exact wp_mono (fun q hq=>by rw[List.append_assoc];exact hq) (fun _ _ _=>trivial) (qY.mp q)
 ·have hi2:i=ds.length:=by omega
  subst hi2;refine .inl ⟨it2 rfl,?_⟩;rw[List.drop_length]at w2;have w3:Post (out ++ [],inn):=w2;rw[bL,←hPost]at w3;have nd2:∀a,B a+R a+one p a+W2 a<=1:=fun a=>by have:=cf2.nd a;have:=hB0 a;dsimp only[hd2]at *;omega
  have cellR:∀a,R a≠0->H2 a=H1 a:=fun a z=>by
   rw[st2.by_ a (by rw[hB0];omega)];exact cellp a fun y=>by rw[y]at z;omega
  have linn:inn.length=n:=by rw[st2.len,qYi]
  obtain⟨W3,o1,o2⟩:=cap_out (cs:=cs) (i:=0) cf2.at_ (i2.keep smI cellR) (fun k j he hk=>by
   rw[Nat.zero_add]at he;have hm:=qVy he;obtain⟨m1,m2,_⟩:=n3 _ hm;refine⟨by rw[qWe];exact m2,?_⟩;rw[hσ _ hm];show(capS cs none σ 0 n)[k]?=σ[j]?;have hj:j < σ.length:=by rw[←cf1.len];exact m2
   rw[qJz n 0 k m1,Nat.zero_add,he];dsimp only;rw[cU,aF hj];rfl) (fun a=>by have:=nd2 a;omega)
  have smE:Same (hide (hd2 (hd2 B0 (one p)) W2) H2) (hide (hd2 (hd2 B (one p)) W3) H2):=v7 fun a z=>by have:=o2 a;have:=hB0 a;dsimp only[hd2]at *;omega
  have eqE:hide (hd2 (hd2 B (one p)) W3) H2=hide (hd2 B (hd2 W3 (one p))) H2:=zJ fun a=>by dsimp only[hd2];omega
  refine w3 (.ref p) H2 W3 (one p) ⟨st1.trans ⟨by rw[←eqE];exact smI.trans smE,fun a z=>?_,fun a z=>?_,fun a z=>?_,fun a z1 z2=>?_,fun k o h=>⟨?_,rfl⟩,by rw[vV2,qWe]⟩,⟨o1.keep smE fun _ _=>rfl,fun a=>?_,fun a z=>?_⟩,OAt.ow.mpr ⟨p,ys,fun _=>0,rfl,at2,OsAt.fzs.mpr ⟨dsO.same smE,fun _=>rfl⟩,fun _=>rfl⟩⟩
  ·rw [st2.by_ a (by rw [hB0];omega)];exact cellp a fun y=>by rw[y]at z;omega
  ·by_cases y:a=p
   ·exact .inr (by rw[y];exact hp)
   ·have y1:=xV y;have:=o2 a;by_cases q:R a=0
    ·rcases st2.new a (by dsimp only [hd2] at *;omega) with q1 | q1
     ·exact .inl (by rw[i3];dsimp only[hd2]at q1;omega)
     ·exact .inr (by rw[cellp a y]at q1;exact q1)
    ·exact .inl (by rw[i3];omega)
  ·have:=st2.dom a z;by_cases y:a=p
   ·subst y;rw[upd_same]at this;cases this
   ·rw[cellp a y]at this;exact this
  ·have y:a≠p:=fun y=>by rw [y] at z1;exact z1 pW
   have y1:=xV y;by_cases q:R a=0
   ·have:=st2.pin a (by have:=i3 a;dsimp only [hd2];omega) (by have:=o2 a;dsimp only [hd2] at *;omega);rw[cellp a y]at this;exact this
   ·exact .of (cellR a q)
  ·rcases vWv h with h | ⟨i',k1,_,k3⟩
   ·exact⟨o,vVw h⟩
   ·rw [Nat.sub_zero] at k3;obtain⟨⟨o0,k4⟩,_⟩:=st2.io i' o k3;have hi' :i'<n:=by rw[←linn];exact(aL.mp k3).1
    rw[qJz n 0 i' hi',Nat.zero_add,k1]at k4;have k5:=Option.some.inj k4;dsimp only at k5;rw[cU]at k5;cases e:e1[k]? with
    |none=>rw[e]at k5;cases k5
    |some s=>rw[e]at k5;exact⟨o0,by rw[←k5];rfl⟩
  ·have:=nd2 a;have:=o2 a;dsimp only[hd2];omega
  ·exact cf2.hb a (by have:=hB0 a;dsimp only[hd2]at *;omega)
noncomputable def CapP(X:Cx)(ns:List (Str×NameKind))(Nc:List Str):List (Nat×Nat)->Prop
 |[]=>True
 |c::r=>(∃x,Nc[c.1]?=some x/\X.N[c.2]?=some x/\ns.lookup x=some .cell /\X.env.kindOf x=some .cell)/\CapP X ns Nc r
noncomputable def vKy(X:Cx):List (Str×aZ)->Prop
 |[]=>True
 |p::r=>X.env.cells.lookup p.1=some p.2/\vKy X r
theorem vZl{ns:List (Str×NameKind)}:∀{cs:List (Nat×Nat)} {c:Nat×Nat},CapP X ns Nc cs->c∈cs->∃x,Nc[c.1]?=some x/\X.N[c.2]?=some x/\ns.lookup x=some .cell /\X.env.kindOf x=some .cell
 | d::r,c,h,m=>by
   rcases aG.mp m with rfl|m
   ·exact h.1
   ·exact vZl h.2 m
theorem qKy:∀{cl:List (Str×aZ)} {x:Str} {c:aZ},vKy X cl->cl.lookup x=some c->X.env.cells.lookup x=some c
 |[],x,c,_,e=>by cases e
 | p::r,x,c,h,e=>by
   rw[List.lookup_cons]at e;split at e
   ·rename_i q;have q' :x=p.1:=by simpa using q
    cases e;rw[q'];exact h.1
   ·exact qKy h.2 e
theorem qZy:∀{cl:List (Str×α)} {x:Str},x∈cl.map (·.1)->∃c,cl.lookup x=some c
 | p::r,x,h=>by
   rw[List.lookup_cons];split
   ·exact⟨_,rfl⟩
   ·rename_i q;rw[aS]at h;rcases aG.mp h with z|z
    ·subst z;simp at q
    ·exact qZy z
theorem vVu{cl:List (Str×aZ)}(cs:List (Nat×Nat))(ns:List (Str×NameKind))(xs:List Str)(hrel:(relabel scope X.env).names =ns)(hclos:closureFor scope X.env=pure cl)(hxs:cl.map (·.1)=xs)(hk:scope.kind=.function)(hnc:∀y∈scope.names,y.2≠ .cell)(hnm:∀y∈scope.names,y.2=.local ->scope.names.lookup y.1=some .local)(hcell:vKy X cl)(honly:∀y∈ns,y.2=.cell \/y.2=.free ->y.1∈xs)(hcap:CapP X ns Nc cs):
  Caps X scope cl Nc (fun σ=>capS cs none σ 0 Nc.length) where
 clos:=hclos;kind:=hk;nocell:=hnc;names:=hnm;cells:=fun y d e=>qKy hcell e
 has:=fun y h=>by
  rw[hrel]at h;refine qZy ?_
  rw[hxs];rcases h with h|h
  ·exact honly _ (cJ h) (.inl rfl)
  ·exact honly _ (cJ h) (.inr rfl)
 len:=fun σ=>qYi _ _
 cap:=fun σ k y v e1 e2 _=>by
  have hk:k<Nc.length:=(aL.mp e1).1;rw[qJz _ 0 k hk,Nat.zero_add]at e2;cases q:capO cs k with
  |none=>rw[q]at e2;cases e2
  | some j=>
    rw[q]at e2;obtain⟨x,h1,h2,h3,h4⟩:=vZl hcap (qVy q);dsimp only at h1 h2;rw[e1]at h1;cases h1;exact⟨.inl (by rw[hrel];exact h3),.inl h4,j,h2,vX2 (Option.some.inj e2),.inr (.inl h4)⟩
theorem qWc(hk:scope.kind=.function)(hfree:∀x∈scope.names,x.2≠ .free)(hcell:∀x∈scope.names,x.2≠ .cell)(hnames:∀y∈scope.names,y.2=.local ->scope.names.lookup y.1=some .local):
  Caps X scope [] Nc (fun σ=>capS [] none σ 0 Nc.length):=by
 have e:(fun σ:L2.St=>capS [] none σ 0 Nc.length)=(fun _=>List.replicate Nc.length none):=by
  funext σ;have:∀n i,capS [] (none:Option V) σ i n=List.replicate n none:=fun n=>by
   induction n with
   |zero=>intro i;rfl
   |succ n ih=>intro i;rw[capS,ih,List.replicate_succ];rfl
  grind
 rw[e];exact jV1 hk hfree hcell hnames
section
variable{X:Cx}{c:Nat->aZ}{E:XK}{tg iter elt:Expr}{ifs:List Expr}{scope:Scope}{cl:List (Str×aZ)}{Nc:List Str}{cs:List (Nat×Nat)}{T:List Nat}{pos:Pos}{it:SI}{g:SG}{t:ST}{el:SV}
theorem xY(hc:X.calm=true)(cp:Caps X scope cl Nc (fun σ=>capS cs none σ 0 Nc.length))(hi:ID' X c E tg iter it)(hg:∀C s H fp,GD (cCx X scope cl C Nc s H fp) c tg T g)(ht:∀C s H fp,TDs (cCx X scope cl C Nc s H fp) c EN' ifs t)(he:∀C s H fp,EV (cCx X scope cl C Nc s H fp) c EN' elt el)(hs:∀x,foldedSetIterable iter X.env x=pure x:=by intro _;rfl):ED X c E (.ListComp elt [⟨tg,iter,ifs,0⟩] scope pos) (compS Nc.length cs T it g t el):=
 ⟨PE.imp (zJ7 hc cp hi.h (fun C s H fp=>(hg C s H fp).h) (fun C s H fp=>(ht C s H fp).h) (fun C s H fp=>(he C s H fp).h) hs) fun _ _ _ h=>vVz h⟩
theorem zYf{K:aQ}{s:SE}{D:Ends}{x:Str}(hi:N[i]?=some x)(hl:σ.length=N.length)(h:tS K c E (sSet i s) D σ H):tE K c E s σ H fun x H1=>vVr i x σ H1 D.nx:=by
 obtain⟨env,B,W,cf,w⟩:=h;refine⟨env,B,W,cf,wp_mono (fun r1 h1 u H1 W1 Z g=>?_) (fun _ _ he=>he) (qY.mp w)⟩;obtain⟨W2,s2,c2⟩:=g.r.put (vQm g.cf hl hi);exact h1 _ H1 W2 s2 c2
theorem zJh{y:Str}{py spos:Pos}(hc:X.calm=true)(hN:X.N.Nodup)(hiy:X.N[i]?=some y)(hy:Loc X.env.scope y)(cp:Caps X scope cl Nc (fun σ=>capS cs none σ 0 Nc.length))(hi:ID' X c E tg iter it)(hg:∀C s H fp,GD (cCx X scope cl C Nc s H fp) c tg T g)(ht:∀C s H fp,TDs (cCx X scope cl C Nc s H fp) c EN' ifs t)(he:∀C s H fp,EV (cCx X scope cl C Nc s H fp) c EN' elt el)(hsw:swapsWith (.ListComp elt [⟨tg,iter,ifs,0⟩] scope pos) (some (.Name y py)) spos.line X.env=pure true:=by rfl)(hs:∀x,foldedSetIterable iter X.env x=pure x:=by intro _;rfl)(hf:X.fn y=true\/X.env.scope.names.lookup y=some .local :=by first|exact .inl rfl|exact .inr rfl|assumption):
  SD X c E (.Assign [.Name y py] (.ListComp elt [⟨tg,iter,ifs,0⟩] scope pos) spos) (sSet i (compS Nc.length cs T it g t el)):=
 ⟨PS.len (PS.imp (zJv hc hN hiy hy cp hi.h (fun C s H fp=>(hg C s H fp).h) (fun C s H fp=>(ht C s H fp).h) (fun C s H fp=>(he C s H fp).h) hsw hs hf) fun D σ H h=>vVz (n:=Nc.length) (cs:=cs) (T:=T) (it:=it) (g:=g) (t:=t) (el:=el) (zYf hiy h.1 h.2))⟩
end
theorem zY9:zC (CXd P w) X EN' :=fun _ _ _ _ _ _ _ h=>by
 obtain⟨_,_,_,_,_,_,_,_,_,_,_,_,_,_,_,_,h⟩:=h;exact h.elim
noncomputable def evI:Option SV->Ev->Res (Option Int×Ev)
 |none,env=>.ok (none,env)
 |some s,env=>(s env).bind fun r=>(opt (xT r.1)).bind fun i=>.ok (some i,r.2)
noncomputable def tI(K:aQ)(c:Nat->aZ)(E:XK)(s:Option SV):TO:=fun σ H Q=>∃env B W,Cf K c env σ H B W/\(evI s env).wp (fun r=>∀H' W',Step env σ H B W r.2 σ H' W' ->Cf K c r.2 σ H' B W' ->Q r.1 H') (erP K c E H B W)
structure PD(X:Cx)(c:Nat->aZ)(E:XK)(e:Option Expr)(s:Option SV):Prop where
 h:PO X e (tI X.K c E s)
theorem PO.imp{e:Option Expr}{t t' :TO}(h:PO X e t)(k:∀σ H Q,t' σ H Q->t σ H Q):PO X e t' :=fun pins s σ H Q I q=>h pins s σ H Q I (k σ H Q q)
theorem zWc:PD X c E none none:=by
 refine⟨PO.imp zJz fun σ H Q=>?_⟩;rintro⟨env,B,W,cf,w⟩;exact w H W .refl cf
theorem zWb{s:SV}(h:EV X c E e s):PD X c E (some e) (some s):=by
 refine⟨PO.imp (zJy h.h) fun σ H Q=>?_⟩;rintro⟨env,B,W,cf,w⟩;refine⟨env,B,W,cf,wp_mono (fun r1 h1 u H1 W1 g=>?_) (fun _ _ he=>he) (qY.mp w)⟩;obtain⟨i,e1,h2⟩:=qU h1;exact⟨i,zE g.at_ e1,h2 H1 W1 g.st g.cf⟩
noncomputable def cutL{α:Type}(xs:List α)(lo hi:Option Int):List α:=(xs.drop (HT.sIx xs.length 0 lo)).take (HT.sIx xs.length xs.length hi - HT.sIx xs.length 0 lo)
theorem jQi{K:aQ}{F:Hp}{ds:List D}{lo hi:Option Int}(h:DsAt K c F vs ds):DsAt K c F (cutV vs lo hi) (cutL ds lo hi):=by
 unfold cutV cutL;rw[h.len];exact(h.drop _).take _
noncomputable def eSlL(o:Oe)(lo hi:Option SV):SE:=fun env=>(evO o env).bind fun r=>(evI lo r.2).bind fun r1=>(evI hi r1.2).bind fun r2=>cond r.1.st ((rsvB r2.2 r.1).bind fun x=>(opt (qQi x.1)).bind fun ds=>.ok (.ow .lst ((cutL ds r1.1 r2.1).map .fz),x.2)) .no
section
variable{X:Cx}{c:Nat->aZ}{E:XK}{e:Expr}{lo hi:Option Expr}{pos p2:Pos}{o:Oe}{sl sh:Option SV}
theorem Vw.lst{K:aQ}{F:Hp}{u:V}{x:D}{ds:List D}(s:Same F H)(h:Vw K c F H u x)(e:qQi x=some ds):∃p vs,u=.ref p/\SqL K H p vs/\DsAt K c F vs ds:=by
 unfold qQi at e;split at e
 ·cases e;exact h.un s
 ·cases e
theorem zZo(he:OD X c E e o)(hl:PD X c E lo sl)(hu:PD X c E hi sh):ED X c E (.Subscript e (.Slice lo hi none p2) pos) (eSlL o sl sh):=by
 refine⟨PE.imp (zVn zJb he.h hl.h hu.h) fun σ H Q=>?_⟩;rintro⟨env,B,W,cf,w⟩;refine qVg cf (qY.mp w) fun r w1 u H1 W1 g=>?_
 refine⟨r.2,B,W1,g.cf,wp_mono (fun r2 h2 H2 W2 st2 cf2=>?_) (fun _ _ he=>he.back g.st) (qY.mp w1)⟩;refine⟨r2.2,B,W2,cf2,wp_mono (fun r3 h3 H3 W3 st3 cf3=>?_) (fun _ _ he=>he.back (g.st.trans st2)) (qY.mp h2)⟩;obtain⟨hs,w4⟩:=vL h3;have ha:=(g.at_.step st2.same hs).step st3.same hs;obtain⟨x,env4,W4,st4,cf4,vw,w5⟩:=vWr cf3 ha (qY.mp w4);obtain⟨ds,e1,w6⟩:=qU w5;obtain⟨p,vs,rfl,b1,b2⟩:=vw.lst qT e1;refine⟨p,vs,rfl,b1,fun q hq=>?_⟩;have sm:Same H3 (upd H3 q (.lst (cutV vs r2.1 r3.1))):=.upd hq;exact w6 (.ref q) _ W4 _ ((Got.lay cf4 hq sm (k:=.lst) upd_same ((jQi b2).same (qYd cf4 hq sm))).back (((g.st.trans st2).trans st3).trans st4))
end
section
variable{K:aQ}{c:Nat->aZ}
noncomputable def lenD:List D->Option D
 |[.nd .lst ds]=>some (.int ds.length)
 |[.nd .tup ds]=>some (.int ds.length)
 |[.nd (.dct ks) _]=>some (.int ks.length)
 |[.str z]=>cond (decide (z.length<=aA)) (some (.int z.length)) none
 |_=>none
noncomputable def rLen(K:aQ):List V->Hp->VK->Prop:=fun xs H Q=>(∃p ys,xs=[.ref p]/\(SqL K H p ys\/SqT K H p ys)/\Q (.int ys.length) H)\/(∃z,xs=[.str z]/\z.length<=aA/\Q (.int z.length) H)\/(∃p ws,xs=[.ref p]/\Rd H p (.dK ws)/\Q (.int (ws.length:Nat)) H)
theorem vKc:zL X (.builtin "len") (fun xs H Q=>∃p ws,xs=[.ref p]/\Rd H p (.dK ws)/\Q (.int (ws.length:Nat)) H):=by
 intro pins s σ H xs us Q I r h;obtain⟨p,ws,rfl,hp,q⟩:=h;obtain⟨u,rfl,ru⟩:=qVb r;cases ru;exact jVx I hp fun t s' I' =>⟨.int ws.length,H,I',⟨_,rfl⟩,q⟩
theorem vKd:zL X (.builtin "len") (rLen X.K):=vVi.or (vVh.or vKc)
theorem zYt:PrSN K c (rLen K) lenD:=fun us H xs z Q hv e q=>by
 unfold lenD at e;split at e
 ·cases e;obtain⟨u,rfl,a⟩:=ds1 hv;obtain⟨p,vs,rfl,h1,h2⟩:=a.un;exact .inl ⟨p,vs,rfl,.inl h1,by rw[h2.len];exact q _ fun _=>.int _⟩
 ·cases e;obtain⟨u,rfl,a⟩:=ds1 hv;obtain⟨p,vs,rfl,h1,h2⟩:=a.un;exact .inl ⟨p,vs,rfl,.inr h1,by rw[h2.len];exact q _ fun _=>.int _⟩
 ·cases e;obtain⟨u,rfl,a⟩:=ds1 hv;obtain⟨p,vs,rfl,⟨h1,h2,h3⟩,h4⟩:=a.un;refine .inr (.inr ⟨p,_,rfl,h3,?_⟩);rw[List.length_zip,←h1,Nat.min_self];exact q _ fun _=>.int _
 ·rename_i z';obtain⟨q1,q2⟩:=zZ e;cases q2;obtain⟨u,rfl,a⟩:=ds1 hv;cases a;exact .inr (.inl ⟨z',rfl,of_decide_eq_true q1,q _ fun _=>.int _⟩)
 ·cases e
noncomputable def intD:List D->Option D
 |[.int i]=>some (.int i)
 |[.bl k]=>some (.int (if k then 1 else 0))
 |_=>none
theorem zYu:PrSN K c (fun xs H Q=>(∃i,xs=[.int i]/\Q (.int i) H)\/∃k,xs=[.bl k]/\Q (.int (if k then 1 else 0)) H) intD:=fun us H xs z Q hv e q=>by
 unfold intD at e;split at e
 ·cases e;obtain⟨u,rfl,a⟩:=ds1 hv;cases a;exact .inl ⟨_,rfl,q _ fun _=>.int _⟩
 ·cases e;obtain⟨u,rfl,a⟩:=ds1 hv;cases a;exact .inr ⟨_,rfl,q _ fun _=>.int _⟩
 ·cases e
noncomputable def qX0:List D->Option (List Int)
 |[]=>some []
 |d::r=>(xT d).bind fun i=>(qX0 r).bind fun xs=>some (i::xs)
theorem qYu:∀xs:List Int,qX0 (xs.map D.int)=some xs
 |[]=>rfl
 |x::xs=>by rw[aS,qX0,qYu xs];rfl
theorem qWq{F:Hp}:∀{vs:List V} {ds:List D} {ns:List Int},DsAt K c F vs ds->qX0 ds=some ns->vs=ns.map V.int
 |vs,[],ns,h,e=>by cases e;rw[h.un0];rfl
 | vs,d::ds,ns,h,e=>by
   obtain⟨v,r,rfl,a,b⟩:=h.un;obtain⟨i,e1,e2⟩:=bnd e;obtain⟨xs,e3,e4⟩:=bnd e2;cases e4;rw[aS,←qWq b e3,zE a e1]
noncomputable def qXq:List D->Option (List Int)
 |[.nd .lst ds]=>qX0 ds
 |_=>none
theorem zZh{xs:List D}{ns:List Int}(hv:DsAt K c H us xs)(e:qXq xs=some ns):∃p,us=[.ref p]/\SqL K H p (ns.map V.int):=by
 unfold qXq at e;split at e
 ·obtain⟨u,rfl,a⟩:=ds1 hv;obtain⟨p,vs,rfl,h1,h2⟩:=a.un;have h1' :SqL K H p vs:=h1;rw[qWq h2 e]at h1';grind
 ·cases e
noncomputable def sumD(xs:List D):Option D:=(qXq xs).bind fun ns=>some (.int ns.sum)
theorem zYs:PrSN K c (fun xs H Q=>∃(p:aZ) (ns:List Int),xs=[.ref p]/\SqL K H p (ns.map V.int)/\Q (.int ns.sum) H) sumD:=fun us H xs z Q hv e q=>by
 obtain⟨ns,e1,e2⟩:=bnd e;cases e2;obtain⟨p,rfl,h⟩:=zZh hv e1;exact⟨p,ns,rfl,h,q _ fun _=>.int _⟩
noncomputable def listD:List D->Option (List D)
 |[d]=>qWr d
 |_=>none
theorem vws1{F:Hp}{x:D}(h:Vws K c F H us [x]):∃u,us=[u]/\Vw K c F H u x:=by
 cases us with
 |nil=>exact h.elim
 | cons u us=>
   cases us with
   |nil=>exact⟨u,rfl,h.1⟩
   |cons _ _=>exact h.2.elim
theorem Vw.seq{F:Hp}{u:V}{d:D}{ds:List D}(s:Same F H)(h:Vw K c F H u d)(e:qWr d=some ds):∃p vs,u=.ref p/\(SqL K H p vs\/SqT K H p vs)/\DsAt K c F vs ds:=by
 unfold qWr at e;split at e
 ·cases e;obtain⟨p,vs,a,b,r⟩:=h.un s;exact⟨p,vs,a,.inl b,r⟩
 ·cases e;obtain⟨p,vs,a,b,r⟩:=h.un s;exact⟨p,vs,a,.inr b,r⟩
 ·cases e
theorem vYm{T:Fp}{p:aZ}(hn:H p=none)(sm:Same H H'):Same (hide T H) (hide (hd2 T (one p)) H'):=zV fun a o z q=>⟨by
 have np:a≠p:=fun z=>by rw[z,hn]at q;cases q
 have:=xV np;dsimp only[hd2];omega,sm a o q⟩
theorem zJw:PrF K c (fun xs H Q=>∃p ys,xs=[.ref p]/\(SqL K H p ys\/SqT K H p ys)/\∀l,H l=none->Q (.ref l) (upd H l (.lst ys))) listD:=fun us H T xs ds Q hb hv e q=>by
 unfold listD at e;split at e
 ·obtain⟨u,rfl,v⟩:=vws1 hv;obtain⟨p,vs,rfl,h1,h2⟩:=v.seq qT e;exact⟨p,vs,rfl,h1,fun l hl=>q l vs _ hl (.upd hl) upd_same (h2.same (vYm hl (.upd hl)))⟩
 ·cases e
noncomputable def tupleD:List D->Option D
 |[.nd .lst ds]=>some (.tup ds)
 |_=>none
theorem zVj:PrA K c (fun xs H Q=>∃p ys,xs=[.ref p]/\((SqL K H p ys/\∀l,H l=none->Q (.ref l) (upd H l (.tup ys)))\/(SqT K H p ys/\Q (.ref p) H))) tupleD:=fun us H T xs z Q hb hv e q=>by
 unfold tupleD at e;split at e
 ·cases e;obtain⟨u,rfl,v⟩:=vws1 hv;obtain⟨p,vs,rfl,h1,h2⟩:=v.un qT;refine⟨p,vs,rfl,.inl ⟨h1,fun l hl=>?_⟩⟩;have sm:Same H (upd H l (.tup vs)):=.upd hl;have hp:T l=0:=by
   grind
  exact q _ _ sm (.of (k:=.tup) (SqT.of (by rw[vD hp,upd_same])) (h2.same (zV fun a o z y=>⟨z,sm a o y⟩)))
 ·cases e
end
noncomputable def jQv(K:aQ):R2:=fun x y H Q=>∃l b xs zs,x=.ref l/\y=.ref b/\SqL K H l xs/\SqL K H b zs/\xs.length+zs.length<=aA/\∀p,H p=none->Q (.ref p) (upd H p (.lst (xs ++ zs)))
theorem zWh:OpR X (binaryOp .Add) (jQv X.K):=by
 intro pins s σ H x y v u Q I rx ry h;obtain⟨l,b,xs,zs,rfl,rfl,hH,hB,hz,q⟩:=h;cases rx;cases ry;obtain⟨its,r,pl,_⟩:=I.list hH;obtain⟨its2,r2,pl2,_⟩:=I.list hB;obtain⟨⟨cls,dd,data,sl⟩,n,ho,hc,_,hd⟩:=pl;obtain⟨⟨cls2,dd2,data2,sl2⟩,n2,ho2,hc2,_,hd2⟩:=pl2;subst hc hd hc2 hd2;have hl:=r.length;have hl2:=r2.length;refine concat_meets ⟨_,ho,rfl⟩ ⟨_,ho2,rfl⟩ noFill_list_add seq_list_add PySem.F.slot_list_add PySem.F.entry_list_add (PySem.F.args_list_add_2 _ _) (list_addW l b its.toArray its2.toArray n n2 dd dd2 sl sl2 (by simp only[aH];omega)) ⟨ho,ho2,?_⟩;have ea:its.toArray ++ its2.toArray=(its ++ its2).toArray :=by simp
 rw[ea];exact⟨.ref _,_,I.lnew (t' :=s.toks) (r.append r2) (by rw[aU];omega),rfl,q _ I.fresh⟩
noncomputable def eCat(a b:Oe):SE:=fun env=>(evO a env).bind fun r1=>(evO b r1.2).bind fun r2=>cond (r1.1.st || b.isP) ((qQg [r1.1,r2.1] r2.2).bind fun q=>match q.1 with
 |[x,y]=>(opt (qQi x)).bind fun ds=>(opt (qQi y)).bind fun es=>cond (decide (ds.length+es.length<=lim)) (.ok (.ow .lst ((ds ++ es).map .fz),q.2)) .no
 |_=>.no) .no
theorem qXy{a b:Expr}{oa ob:Oe}(ha:OD X c E a oa)(hb:OD X c E b ob):ED X c E (.BinOp a .Add b pos) (eCat oa ob):=by
 refine⟨PE.imp (zXq zWh ha.h hb.h) fun σ H Q=>?_⟩;rintro⟨env,B,W,cf,w⟩;refine qVg cf (qY.mp w) fun r1 w1 u H1 W1 g1=>?_
 refine qVg g1.cf (wp_mono (fun _ q=>q) (fun C fs he=>he.back g1.st) (qY.mp w1)) fun r2 w2 v H2 W2 g2=>?_
 obtain⟨hs,w3⟩:=vL w2;obtain⟨xs,env4,W4,st4,cf4,vw,w4⟩:=rsvBs_wp (hs:=[r1.1,r2.1]) (us:=[u,v]) g2.cf ⟨g1.next g2 hs,g2.at_,trivial⟩ (qY.mp w3);obtain⟨x,xs,rfl⟩:∃x r,xs=x::r:=by cases xs with
  |nil=>exact vw.elim
  |cons x r=>grind
 obtain⟨y,rfl,v2⟩:∃y,xs=[y]/\Vw X.K c (hide (hd2 B W4) H2) H2 v y:=by
  cases xs with
  |nil=>exact vw.2.elim
  | cons y r=>cases r with
    |nil=>exact⟨y,rfl,vw.2.1⟩
    |cons _ _=>exact vw.2.2.elim
 obtain⟨ds,e1,w5⟩:=qU w4;obtain⟨es,e2,w6⟩:=qU w5;obtain⟨hl,w7⟩:=vL w6;obtain⟨p,vs,rfl,b1,b2⟩:=vw.1.lst qT e1;obtain⟨q,ws,rfl,d1,d2⟩:=v2.lst qT e2;refine⟨p,q,vs,ws,rfl,rfl,b1,d1,by have:=qJ9 (of_decide_eq_true hl);rw[b2.len,d2.len];omega,fun l hq=>?_⟩;have sm:Same H2 (upd H2 l (.lst (vs ++ ws))):=.upd hq;exact w7 (.ref l) _ W4 _ ((Got.lay cf4 hq sm (k:=.lst) upd_same ((b2.append d2).same (qYd cf4 hq sm))).back ((g1.st.trans g2.st).trans st4))
noncomputable def tyN:D->String
 |.non =>"NoneType"
 |.int _=>"int"
 |.str _=>"str"
 |.bl _=>"bool"
 |.nd .lst _=>"list"
 |.nd .tup _=>"tuple"
 |.nd (.dct _) _=>"dict"
 |_=>""
noncomputable def isiB(t n:String):Bool:=(t == n) || (t == "bool" && n == "int")
theorem zWp{K:aQ}{t n:String}{b:Bool}(h:PySem.W.kitMeta n=true)(e:(fastBuiltinMro t).map (·.contains (.type n))=some b)(hne:(Value.type t == Value.type n)=false):cX K (.type t) (.type n)=some b:=by
 unfold cX;rw[hne];show(if PySem.W.kitMeta n=true then PySem.W.subIn K (.type t) (.type n) else none)=some b;rw[if_pos h];exact e
theorem zV9{K:aQ}{t:String}:cX K (.type t) (.type t)=some true:=by
 unfold cX;grind
noncomputable abbrev tys:List String:=["NoneType","int","str","tuple","bool","list","dict"]
theorem zWq{K:aQ}:∀t∈tys,∀n∈(["int","str","tuple","bool","list","dict"]:List String),cX K (.type t) (.type n)=some (isiB t n):=by
 have go:∀t∈tys,∀n∈(["int","str","tuple","bool","list","dict"]:List String),t=n\/(PySem.W.kitMeta n=true/\(fastBuiltinMro t).map (·.contains (.type n))=some (isiB t n)/\(Value.type t == Value.type n)=false):=by
  decide +kernel
 intro t ht n hn;rcases go t ht n hn with rfl|⟨h1,h2,h3⟩
 ·rw[zV9,show isiB t t=true by simp[isiB]]
 ·exact zWp h1 h2 h3
theorem vKf:zL X (.builtin "isinstance") (fun xs H Q=>∃a vs n b,xs=[.ref a,.ty n]/\SqL X.K H a vs/\cX X.K (.type "list") (.type n)=some b/\Q (.bl b) H):=by
 intro pins s σ H xs us Q I r h;obtain⟨a,vs,n,b,rfl,ht,e,q⟩:=h;obtain⟨u,w',rfl,r1,r2⟩:=vKi r;cases(show u=Value.ref a from r1);cases(show w' =Value.type n from r2);obtain⟨its,_,⟨o,n',h1,h2,_⟩,_⟩:=I.list ht;exact bI PySem.W.kitx_list I.kIn ⟨o,h1,h2⟩ e (fun z=>nomatch z) fun tk=>⟨.bl b,H,I.tok tk,rfl,q⟩
noncomputable def vKq(K:aQ):List V->Hp->VK->Prop:=fun xs H Q=>rIsi K xs H Q\/(∃a vs n b,xs=[.ref a,.ty n]/\SqT K H a vs/\cX K (.type "tuple") (.type n)=some b/\Q (.bl b) H)\/(∃a vs n b,xs=[.ref a,.ty n]/\SqL K H a vs/\cX K (.type "list") (.type n)=some b/\Q (.bl b) H)
theorem vZz:zL X (.builtin "isinstance") (vKq X.K):=zZ2.or (vKe.or vKf)
noncomputable def isiD(n:String)(d:D):Option D:=cond (tyN d != "") (some (.bl (isiB (tyN d) n))) none
theorem zK0{K:aQ}{u:V}{d z:D}{n:String}(hn:n∈(["int","str","tuple","bool","list","dict"]:List String))(h:DAt K c H u d)(e:isiD n d=some z)(q:∀v,(∀F,DAt K c F v z)->Q v H):vKq K [u,.ty n] H Q:=by
 obtain⟨q1,q2⟩:=zZ e;cases q2;have fin:Q (.bl (isiB (tyN d) n)) H:=q _ fun _=>.bl _
 have k:tyN d∈tys->cX K (.type (tyN d)) (.type n)=some (isiB (tyN d) n):=fun hm=>zWq (tyN d) hm n hn
 cases h with
 |non=>exact .inl ⟨_,_,_,_,rfl,.non,k (by simp[tyN]),fin⟩
 |int i=>exact .inl ⟨_,_,_,_,rfl,.int i,k (by simp[tyN]),fin⟩
 |str i=>exact .inl ⟨_,_,_,_,rfl,.str i,k (by simp[tyN]),fin⟩
 |bl i=>exact .inl ⟨_,_,_,_,rfl,.bl i,k (by simp[tyN]),fin⟩
 |fn j=>simp[tyN]at q1
 | @nd p kd vs ds h l r=>
   cases kd with
   |lst=>exact .inr (.inr ⟨p,vs,n,_,rfl,h,k (by simp[tyN]),fin⟩)
   |tup=>exact .inr (.inl ⟨p,vs,n,_,rfl,h,k (by simp[tyN]),fin⟩)
   | dct ks=>
     rcases h.2.2 with e|⟨o,e⟩
     ·exact .inl ⟨_,_,_,_,rfl,.dK e,k (by simp[tyN]),fin⟩
     ·exact .inl ⟨_,_,_,_,rfl,.dZ e,k (by simp[tyN]),fin⟩
   |dcT ks=>simp[tyN]at q1
   |obj C fs=>simp[tyN]at q1
   |exc C fs=>simp[tyN]at q1
theorem vQa{n:String}{x y:Str}{p q:Pos}{o:Oe}(hn:n∈(["int","str","tuple","bool","list","dict"]:List String))(hg:Gl X x)(hm:X.mg x=none)(hv:cC x=some (.builtin "isinstance"))(hg2:Gl X y)(hm2:X.mg y=none)(hv2:cC y=some (.type n))(ha:OD X c E e o)(hx:x≠"__name__":=by decide)(hdb:(x == ("__debug__":Str))=false:=by decide)(hy:y≠"__name__":=by decide)(hdy:(y == ("__debug__":Str))=false:=by decide)(he:aY [e, .Name y q] X.env=(false,eval e X.env)::aY [.Name y q] X.env:=by rfl)(hs2:aY [.Name y q] X.env=(false,eval (.Name y q) X.env)::aY [] X.env:=by rfl)(hpl:(cV pos (aY [.Name y q] X.env)).any (·.1)=false:=by rfl):
  OD X c E (.Call (.Name x p) [e, .Name y q] [] pos) (o1 (isiD n) o):=by
 refine⟨PE.imp (qX9 vZz hg hm hv (yH ha.h (yH (zWa hg2 hm2 hv2 (v:=.ty n) rfl hy hdy) qZ7 hs2) he) hx hdb he hpl) fun σ H Q h=>?_⟩;exact zXl (K:=X.K) (r:=fun u H Q=>vKq X.K [u,.ty n] H Q) (fun u H x z Q hx e q=>zK0 hn hx e q) h
section
variable{X:Cx}{c:Nat->aZ}{E:XK}{e e2:Expr}{pos p:Pos}{o oa:Oe}
theorem qVj(hg:Gl X "len")(hm:X.mg "len"=none)(ha:OD X c E e o)(he:aY [e] X.env=[(false,eval e X.env)]:=by rfl)(h0:aY [] X.env=[]:=by rfl):OD X c E (.Call (.Name "len" p) [e] [] pos) (oL lenD [o]):=
 vV8 vKd zYt hg hm Boot.«len» (vM ha qL (by rw[he,h0])) (by decide) (by decide) (by rw[he,h0]) (by rw[h0];rfl)
theorem jVa(hg:Gl X "int")(hm:X.mg "int"=none)(ha:OD X c E e o)(he:aY [e] X.env=[(false,eval e X.env)]:=by rfl)(h0:aY [] X.env=[]:=by rfl):OD X c E (.Call (.Name "int" p) [e] [] pos) (oL intD [o]):=
 vYj vKg zYu hg hm Boot.«int» (vM ha qL (by rw[he,h0])) (by decide) (by decide) (by rw[he,h0]) (by rw[h0];rfl)
theorem jQ7(hc:X.calm=true)(hg:Gl X "sum")(hm:X.mg "sum"=none)(ha:OD X c E e o)(he:aY [e] X.env=[(false,eval e X.env)]:=by rfl)(h0:aY [] X.env=[]:=by rfl):OD X c E (.Call (.Name "sum" p) [e] [] pos) (oL sumD [o]):=
 vV8 (zZ1 hc) zYs hg hm Boot.«sum» (vM ha qL (by rw[he,h0])) (by decide) (by decide) (by rw[he,h0]) (by rw[h0];rfl)
theorem vWe(hg:Gl X "tuple")(hm:X.mg "tuple"=none)(ha:OD X c E e o)(he:aY [e] X.env=[(false,eval e X.env)]:=by rfl)(h0:aY [] X.env=[]:=by rfl):EV X c E (.Call (.Name "tuple" p) [e] [] pos) (svA tupleD [o]):=
 vYx qY9 zVj hg hm Boot.«tuple» (vM ha qL (by rw[he,h0])) (by decide) (by decide) (by rw[he,h0]) (by rw[h0];rfl)
theorem qWb(hg:Gl X "list")(hm:X.mg "list"=none)(ha:OD X c E e o)(he:aY [e] X.env=[(false,eval e X.env)]:=by rfl)(h0:aY [] X.env=[]:=by rfl):ED X c E (.Call (.Name "list" p) [e] [] pos) (eF listD [o]):=
 vY0 vVg zJw hg hm Boot.«list» (vM ha qL (by rw[he,h0])) (by decide) (by decide) (by rw[he,h0]) (by rw[h0];rfl)
end
structure MethAt(K:aQ)(x qual:Str)(st:Stmt)(ps:List Str)(f:aZ)(fd:bZ):Prop where
 F:Fun K x qual st f fd
 b:wJ K fd ps []
noncomputable def pOf:Oe->SP
 |.p s=>s
 |.v _=>fun _=>none
theorem fnNo{K:aQ}{k:Nat}{f:aZ}:FnOk P w K mg base CX k f fd ps (spD K c n fun _=>.no):=
 ⟨fun vs H Q E z=>(by obtain⟨_,_,_,_,_,z⟩:=z;exact z.elim),fun _ _ _ _ _ _ _ _ _ _ _ _ _ z=>(by obtain⟨_,_,_,_,_,z⟩:=z;exact z.elim)⟩
theorem FnOk.lv{K:aQ}{k:Nat}{f:aZ}{sp:Sp}(e:j=k)(h:FnOk P w K mg base CX j f fd ps sp):FnOk P w K mg base CX k f fd ps sp:=by grind
noncomputable def sNo:SS:=fun _=>.no
theorem qXn{st:Stmt}:SD X c E st sNo:=⟨fun _ _ _ _ _ _ q=>by obtain⟨_,_,_,_,w⟩:=q;exact w.elim⟩
section
variable{X:Cx}{c:Nat->aZ}{E:XK}{o k e:Expr}{pos pos' apos cpos:Pos}{oo ok:Oe}{a:SE}{cs:List Nat}{f:Str}
theorem qZr(h:OD X c E e oo)(hp:oo.isP=true:=by rfl):OD X c E e (Am.b (pOf oo)).o :=by
 cases oo with
 |p s=>exact h
 |v s=>cases hp
theorem jY(ho:OD X c E o oo)(ha:ED X c E e a)(hp:oo.isP=true:=by rfl)(hbase:attributeBase o "append" X.env (eval o X.env)=eval o X.env:=by rfl)(hfew:((cV cpos (aY [e] X.env)).all (fun x=>!x.1) && (backToKw cpos (keywordEach [] X.env)).all (fun x=>x.1.isSome) && decide (([e]:List Expr).length+([]:List Keyword).length+(if([]:List Keyword).isEmpty then 0 else 1)<30))=true:=by rfl)(hline:(apos.endLine == cpos.line)=true:=by rfl)(hs:aY [e] X.env=(false,eval e X.env)::aY [] X.env:=by rfl)(hplain:(cV cpos (aY [] X.env)).any (·.1)=false:=by rfl):
  ED X c E (.Call (.Attribute o "append" apos) [e] [] cpos) (eMu1 (pOf oo) a apF):=by
 cases oo with
 |p s=>exact vY1 ho ha hbase hfew hline hs hplain
 |v s=>cases hp
theorem zZy(ho:OD X c E o oo)(ha:ED X c E e a)(hp:oo.isP=true:=by rfl)(hbase:attributeBase o "extend" X.env (eval o X.env)=eval o X.env:=by rfl)(hfew:((cV cpos (aY [e] X.env)).all (fun x=>!x.1) && (backToKw cpos (keywordEach [] X.env)).all (fun x=>x.1.isSome) && decide (([e]:List Expr).length+([]:List Keyword).length+(if([]:List Keyword).isEmpty then 0 else 1)<30))=true:=by rfl)(hline:(apos.endLine == cpos.line)=true:=by rfl)(hs:aY [e] X.env=(false,eval e X.env)::aY [] X.env:=by rfl)(hplain:(cV cpos (aY [] X.env)).any (·.1)=false:=by rfl):
  ED X c E (.Call (.Attribute o "extend" apos) [e] [] cpos) (eMu1 (pOf oo) a exF):=by
 cases oo with
 |p s=>exact vYz ho ha hbase hfew hline hs hplain
 |v s=>cases hp
theorem zYh(hu:X.A.units+1<cG)(ho:OD X c E o oo)(hk:OD X c E k ok)(hv:ED X c E e a)(hp:(oo.isP && ok.isP)=true:=by rfl)(hs:swapsWith e (some (.Subscript o k pos')) pos.line X.env=pure false:=by rfl):
  SD X c E (.Assign [.Subscript o k pos'] e pos) (qKf (pOf oo) (pOf ok) a):=by
 cases oo with
 |v s=>cases hp
 | p s=>cases ok with
   |v s=>cases hp
   |p t=>exact zJg hu ho hk hv hs
theorem zYg(ho:OD X c E o oo)(hk:OD X c E k ok)(hv:ED X c E e a)(hp:(oo.isP && ok.isP)=true:=by rfl)(hs:swapsWithSole [.Subscript o k pos'] e pos.line X.env=pure false:=by rfl)(hw:swappedStores [.Subscript o k pos'] e X.env=pure none:=by rfl)(h1:(assignEach [.Subscript o k pos'] X.env).map (·.2)=[assign (.Subscript o k pos') X.env]:=by rfl)(ha:∀v,assign (.Subscript o k pos') X.env v=(do
   let ov ←holding [v] (eval o X.env);let iv ←holding [v,ov] (eval k X.env);standAt pos';holding [v,ov,iv] (setItem ov iv v);release [v,ov,iv] []):=by intro _;rfl):SD X c E (.Assign [.Subscript o k pos'] e pos) (sSetI (pOf oo) (pOf ok) a):=by
 cases oo with
 |v s=>cases hp
 | p s=>cases ok with
   |v s=>cases hp
   |p t=>exact zJe ho hk hv hs hw h1 ha
theorem qQs(okF:xQ X.K c cs f)(ho:OD X c E o oo)(hv:ED X c E e a)(hp:oo.isP=true:=by rfl)(hs:swapsWith e (some (.Attribute o f pos')) pos.line X.env=pure false:=by rfl):SD X c E (.Assign [.Attribute o f pos'] e pos) (qQf cs f (pOf oo) a):=by
 cases oo with
 |v s=>cases hp
 |p s=>exact zJf okF ho hv hs
theorem zQa{op:Operator}{rd:TIp}{g:D->D->Option D}{t:SV}(okF:xQ X.K c cs f)(ho:OD X c E o oo)(hv:EV X c E e t)(hop:PIp X op rd)(hpr:PrS2 X.K c rd g)(hp:oo.isP=true:=by rfl):SD X c E (.AugAssign (.Attribute o f pos') op e pos) (vVm cs f g (pOf oo) t):=by
 cases oo with
 |v s=>cases hp
 |p s=>exact zJi okF ho hv hop hpr
end
section
variable{X:Cx}{c:Nat->aZ}{E:XK}{k:Nat}{f:aZ}{fd:bZ}{ps:List Str}{x m:Str}{p pos apos:Pos}{e o:Expr}{es:List Expr}{F F2:Fn}{a0:Am}{as:List Am}{C C2:Nat}
theorem zZf{K:aQ}{h:Hn}{u:V}(cf:Cf K c env σ H B W)(hu:HnAt K c (hide (hd2 B W) H) σ H u h)(ho:qJl env h C m=true):∃a dx fs,u=.ref a/\H a=some (.ins (c C) dx fs)/\fs.lookup m=none:=by
 unfold qJl at ho;split at ho
 ·rename_i C' fs ds e;rw[aD,Bool.not_eq_true']at ho;obtain⟨p,vs,rfl,⟨h1,dx,h2⟩,h3⟩:=(j6 cf hu e).un;have:C' =C:=by simpa using ho.1
  subst this;exact⟨p,dx,_,rfl,h2,qWm ho.2⟩
 ·cases ho
end
noncomputable def rvL:List D->Option (List D)
 |[x]=>(qQi x).bind fun ds=>some ds.reverse
 |_=>none
theorem zK5{p:Pos}(hg:Gl X "reversed")(hm:X.mg "reversed"=none)(ha:VsD X c E [e] ss)(hs:aY [e] X.env=[(false,eval e X.env)]:=by rfl)(hs2:aY [] X.env=[]:=by rfl):ID' X c E tg (.Call (.Name "reversed" p) [e] [] pos) (iL rvL ss):=by
 refine⟨PI.imp (zYw hg hm ha.h hs hs2) fun σ H R=>?_⟩;rintro⟨env,B,W,cf,w⟩;refine qZ3 cf (qY.mp w) fun r w1 us H1 W1 g=>?_
 obtain⟨ds,e1,w2⟩:=qU w1;have ga:=g.at_;unfold rvL at e1;split at e1
 ·rename_i x e2;rw[e2]at ga;obtain⟨u,rfl,a⟩:=ds1 ga;obtain⟨xs,q1,e3⟩:=bnd e1;cases e3;obtain⟨q,vs,rfl,c1,c2⟩:=qYc a q1;exact⟨q,vs,rfl,jJ qT c1,w2 _ H1 W1 g.st g.cf (zWv c1 c2)⟩
 ·cases e1
noncomputable def dctD:D->Option (List Key×List D)
 |.nd (.dct ks) ds=>some (ks,ds)
 |_=>none
noncomputable def vJ9(env:Ev)(k:Key):Hn->Option (Option D)
 | .d x=>(dctD x).bind fun q=>match kidx k q.1 with
   |some j=>(q.2[j]?).bind fun d=>some (some d)
   |none=>some none
 | .p i π=>(qXt env i π).bind fun q=>match kidx k q.1 with
   | some j=>match q.2[j]? with
     |some (.fz d)=>some (some d)
     |_=>none
   |none=>some none
theorem zZi{K:aQ}{h:Hn}{u:V}{k:Key}{r:Option D}(cf:Cf K c env σ H B W)(hu:HnAt K c (hide (hd2 B W) H) σ H u h)(e:vJ9 env k h=some r):
  ∃a ov,u=.ref a/\IsD H a/\DGet H a (kV k) ov/\match r with
   |some d=>∃v,ov=some v/\DAt K c (hide (hd2 B W) H) v d
   |none=>ov=none:=by
 cases h with
 | d x=>
   obtain⟨q,e1,e2⟩:=bnd e;unfold dctD at e1;split at e1
   ·cases e1;rename_i ks ds;obtain⟨p,vs,rfl,⟨h1,h2,h3⟩,h4⟩:=DAt.un hu;have h3' :=vWt qT h3;refine⟨p,_,rfl,.inl ⟨_,h3'⟩,vZ4 h3',?_⟩;rw[qVs h1];dsimp only at e2;cases e5:kidx k ks with
    |none=>rw[e5]at e2;cases e2;rfl
    | some j=>
      rw[e5]at e2;obtain⟨d,e6,e7⟩:=bnd e2;cases e7;exact h4.get e6
   ·cases e1
 | p i π=>
   have hu' :vZ H σ i π=some u:=hu;obtain⟨q,e1,e2⟩:=bnd e;obtain⟨v1,Z1,R,w1,w2,w3,w4⟩:=cf.place (qKx e1);rw[hu']at w1;cases w1;rw[OAt.ow]at w2;obtain⟨p,vs,Z',rfl,⟨b1,b2,b3⟩,cc,d⟩:=w2;refine⟨p,_,rfl,.inl ⟨_,.inl b3⟩,DGet.k b3,?_⟩;rw[qVs b1];cases e5:kidx k q.1 with
   |none=>rw[e5]at e2;cases e2;rfl
   | some j=>
     rw[e5]at e2;dsimp only at e2;split at e2
     ·rename_i d e6;cases e2;obtain⟨v,Y1,R1,g1,g2,_⟩:=cc.focus e6;rw[OAt.fz]at g2;exact⟨v,g1,g2.1⟩
     ·cases e2
noncomputable def qK4(s k:SP):SV:=fun env=>(opt (s env)).bind fun h=>(opt (k env)).bind fun hk=>(opt (rsv env hk)).bind fun y=>(opt (qVl y)).bind fun key=>(opt (vJ9 env key h)).bind fun r=>.ok (r.getD .non,env)
section
variable{X:Cx}{c:Nat->aZ}{E:XK}{o k e:Expr}{apos cpos:Pos}{oo ok oe:Oe}
theorem zW5(hu:X.A.units+1<cG)(ho:OD X c E o oo)(hk:OD X c E k ok)(m:M1 X o "get" apos k cpos)(hp:(oo.isP && ok.isP)=true:=by rfl):EV X c E (.Call (.Attribute o "get" apos) [k] [] cpos) (qK4 (pOf oo) (pOf ok)):=by
 cases oo with
 |v s=>cases hp
 | p s=>cases ok with
   |v s=>cases hp
   | p t=>
     refine⟨PE.imp (zVr hu ho.h hk.h m) fun σ H Q=>?_⟩;rintro⟨env,B,W,cf,w⟩;obtain⟨h,e1,w2⟩:=qU w;obtain⟨hk1,e2,w3⟩:=qU w2;obtain⟨y,e3,w4⟩:=qU w3;obtain⟨key,e4,w5⟩:=qU w4;obtain⟨r,e5,w6⟩:=qU w5;refine⟨env,B,W,h,cf,e1,fun x hx=>?_⟩;obtain⟨a,ov,rfl,g1,g2,g3⟩:=zZi cf hx e5;refine⟨a,rfl,g1,env,B,W,hk1,cf,e2,fun yv hy=>?_⟩;rw[qJv (j6 cf hy e3) e4];refine⟨ov,g2,?_⟩;cases r with
     |none=>rw[g3];exact w6 .non H W ⟨.refl,cf,.non⟩
     |some d=>obtain⟨v,rfl,hd⟩:=g3;exact w6 v H W ⟨.refl,cf,hd⟩
end
noncomputable def sbH(i j:Nat)(d:D):Hn->Hn
 |.p i' [j']=>if i' =i/\j' =j then .d d else .p i' [j']
 |h=>h
noncomputable def isFz:Option O->Bool
 |some (.fz _)=>true
 |_=>false
noncomputable def vVq(F:Fn)(as:List Am)(hs:List Hn)(env:Ev)(i j:Nat):Res (O×Ev):=(opt (getE env i [j])).bind fun o=>(qQk F as (hs.map (sbH i j (fzO o))) (setE env i [j] (.fz (fzO o)))).bind fun q=>
 cond (stab env q.2 i [j] && ndO q.1 && (setE q.2 i [j] o).all ndS && isFz (getE q.2 i [j]) && dcFz o) (.ok (q.1,setE q.2 i [j] o)) .no
noncomputable def vJ7:List Hn->Option (Nat×Nat)
 |[]=>none
 |[.p i [j]]=>some (i,j)
 |_::hs=>vJ7 hs
section
variable{K:aQ}{c:Nat->aZ}{E:XK}
theorem SlAt.place{F:Hp}{o1:O}(h:SlAt K c F H env σ W)(e:getE env i π=some o1):∃(v1:V) (Z1 R:Fp),vZ H σ i π=some v1/\OAt K c F H o1 v1 Z1/\(∀a,W a=Z1 a+R a)/\
  ∀(o1' :O) (Z1' Y:Fp),OAt K c F H o1' v1 Z1' ->(∀a,Y a=Z1' a+R a)->SlAt K c F H (setE env i π o1') σ Y:=by
 unfold getE at e;split at e
 ·rename_i io o e0;obtain⟨x,Z0,R0,h1,h2,h3,h4⟩:=h.focus e0;cases x with
  |none=>exact h2.elim
  | some v=>
    obtain⟨v1,Z1,R1,g1,g2,g3,g4⟩:=OAt.focus h2 e;refine⟨v1,Z1,fun a=>R1 a+R0 a,by unfold vZ;rw[h1];exact g1,g2,fun a=>by rw[h3,g3];(try dsimp only);omega,fun o1' Z1' Y q hY=>?_⟩;have q2:=g4 _ H o1' Z1' (Same.refl _) (fun _ _=>rfl) q;have q3:=h4 F H (.s io (setP o π o1')) (some v) _ Y (Same.refl _) (fun _ _=>rfl) q2 (fun a=>by rw[hY];(try dsimp only);omega);rw[jX h1]at q3;unfold setE;rw[e0];exact q3
 ·cases e
theorem zF.sb{F:Hp}{d:D}(sm:Same F F')(hd:∀u,vZ H σ i [j]=some u->DAt K c F' u d):∀{us:List V} {hs:List Hn},zF K c F σ H us hs->zF K c F' σ H us (hs.map (sbH i j d))
 |[],[],_=>trivial
 | u::us,h::hs,a=>by
   refine⟨?_,zF.sb sm hd a.2⟩;have a1:=a.1;cases h with
   |d x=>exact DAt.same sm a1
   | p i' π=>
     cases π with
     |nil=>exact a1
     | cons j' π=>
       cases π with
       |cons _ _=>exact a1
       | nil=>
         simp only[sbH];split
         ·rename_i e;obtain⟨rfl,rfl⟩:=e;exact hd u a1
         ·exact a1
 |[],_::_,a=>a.elim
 |_::_,[],a=>a.elim
theorem vKb{hs:List Hn}{F:Fn}(cf:Cf K c env σ H B W)(hh:zF K c (hide (hd2 B W) H) σ H us hs)(hw:(vVq F as hs env i j).wp (fun r=>∀u H' W' Z,Got K c env σ H B W r.2 H' W' Z r.1 u->Q u H') (erP K c E H B W)):spD K c as.length F us H Q E:=by
 obtain⟨o,e1,w1⟩:=qU hw;obtain⟨v1,Z1,R,h1,h2,h3,h4⟩:=cf.place e1;have nd:∀a,B a+(Z1 a+R a)<=1:=fun a=>by have:=cf.nd a;rw[h3]at this;exact this
 have sm:Same (hide (hd2 B W) H) (hide (hd2 B R) H):=v7 fun a z=>by dsimp only[hd2]at *;rw[h3]at z;omega
 have hd:DAt K c (hide (hd2 B R) H) v1 (fzO o):=h2.dat sm fun a z=>vD (by have:=nd a;dsimp only[hd2];omega)
 have cf2:Cf K c (setE env i [j] (.fz (fzO o))) σ H B R:=h4 H B R _ (fun _=>0) sm (fun a=>by(try dsimp only);omega) (fun _ _=>rfl) (OAt.fz.mpr ⟨hd,fun _=>rfl⟩) (fun a=>by have:=nd a;omega) cf.hb;have st2:Step env σ H B W (setE env i [j] (.fz (fzO o))) σ H R:=⟨sm,fun _ _=>rfl,fun a z=>.inl (by rw[h3];omega),fun _ z=>z,fun _ _ _=>.refl,fun j o q=>⟨qZg q,rfl⟩,qQm⟩
 refine qQq cf2 (zF.sb sm (fun u hu=>by rw[h1]at hu;cases hu;exact hd) hh) (wp_mono (fun q w2 u H3 W3 Z g=>?_) (fun _ _ he=>he.back st2) (qY.mp w1));obtain⟨hc,w3⟩:=vL w2;rw[aD,aD,aD,aD]at hc;obtain⟨⟨⟨⟨c1,c2⟩,c3⟩,c4⟩,c5⟩:=hc;have st3:=st2.trans g.st;have hw3:vZ H3 σ i [j]=some v1:=qWf cf st3 g.cf (fun a z=>by dsimp only[hd2];omega) c1 h1;have lz:∀a,Z1 a≠0->H3 a=H a/\B a+Z a+W3 a=0:=fun a z=>by
  obtain⟨ho,q1,_⟩:=OAt.hb h2 z;have q2:=g.st.same a ho (by rw[vD (by have:=nd a;dsimp only[hd2];omega)];exact q1);obtain⟨q3,q4⟩:=jD q2;grind
 have flatk:∀a ho,hide (hd2 (hd2 B Z) W3) H3 a=some ho->¬isDK ho->hide (hd2 (hd2 B Z) (fun a=>W3 a+Z1 a)) H3 a=some ho:=fun a ho q1 q2=>by
  obtain⟨q3,q4⟩:=jD q1;by_cases z:Z1 a=0
  ·rw[vD (by dsimp only[hd2]at *;omega)];exact q4
  ·obtain⟨ho',q5,q6⟩:=vXl h2 c5 a z;grind
 obtain⟨d',ed⟩:∃d',getE q.2 i [j]=some (.fz d'):=by
  unfold isFz at c4;grind
 obtain⟨v1',Y1,Y,k1,k2,k3,k4⟩:=g.cf.at_.place ed;rw[hw3]at k1;cases k1;have smF:Same (hide (hd2 B W) H) (hide (hd2 (hd2 B Z) (fun a=>W3 a+Z1 a)) H3):=zV fun a ho z q1=>by
  obtain⟨q3,q4⟩:=jD (g.st.same a ho (sm a ho (by rw[vD z];exact q1)));grind
 have smF3:Same (hide (hd2 B W) H) (hide (hd2 (hd2 B Z) W3) H3):=smF.trans (v7 fun a z=>by dsimp only[hd2]at *;omega);have sl4:=k4 o Z1 (fun a=>W3 a+Z1 a) (h2.keep smF3 fun a z=>(lz a z).1) fun a=>by have:=k3 a;have:=k2.2 a;omega
 have sl5:=sl4.nd' flatk c3;refine w3 u H3 (fun a=>W3 a+Z1 a) Z ⟨⟨?_,fun a z=>st3.by_ a z,fun a z=>?_,st3.dom,fun a z1 z2=>?_,fun k oo q=>?_,by rw[qQm];exact st3.len⟩,⟨sl5,fun a=>?_,fun a z=>g.cf.hb a z⟩,g.at_.nd' flatk c2⟩
 ·grind
 ·by_cases y:Z1 a=0
  ·exact st3.new a (by dsimp only[hd2]at *;omega)
  ·grind
 ·by_cases y:Z1 a=0
  ·exact st3.pin a z1 (by dsimp only[hd2]at *;omega)
  ·exact .of (lz a y).1
 ·obtain⟨o0,q1⟩:=qZg q;exact⟨(st3.io k o0 q1).1,rfl⟩
 ·have n1:=g.cf.nd a;grind
noncomputable def qWu(C:Nat)(m:Str)(F:Fn)(a0:Am)(as:List Am):SE:=fun env=>(evO a0.o env).bind fun r0=>cond (qJl r0.2 r0.1 C m && (r0.1.st || (as.map Am.o).all Oe.isP)) ((evOs (as.map Am.o) r0.2).bind fun r=>(opt (vJ7 r.1)).bind fun ij=>vVq F (a0::as) (r0.1::r.1) r.2 ij.1 ij.2) .no
theorem vX0{F:Fn}(h:tE K c E (qWu C m F a0 as) σ H Q):vJ2 (c C) m (spD K c (a0::as).length F) [] E (tO K c E a0.o) (tOs K c E (as.map Am.o)) σ H Q:=by
 obtain⟨env,B,W,cf,w⟩:=h;refine qVg cf (qY.mp w) fun r0 w1 u H1 W1 g1=>?_
 obtain⟨hs,w2⟩:=vL w1;rw[aD]at hs;obtain⟨ho,hst⟩:=hs;obtain⟨a,dx,fs,rfl,h2,h3⟩:=zZf g1.cf g1.at_ ho;refine⟨a,dx,fs,rfl,h2,h3,?_⟩;refine qVo g1.cf (wp_mono (fun _ q=>q) (fun _ _ he=>he.back g1.st) (qY.mp w2)) fun r w3 us H2 W2 g2=>?_
 obtain⟨ij,_,w4⟩:=qU w3;rw[bL];have hh:zF K c (hide (hd2 B W2) H2) σ H2 (.ref a::us) (r0.1::r.1):=by
  refine⟨?_,g2.at_⟩;cases e:r0.1.st with
  |true=>exact g1.at_.step g2.st.same e
  | false=>
    rw[e]at hst;obtain⟨e1,e2,_⟩:=g2.pu (by simpa using hst);rw[e1,e2];exact g1.at_
 exact vKb g2.cf hh (wp_mono (fun r q v H' W' Z g=>q v H' W' Z (g.back (g1.st.trans g2.st))) (fun _ _ he=>he.back (g1.st.trans g2.st)) w4)
end
theorem qYh{k:Nat}{f:aZ}{apos:Pos}{o:Expr}{es:List Expr}{F:Fn}(ho:OD X c E o a0.o)(hc:Cls X.K (c C))(hm:Meth X.K (c C) m f)(G:FnOk X.prog X.w X.K X.mg X.base (CXd X.prog X.w) k f fd ps (spD X.K c (a0::as).length F))(hr:Room k X.A)(hb:wJ X.K fd ps [])(hx:zC (CXd X.prog X.w) X E)(ha:OsD X c E (e::es) (as.map Am.o))(hst:aY (e::es) X.env=(false,eval e X.env)::aY es X.env:=by rfl)(hpl:(cV pos (aY es X.env)).any (·.1)=false:=by rfl)(ht:eval (.Call (.Attribute o m apos) (e::es) [] pos) X.env=(do
   let ov ←eval o X.env;standAt apos.atName;let (f,first) ←holding [ov] (getMethod ov m pl);callWith pos f first (cV pos (aY (e::es) X.env)) (backToKw pos (keywordEach [] X.env))):=by rfl):
  ED X c E (.Call (.Attribute o m apos) (e::es) [] pos) (qWu C m F a0 as):=
 ⟨PE.imp (vW0 ho.h hc hm G hr hb .nil hx ha.h hst hpl ht) fun _ _ _ h=>vX0 h⟩
noncomputable def zpA(xs:List D):Option (List D):=match zpL xs with
 |some r=>some r
 | none=>match zpT xs with
   |some r=>some r
   |none=>zpM xs
noncomputable def sPutA(s k:SP)(a:SE):SS:=fun env=>match qKf s k a env with
 |.no =>sSetI s k a env
 |r=>r
theorem qZ5{o k:Expr}{pos':Pos}{oo ok:Oe}{a:SE}(hu:X.A.units+1<cG)(ho:OD X c E o oo)(hk:OD X c E k ok)(hv:ED X c E e a)(hp:(oo.isP && ok.isP)=true:=by rfl)(hs:swapsWith e (some (.Subscript o k pos')) pos.line X.env=pure false:=by rfl)(hs2:swapsWithSole [.Subscript o k pos'] e pos.line X.env=pure false:=by rfl)(hw:swappedStores [.Subscript o k pos'] e X.env=pure none:=by rfl)(h1:(assignEach [.Subscript o k pos'] X.env).map (·.2)=[assign (.Subscript o k pos') X.env]:=by rfl)(ha:∀v,assign (.Subscript o k pos') X.env v=(do
   let ov ←holding [v] (eval o X.env);let iv ←holding [v,ov] (eval k X.env);standAt pos';holding [v,ov,iv] (setItem ov iv v);release [v,ov,iv] []):=by intro _;rfl):SD X c E (.Assign [.Subscript o k pos'] e pos) (sPutA (pOf oo) (pOf ok) a):=by
 refine⟨fun pins s σ H D I q=>?_⟩;obtain⟨env,B,W,cf,w⟩:=q;unfold sPutA at w;split at w
 ·exact(zYg ho hk hv hp hs2 hw h1 ha).h pins s σ H D I ⟨env,B,W,cf,w⟩
 ·exact(zYh hu ho hk hv hp hs).h pins s σ H D I ⟨env,B,W,cf,w⟩
section
variable{X:Cx}{c:Nat->aZ}{E:XK}{e:Expr}{es:List Expr}{s:SV}{ss:List SV}{a:SE}{K:aQ}
theorem zXm{F:Hp}(t:TabF c F):∀{us:List V} {xs:List D},DsAt K c F us xs->SlAt K c F H (xs.map fun d=>Slot.s false (.fz d)) (us.map some) fun _=>0
 |us,[],h=>by rw[h.un0];exact⟨⟨rfl,t⟩,fun _=>rfl⟩
 | us,x::xs,h=>by
   obtain⟨u,r,rfl,a,b⟩:=h.un;exact⟨some u,r.map some,fun _=>0,fun _=>0,rfl,(show OAt K c F H (.fz x) u (fun _=>0) from OAt.fz.mpr ⟨a,fun _=>rfl⟩),zXm t b,fun _=>rfl⟩
end
theorem qZn{K:aQ}{x:Str}{st:Stmt}{f:aZ}{oc:Value}{od an:Option aZ}{osl:Array (Option Value)}{kV doc pm cdv ct:Value}(l:K.lookup f=some ⟨oc,od,.func (bA x qual (zS st) (zU st) (qK st) .none kV doc pm an cdv ct),osl⟩)(c:PySem.W.codeIn K cdv qual=true)(k:cY K (.ref f)=true)(b:∀(kV doc pm:Value) (an:Option aZ) (cdv ct:Value) (us:List Value),us.length=ps.length->bindArgs (bA x qual (zS st) (zU st) (qK st) .none kV doc pm an cdv ct) ⟨us,[]⟩=pure (ps.zip us)):
  MethAt K x qual st ps f (bA x qual (zS st) (zU st) (qK st) .none kV doc pm an cdv ct):=⟨vQb l c k,(vQb l c k).binds b⟩
theorem vXc{K:aQ}{f:Str}:xQ K c [] f:=fun _ h=>nomatch h
theorem vZh{K:aQ}{cs:List Nat}{f:Str}(h:Cls K (c C))(n:xZ K (c C) f)(r:xQ K c cs f):xQ K c (C::cs) f:=fun D hD=>by
 rcases aG.mp hD with rfl|hD
 ·exact⟨h,n⟩
 ·exact r D hD
theorem vXg{K:aQ}{F:Hp}:∀ns:List Int,DsAt K c F (ns.map V.int) (ns.map D.int)
 |[]=>.nil
 |n::ns=>.cons (.int n) (vXg ns)
noncomputable def zXz(K:aQ)(C:aZ):Bool:=
 match K.lookup C with
 | some ⟨.type "type",_, .cls kd,zs⟩=>(match zs.toList,kd.mro with
   |[_,_,_,_,some (.builtin m),_],.ref B::rs=>PySem.W.tailIn K vErr rs && (!kd.hasDel && (m == "ValueError.__new__" && B == C))
   |_,_=>false)
 |_=>false
theorem zK2{K:aQ}{C:aZ}(q:zXz K C=true):∃nm q N bs bm hdct sn sub ab col dd k0 k1 k2 k3 k5,K.lookup C=some (excClassObj nm q C N bs bm hdct sn sub ab col dd k0 k1 k2 k3 k5 "ValueError.__new__")/\PySem.W.tailIn K vErr bm=true:=by
 unfold zXz at q;split at q
 ·rename_i dd cd sl ho;split at q
  ·rename_i k0 k1 k2 k3 n k5 B bm hs hm;simp only[aD,beq_iff_eq,Bool.not_eq_true']at q;obtain⟨ht,hdel,rfl,rfl⟩:=q;obtain⟨nm,bs,mro,ns,qn,hd,sn,sub,ab,col,del⟩:=cd;dsimp only at hm hdel;subst hm hdel;have hsl:sl=#[k0,k1,k2,k3,some (.builtin "ValueError.__new__"),k5]:=by
    obtain⟨l⟩:=sl;simp only at hs;rw[hs]
   subst hsl;exact⟨nm,qn,ns,bs,bm,hd,sn,sub,ab,col,dd,k0,k1,k2,k3,k5,ho,ht⟩
  ·cases q
 ·cases q
theorem jQl{l:PySem.W.OpenLaw}{q:aT}{loose:List Str}{XP:(Str->Option Value)->Heap->Prop}{YP:bY->Heap->Prop}{d:DefRec}{K:Params->aQ}{F:Fn}{k:Nat}{x:Str}(hn:l.most=some 63)(hdf:d.params.defaults=[])(hr:Room k callerA)(hY:∀(w:bY) (h:Heap),YP w h->(K w.params).In h)(law:∀ns:List Int,ns.length<=63->∃e,F [.s false (.fz (.nd .lst (ns.map D.int)))]=.ok (.fz (.bl true),e))(hF:∀(w:bY) (mg:Str->Option Value) (fa:aZ) (h:Heap),(K w.params).In h->h.Ns cZ mg->mg d.name=some (.ref fa)->
   ∃(c:Nat->aZ) (fd:bZ),c 77=0/\(∀(s:aJ) (u:Value),BindsTo s fd ⟨[u],[]⟩ [(x,u)])/\
    ∀base:Heap,(K w.params).In base->base.Ns cZ mg->FnOk l.prog w (K w.params) mg base (CXd l.prog w) k fa fd [x] (spD (K w.params) c 1 F)):
  PySem.W.WalkO q loose XP YP l.row.toRowW d [] (fun f vs=>PySem.call f vs):=by
 refine zZ6 (CX:=fun w=>CXd l.prog w) (sp:=fun w vs H Q E=>∀c:Nat->aZ,c 77=0->spD (K w.params) c 1 F vs H Q E) (x:=x) hn (by decide) hdf hr hY (fun w mg fa h hk hN hm=>?_) (fun w H a ns hl hO hS c h77=>?_) fun w H s e s' h=>?_
 ·obtain⟨c,fd,h77,hb,h2⟩:=hF w mg fa h hk hN hm;exact⟨fd,hb,fun base b1 b2=>FnOk.imp (h2 base b1 b2) fun vs H Q E z=>z c h77⟩
 ·obtain⟨e,he⟩:=law ns hl;have h0:hide (hd2 (fun _=>0) fun _=>0) H=H:=by funext a;unfold hide;rw[if_pos (by rfl)]
  have at_:DAt (K w.params) c (hide (hd2 (fun _=>0) fun _=>0) H) (.ref a) (.nd .lst (ns.map D.int)):=by
   exact .nd (k:=.lst) (vs:=ns.map V.int) hS (by rw[aW,aW]) (vXg ns).r
  refine⟨[.s false (.fz (.nd .lst (ns.map D.int)))],fun _=>0,fun _=>0,rfl,⟨zXm (fun z=>absurd h77 z) (us:=[.ref a]) (xs:=[.nd .lst (ns.map D.int)]) (.cons at_ .nil),fun a=>by show 0+0<=1;omega,fun a z=>absurd rfl z⟩,?_⟩;rw[he];intro v H' W' Z g;have:=(OAt.fz.mp g.at_).1;cases this;rfl
 ·obtain⟨_,_,_,_,_,_,_,_,_,_,_,_,_,_,_,_,h⟩:=h;exact h
end DX
namespace SG
open PySem
variable{xs:Array Nat}{j:Nat}
noncomputable def Ri(xs:Array Nat):Prop:=∀i k,i<k->k<xs.size->xs.getD i 0<xs.getD k 0
theorem zW1(xs:Array Nat)(j:Nat)(R:Ri xs):∀f lo hi,lo<=hi->hi<=xs.size->hi - lo<=f->(∀i,i<lo->xs.getD i 0<j)->(∀i,hi<=i->i<xs.size->j<=xs.getD i 0)->
  SetTable.below.go xs j f lo hi<=xs.size/\(∀i,i<SetTable.below.go xs j f lo hi->xs.getD i 0<j)/\(∀i,SetTable.below.go xs j f lo hi<=i->i<xs.size->j<=xs.getD i 0):=by
 intro f;induction f with
 | zero=>
   intro lo hi h1 h2 h3 h4 h5;have e:lo=hi:=by omega
   subst e;exact⟨h2,h4,h5⟩
 | succ f ih=>
   intro lo hi h1 h2 h3 h4 h5;unfold SetTable.below.go;by_cases c:lo<hi
   ·rw [if_pos c];dsimp only;have hm:(lo+hi) / 2<xs.size:=by omega
    have eg:∀d,xs.getD ((lo+hi) / 2) d=xs.getD ((lo+hi) / 2) 0:=fun d=>by simp[Array.getD,hm]
    rw[eg];by_cases c2:xs.getD ((lo+hi) / 2) 0<j
    ·rw [if_pos c2];refine ih _ _ (by omega) h2 (by omega) (fun i hi' =>?_) h5;by_cases z:i=(lo+hi) / 2
     ·rw[z];exact c2
     ·exact Nat.lt_trans (R i _ (by omega) hm) c2
    ·rw [if_neg c2];refine ih _ _ (by omega) (by omega) (by omega) h4 (fun i hi' hs=>?_);by_cases z:i=(lo+hi) / 2
     ·rw[z];omega
     ·have:=R ((lo+hi) / 2) i (by omega) hs;omega
   ·rw [if_neg c];have e:lo=hi:=by omega
    subst e;exact⟨h2,h4,h5⟩
theorem qQ2(R:Ri xs)(j:Nat):bW xs j<=xs.size/\(∀i,i<bW xs j->xs.getD i 0<j)/\(∀i,bW xs j<=i->i<xs.size->j<=xs.getD i 0):=
 zW1 xs j R _ _ _ (bO _) (aB _) (by omega) (fun _ h=>absurd h (by omega)) (fun i h1 h2=>by omega)
theorem vJ0(R:Ri xs)(h:(xs[bW xs j]? == some j)=false):∀i,i<xs.size->xs.getD i 0≠j:=by
 intro i hi e;obtain⟨a,b,c⟩:=qQ2 R j;have hb:bW xs j<=i:=by
  by_cases z:i<bW xs j
  ·have:=b i z;omega
  ·omega
 have hz:bW xs j=i:=by
  by_cases z:bW xs j=i
  ·exact z
  ·have h1:=c (bW xs j) (aB _) (by omega);have h2:=R (bW xs j) i (by omega) hi;omega
 rw[hz]at h;have:xs[i]?=some j:=by
  rw[dQ hi];simp only[Array.getD,hi,dif_pos]at e;rw[←e];rfl
 rw[this]at h;simp at h
theorem qY3{α:Type}(xs:Array α)(p:Nat)(x:α)(hp:p<=xs.size):(SetTable.insertAt xs p x).size =xs.size+1:=by
 unfold SetTable.insertAt;simp only[Array.size_append,Array.size_push,Array.size_extract];omega
theorem qZz{p x:Nat}(hp:p<=xs.size)(i:Nat):(SetTable.insertAt xs p x).getD i 0=if i<p then xs.getD i 0 else if i=p then x else xs.getD (i - 1) 0:=by
 unfold SetTable.insertAt;simp only[Array.getD_eq_getD_getElem?,Array.getElem?_append,Array.getElem?_push,Array.size_push,Array.size_extract,Array.getElem?_extract];grind
theorem zYl(R:Ri xs)(h:(xs[bW xs j]? == some j)=false):Ri (SetTable.insertAt xs (bW xs j) j):=by
 obtain⟨a,b,c⟩:=qQ2 R j;have no:=vJ0 R h;intro i k h1 h2;rw[qY3 _ _ _ a]at h2;rw[qZz a,qZz a];by_cases c1:i<bW xs j
 ·rw [if_pos c1];by_cases c2:k<bW xs j
  ·rw[if_pos c2];exact R i k h1 (by omega)
  ·grind
 ·rw [if_neg c1,if_neg (show¬k < bW xs j by omega),if_neg (show¬k=bW xs j by omega)];by_cases c3:i=bW xs j
  ·grind
  ·rw[if_neg c3];exact R (i - 1) (k - 1) (by omega) (by omega)
theorem zVe(n:Nat):Ri (Array.range n):=by
 intro i k h1 h2;rw[Array.size_range]at h2;simp[h2,Nat.lt_trans h1 h2,h1]
noncomputable def qVq(t:SetTable)(j:Nat):Prop:=(t.place[bW t.place j]? == some j)=false
theorem vVb{t:SetTable}(h:t.slot j=.empty):qVq t j:=by
 unfold SetTable.slot at h;unfold qVq;grind
theorem vVc{t:SetTable}(h:t.slot j=.dummy):qVq t j:=by
 unfold SetTable.slot at h;unfold qVq;grind
theorem qK3(t:SetTable)(p:SetTable.Probe):(t.advance p).dummy =p.dummy:=by
 unfold SetTable.advance;split <;> rfl
theorem zVi(t:SetTable)(f:Nat->Int)(h:Int):∀(n:Nat) (p:SetTable.Probe) (j:Nat) (d:Option Nat),(∀x,p.dummy=some x->qVq t x)->SetTable.probe.go t f h n p=some (.empty j d)->qVq t j/\∀x,d=some x->qVq t x:=by
 intro n;induction n with
 |zero=>intro p j d _ e;cases e
 | succ n ih=>
   intro p j d hp e;unfold SetTable.probe.go at e;split at e
   ·rename_i hs;injection e with e
    injection e with e1 e2
    subst e1;subst e2;exact⟨vVb hs,hp⟩
   ·rename_i hs;refine ih _ j d (fun x hx=>?_) e;rw[qK3]at hx;injection hx with hx
    subst hx;exact vVc hs
   ·split at e
    ·grind
    ·exact ih _ j d (fun x hx=>hp x (by rw[qK3]at hx;exact hx)) e
theorem zW4{t:SetTable}{h:Int}{b:Bool}(e:t.freeSlot h=some (j,b)):qVq t j:=by
 unfold SetTable.freeSlot at e;split at e
 ·rename_i j' d he;obtain⟨h1,h2⟩:=zVi t _ h _ _ _ _ (fun x hx=>by cases hx) he;injection e with e
  injection e with e1 e2
  subst e1;cases d with
  |none=>exact h1
  |some x=>grind
 ·cases e
theorem qQz(t:SetTable)(n:Nat):Ri (t.standIn n).place :=zVe n
theorem vQ8{t:SetTable}(n:Nat)(h:Ri t.place):Ri (t.orStandIn n).place :=by
 unfold SetTable.orStandIn;split
 ·exact h
 ·exact qQz t n
theorem qY2(t:SetTable)(n:Nat):(t.orStandIn n).led =t.led:=by
 unfold SetTable.orStandIn;split <;> rfl
theorem vYn{t:SetTable}(es:Array (Int×Value))(h:Int)(x:Value)(R:Ri t.place):Ri (layNew t es h x).2.1.place /\(layNew t es h x).2.1.led =t.led:=by
 unfold layNew;split
 ·rename_i slot wd e;dsimp only;exact⟨vQ8 _ (zYl R (zW4 e)),qY2 _ _⟩
 ·exact⟨qQz _ _,rfl⟩
theorem zWo{mask finger moves:Nat}{led plain:Bool}{hs:Array Int}{t:SetTable}{o:Array Nat}(e:SetTable.laid mask finger moves led plain hs=some (t,o)):Ri t.place/\t.led=led:=by
 obtain⟨owner,e1,e2⟩:=dE.mp e;injection e2 with e2
 injection e2 with e2 e3
 subst e2;refine⟨?_,rfl⟩;have pw:List.Pairwise (fun a b:Nat=>a<b) (((List.range (mask+1)).filterMap fun j=>(owner.getD j none).map (j,·)).map (·.1)):=by
  rw[List.pairwise_map,List.pairwise_filterMap];refine List.Pairwise.imp ?_ List.pairwise_lt_range;simp_all
 generalize ((List.range (mask+1)).filterMap fun j=>(owner.getD j none).map (j,·)).map (·.1)=l at pw⊢;intro i k h1 h2;have h2' :k<l.length:=by simpa using h2
 have:=List.pairwise_iff_getElem.mp pw i k (by omega) h2' h1;simp only[Array.getD_eq_getD_getElem?,List.getElem?_toArray,aF h2',aF (show i<l.length by omega)];exact this
theorem relayAll_ri{t:SetTable}(es:Array (Int×Value))(m:Nat):Ri (relayAll t es m).2.1.place /\(relayAll t es m).2.1.led =t.led:=by
 unfold relayAll;split
 ·rename_i t' o e;dsimp only;split
  ·exact zWo e
  ·exact⟨qQz _ _,rfl⟩
 ·exact⟨qQz _ _,rfl⟩
end SG
namespace SG
open PySem PySem.Spec PyProof.Rows
variable{a:aZ}{S S':Int->Bool}{es es':Array (Int×Value)}{ep n g nT:Nat}{t':SetTable}{Q:Option Value->aJ->Prop}{prog:aT}{w:bY}{α:Type}{c:Prop}{M:Model}{f v:Value}{ys:List Nat}{oT:Obj}
section
variable{prog:aT}{w:bY}{A:bR}{E:Value->aJ->Prop}{s:aJ}
structure SetI(prog:aT)(w:bY)(S:Int->Bool)(o:Obj)(es:Array (Int×Value))(ep:Nat)(t:SetTable):Prop where
 ex:o.ExactSet
 da:o.data=.set es ep t
 el:ElemsOf (intKind prog w) es.toList
 me:∀k,S k=true↔∃e∈es.toList,(intKind prog w).is k e.2=true
 sm:es.size<scanBound
 ft:t.fits es.size=true
 ri:Ri t.place
 ld:t.led= !w.params.followText "set-order"
noncomputable def SetG(prog:aT)(w:bY)(a:aZ)(S:Int->Bool)(n:Nat)(h:Heap):Prop:=∃o es ep t,h.get? a=some o/\SetI prog w S o es ep t/\es.size=n
theorem vK7{o:Obj}{t:SetTable}(e:s.heap.get? a=some o)(i:SetI prog w S o es ep t)(el:ElemsOf (intKind prog w) es'.toList)(me:∀k,S' k=true↔∃e∈es'.toList,(intKind prog w).is k e.2=true)(sm:es'.size<scanBound)(ft:t'.fits es'.size=true)(ri:Ri t'.place)(ld:t'.led=t.led){Q:Unit->aJ->Prop}(h:∀(h' :Heap) (o' :Obj),dL a s.heap h' ->h'.get? a=some o' ->SetI prog w S' o' es' (ep+1) t' ->Q () {s with heap:=h' }):
  aI (model prog w) A (storeSet a es' t') Q E s:=by
 refine wpAny_storeSet_of e i.da ?_ (fits_of_scanBound sm)
 obtain⟨q,_⟩:=SetOf_store (knd:=intKind prog w) e i.ex i.da el me sm ft;exact h _ _ (Heap.SameBut.update s.heap a (Obj.putSet es' t')) q ⟨i.ex,rfl,el,me,sm,ft,ri,by rw[ld];exact i.ld⟩
theorem zXh{g:Bool->Sem Unit}(hg:∀(b:Bool) (z:aJ) (Q:Unit->aJ->Prop),Q () z->aI (model prog w) A (g b) Q E z){o:Obj}{t:SetTable}(e:s.heap.get? a=some o)(i:SetI prog w S o es ep t)(el:ElemsOf (intKind prog w) es'.toList)(me:∀k,S' k=true↔∃e∈es'.toList,(intKind prog w).is k e.2=true)(sm:es'.size<scanBound)(ft:t'.fits es'.size=true)(ri:Ri t'.place)(ld:t'.led=t.led){wd:Bool}{R:Option Bool->aJ->Prop}(h:∀h',dL a s.heap h' ->SetG prog w a S' es'.size h' ->R (some true) {s with heap:=h' }):
  aI (model prog w) A (do
    storeSet a es' t';if(!wd && t'.tooFull)=true then do
       g (relayAll t' es' (SetTable.grown es'.size)).2.2;storeSet a (relayAll t' es' (SetTable.grown es'.size)).1 (relayAll t' es' (SetTable.grown es'.size)).2.1;pure (some true)
     else pure (some true)) R E s:=by
 refine aV (vK7 e i el me sm ft ri ld fun h1 o1 s1 e1 i1=>?_);split
 ·have p:=relayAll_perm t' es' (SetTable.grown es'.size);have f:=relayAll_fits t' es' (SetTable.grown es'.size);obtain⟨r1,r2⟩:=relayAll_ri (t:=t') es' (SetTable.grown es'.size);generalize relayAll t' es' (SetTable.grown es'.size)=L at p f r1 r2⊢;have z:L.1.size=es'.size:=by rw[←dD,p.length_eq,dD]
  refine aV (hg _ _ _ (aV (vK7 (s:={s with heap:=h1}) (S' :=S') e1 i1 (el.perm p) (fun k=>(me k).trans ⟨fun⟨x,q1,q2⟩=>⟨x,p.mem_iff.mpr q1,q2⟩,fun⟨x,q1,q2⟩=>⟨x,p.mem_iff.mp q1,q2⟩⟩) (by rw[z];exact sm) f r1 r2 fun h2 o2 s2 e2 i2=>?_)));exact aP (h _ (s1.trans s2) ⟨o2,_,_,_,e2,i2,z⟩)
 ·exact aP (h _ s1 ⟨o1,_,_,_,e1,i1,rfl⟩)
theorem addG{k:Int}{x:Value}{Q:Bool->aJ->Prop}(hk:(intKind prog w).is k x=true)(hx:x.scannable=true)(hS:SetG prog w a S n s.heap)(room:n+1<scanBound)(h:∀h',dL a s.heap h' ->SetG prog w a (fun j=>S j || decide (j=k)) (if S k then n else n+1) h' ->Q (!S k) {s with heap:=h' }):
  aI (model prog w) A (setAddHashed a x ((intKind prog w).hash k)) Q E s:=by
 obtain⟨o,es,ep,t,e,i,z⟩:=hS;have b1:es.size+1<scanBound:=by rw[z];exact room
 unfold setAddHashed setAddHashedIn;refine eJ (aV (eW e i.da i.ft ?_));dsimp only;rw[byScan_of hx i.sm i.el];simp only[↓reduceIte];unfold setAddByScan;refine aV (aV (wpAny_rule (aV (wpAny_setScan_of hk e i.da i.ft i.el ?_))));cases hr:List.findIdx? (fun y=>(intKind prog w).is k y.2) es.toList with
 | some j=>
   dsimp only;obtain⟨q1,q2,_⟩:=List.findIdx?_eq_some_iff_getElem.mp hr;have t1:S k=true:=(i.me k).mpr ⟨es.toList[j],List.getElem_mem q1,q2⟩;refine aP (aP ?_);have r:=h s.heap (Heap.SameBut.refl a s.heap) ⟨o,es,ep,t,e,⟨i.ex,i.da,i.el,fun m=>by
    rw[Bool.or_eq_true,decide_eq_true_eq,←i.me m];exact⟨fun y=>y.elim id fun u=>by rw[u];exact t1,.inl⟩,i.sm,i.ft,i.ri,i.ld⟩,by rw[t1];exact z⟩
   rw[t1]at r;exact r
 | none=>
   dsimp only;have t1:S k=false:=by
    cases c:S k with
    |false=>rfl
    | true=>
      obtain⟨y,y1,y2⟩:=(i.me k).mp c;rw[List.findIdx?_eq_none_iff.mp hr y y1]at y2;cases y2
   have p:=layNew_perm t es ((intKind prog w).hash k) x;have f:=layNew_fits t es ((intKind prog w).hash k) x;obtain⟨r1,r2⟩:=vYn es ((intKind prog w).hash k) x i.ri;generalize layNew t es ((intKind prog w).hash k) x=L at p f r1 r2⊢;obtain⟨es',t',wd,gave⟩:=L;dsimp only at p f r1 r2⊢;rw[Array.toList_push]at p;have el:=(i.el.push hk hx).perm p;have me:=mem_push_iff (S:=S) hk i.me p;have sz:es'.size=n+1:=by rw[←dD,p.length_eq,aU,dD,z];rfl
   have sm:es'.size<scanBound:=by rw[sz];exact room
   have fin:∀h',dL a s.heap h' ->SetG prog w a (fun j=>S j || decide (j=k)) es'.size h' ->Q true {s with heap:=h' }:=fun h' y1 y2=>by
    have r:=h h' y1;rw[t1]at r;rw[sz]at y2;exact r y2
   have gw:∀(b:Bool) (s1:aJ) (Q' :Unit->aJ->Prop),Q' () s1->aI (model prog w) A (match b with|true=>rule "set.scan.the-table-gave-way" |false=>pure ()) Q' E s1:=fun b s1 Q' q=>by
    cases b <;> first|exact aP q|exact wpAny_rule q
   refine aV (gw _ _ _ ?_);split
   ·refine aV ?_
    rw[hashByValue_scannable 8 hx];refine aP (zXh (fun b s1 Q' q=>by cases b <;> first|exact aP q|exact wpAny_rule q) e i el me sm ?_ ?_ ?_ fun h' y1 y2=>aP (fin h' y1 y2))
    ·split
     ·exact f
     ·exact SetTable.fits_plain_off f
    ·split
     ·exact r1
     ·exact r1
    ·split
     ·exact r2
     ·exact r2
   ·refine aV (aP ?_);simp only[↓reduceIte];exact zXh (fun b s1 Q' q=>by cases b <;> first|exact aP q|exact wpAny_rule q) e i el me sm f r1 r2 fun h' y1 y2=>aP (fin h' y1 y2)
end
theorem SetG.at{h h' :Heap}(g:SetG prog w a S n h)(k:∀o,h.get? a=some o->h'.get? a=some o):SetG prog w a S n h' :=by
 obtain⟨o,es,ep,t,e,i,z⟩:=g;exact⟨o,es,ep,t,k _ e,i,z⟩
theorem SetG.eq{n':Nat}{h:Heap}(g:SetG prog w a S n h)(e:∀k,S k=S' k)(m:n=n'):SetG prog w a S' n' h:=by
 have:S=S' :=funext e;grind
section
variable{prog:aT}{w:bY}{A:bR}{R:Result->aJ->Prop}{I:aZ}{fp wr:List aZ}{G:Array GenState->Array GenState->Prop}{n:Nat}{P:Nat->Value->Prop}{St:Nat->aJ->Prop}
theorem jVh(W:WalksS prog w A.in1 I fp wr G n P St)(S:aZ)(off:S∉fp)(val:Nat->Int)(hv:∀i v,P i v->∃t,v=.int (val i) t)(few:n+1<scanBound):
  ∀(k i:Nat) (s:aJ),n - i=k->i<=n->St i s->SetG prog w S (fun j=>(firstMet val i).any (· == j)) (firstMet val i).length s.heap->
   (∀s',Moved (S::wr) G s s' ->SetG prog w S (fun j=>(firstMet val n).any (· == j)) (firstMet val n).length s'.heap->R (.ok (.ret .none)) s')->
   codeAny (model prog w) A (.builtin "set.update.loop" ⟨[.ref S,.ref I],[]⟩) R s:=by
 have ow:S∉wr:=fun z=>off (W.sub _ z)
 have up:∀b∈wr,b∈S::wr:=fun b z=>aO _ z
 intro k
 induction k with
 | zero=>
   intro i s hk hi st g hR
   obtain rfl:i=n:=by omega
   refine codeAny_builtin F.entry_set_update_loop ?_
   refine aV (m:=pyNext (.ref I)) (W.done s _ _ st fun s' m=>?_)
   exact aP (hR s' (m.mono up) (g.at fun o e=>m.heap S _ ow e))
 | succ k ih=>
   intro i s hk hi st g hR
   have lt:i<n:=by omega
   refine codeAny_builtin F.entry_set_update_loop ?_
   refine aV (m:=pyNext (.ref I)) (W.item i s _ _ lt st fun v s' p st' m=>?_)
   obtain⟨t,rfl⟩:=hv i v p
   have g' :=g.at (h' :=s'.heap) fun o e=>m.heap S _ ow e
   refine aV (m:=holding [Value.int (val i) t] (setAdd S (.int (val i) t))) (eJ ?_)
   refine eJ (aV ((intKind prog w).pyHash (k:=val i) (intKind_is _ _ _ _) ?_))
   refine addG (s:={s' with toks:=s'.toks+1}) (intKind_is _ _ _ _) rfl g' (by have:=firstMet_length_le val i;omega) fun h2 sb g2=>?_
   have g3:=g2.eq (S' :=fun j=>(firstMet val (i+1)).any (· == j)) (n' :=(firstMet val (i+1)).length) (fun j=>by rw[firstMet_succ,step_any]) (by rw[firstMet_succ,step_length])
   refine aP ⟨plainId_quiet F.plain_set_update_loop _,ih (i+1) _ (by omega) lt (W.frame _ s' _ _ st' (Nat.le_succ _) fun b hb o e=>?_) g3 fun s2 m2 g4=>?_⟩
   ·rw[sb.2 b fun z=>off (by rw[←z];exact hb)];exact e
   ·refine hR s2 (Moved.trans W.gtrans ((m.mono up).then_heap (Nat.le_succ _) fun b o hb e=>?_) m2) g4
    rw[sb.2 b fun z=>hb (by rw[z];exact bT)];exact e
end
section
variable{prog:aT}{w:bY}{A:bR}{E:Value->aJ->Prop}{s:aJ}
noncomputable abbrev newS(w:bY):Obj:={cls:=.type "set",dict:=none,data:=.set #[] 0 (.fresh 0 0 (!w.params.followText "set-order"))}
theorem newG(a:Value){Q:Value->aJ->Prop}(h:Q (.ref s.heap.objs.size) {s with heap:=s.heap.push (newS w)}):
  codeAny (model prog w) A (.call (.builtin "set.__new__") ⟨[.type "set",a],[]⟩) (wants Q E) s:=by
 refine codeAny_of_tree ?_
 refine aV (wpAny_of_eq (PySem.F.newCall_set_1 a) (aP ⟨plainId_quiet PySem.F.plain_set_new _,codeAny_builtin PySem.F.entry_set_new ?_⟩));unfold Builtin.«set.__new__» Builtin.Frozenset.newClass;have hsub:=sub_set_self;wp_walk;refine wpAny_askSetting (aP ?_);exact aV (wpAny_alloc (aP (aP h)))
end
section
variable{prog:aT}{w:bY}{A:bR}{E:Value->aJ->Prop}{s:aJ}
noncomputable abbrev fmS(ns:List Int)(n:Nat):List Int:=firstMet (fun i=>ns.getD i 0) n
noncomputable abbrev inS(ns:List Int)(n:Nat):Int->Bool:=fun j=>(fmS ns n).any (· == j)
theorem zV0(w:bY)(s:aJ):(s.heap.push (newS w)).get? s.heap.objs.size=some (newS w):=aC _ rfl
theorem zWm(prog:aT)(w:bY):SetI prog w (fun _=>false) (newS w) #[] 0 (.fresh 0 0 (!w.params.followText "set-order")) where
 ex:=⟨rfl,rfl,rfl⟩
 da:=rfl;el:=fun e he=>by simp at he
 me:=fun k=>by simp
 sm:=by decide
 ft:=by rfl
 ri:=fun i k _ h=>absurd h (Nat.not_lt_zero _)
 ld:=rfl
set_option maxHeartbeats 3200000 in
theorem vKa{l:aZ}{its:Array Value}{ns:List Int}{Q:Value->aJ->Prop}(hh:A.handled=none)(hl:s.heap.IsList l its)(hi:IntsAre its.toList ns)(few:its.size+1<scanBound)(h:∀(h' :Heap) (tk:Nat),SetG prog w s.heap.objs.size (inS ns its.size) (fmS ns its.size).length h' ->(∀b o,b<s.heap.objs.size->s.heap.get? b=some o->h'.get? b=some o)->Q (.ref s.heap.objs.size) {s with heap:=h',toks:=tk}):
  aI (model prog w) A (call (.type "set") [.ref l]) Q E s:=by
 obtain⟨c,tl,hmro⟩:=cF.mro;have hmade:=cF.made;have hsub:=cF.sub;refine wpAny_call (codeAny_of_tree ?_);show aI _ _ (callAny (.type "set") _) _ _ _;refine aP ⟨Code.quiet_builtin _ (by decide +kernel),codeAny_builtin PySem.F.entry_type_call ?_⟩;rw[Around.under_plain (weight_type_call_type "set" [.ref l] []) rfl];have h1:=cF.notType;have h2:=cF.canCreate;have hct:=PySem.F.typeCall_set_1 (.ref l);repeat (any_goals (first|assumption|wp_step))
 refine codeAny_mono (newG (.ref l) (E:=E) (Q:=fun u z=>u=.ref s.heap.objs.size/\z={s with heap:=s.heap.push (newS w)}) ⟨rfl,rfl⟩) fun r z hr=>?_
 cases r with
 |error e=>exact hr
 | ok fl=>
   cases fl with
   | ret u=>
     obtain⟨rfl,rfl⟩:=hr;have hS:=zV0 w s;have hT:Shared.TypeIs {s with heap:=s.heap.push (newS w)} (.ref s.heap.objs.size) "set":=⟨_,hS,rfl⟩
     have hli:=cF.init.lookup;have hbi:=cF.init.bind (.ref s.heap.objs.size);repeat (any_goals (first|assumption|wp_step))
     refine codeAny_mono (codeAny_call_builtin (R:=wants (fun r z=>r=.none /\∃h' tk,z={s with heap:=h',toks:=tk}/\SetG prog w s.heap.objs.size (inS ns its.size) (fmS ns its.size).length h' /\∀b o,b<s.heap.objs.size->s.heap.get? b=some o->h'.get? b=some o) E)
      cF.init.plain PySem.F.entry_set_init (check_set_init_1 hT ?_)) fun r2 z2 hr2=>?_
     ·obtain⟨ol,hol,hcl,nl,hdl⟩:=hl;obtain⟨ocls,odict,odata,oslots⟩:=ol;simp only at hcl hdl;subst hcl;subst hdl;have hol' :(s.heap.push (newS w)).get? l=some {cls:=.type "list",dict:=odict,data:=.seq its nl,slots:=oslots}:=aX _ hol;have hsls:=PySem.F.sub_list_set;have hslf:=PySem.F.sub_list_frozenset;have hne:(Value.type "list" == Value.type "dict")=false:=by decide
      have hl1:(s.heap.push (newS w)).IsList l its:=⟨_,hol',rfl,nl,rfl⟩
      unfold Builtin.«set.__init__» noKeywords Builtin.Frozenset.updateFrom;generalize hPI:pyIter=PI;wp_walk;subst hPI;refine wpAny_pyIter_list hl1 (aV (wpAny_runValue ?_));have lS:l<s.heap.objs.size:=aE hol;have lI:l≠(s.heap.push (newS w)).objs.size:=by rw[bU];exact bV (Nat.lt_succ_of_lt lS)
      have off:s.heap.objs.size∉ [(s.heap.push (newS w)).objs.size,l]:=by
       rw[bU];intro z;rcases aG.mp z with z|z
       ·exact absurd z (bV (Nat.lt_succ_self _))
       ·exact absurd (bJ.mp z) (dU lS)
      refine jVh ((Walks.list (show A.in1.in1.in1.handled=none by simp[hh]) _ l lI its).toS) s.heap.objs.size off (fun i=>ns.getD i 0) (fun i v q=>IntsAre.int_at hi i v (by rw[Array.getElem?_toList];exact q)) few (its.size - 0) 0 _ (by omega) (bO _)
       ⟨⟨_,aC _ rfl,rfl,rfl⟩,hl1.push _⟩ ⟨_,_,_,_,aX _ hS,zWm prog w,rfl⟩ fun z m g=>?_
      obtain⟨h',g',d',tk',os'⟩:=z;obtain rfl:g' =s.gens:=m.gens;obtain rfl:d' =s.drawn:=m.drawn;obtain rfl:os' =s.os:=m.os;refine aP ?_
      show aI _ _ (ret Value.none) _ _ _;refine aP ⟨rfl,h',tk',rfl,g,fun b o hb e=>m.heap b o (fun z=>?_) (aX _ (aX _ e))⟩;rcases aG.mp z with z|z
      ·exact absurd z (bV hb)
      ·have z:=bJ.mp z;rw[bU]at z;exact absurd z (bV (Nat.lt_succ_of_lt hb))
     ·cases r2 with
      |error e=>exact hr2
      | ok f2=>
        cases f2 with
        | ret r=>
          obtain⟨rfl,h',tk,rfl,g,k⟩:=hr2;repeat (any_goals (first|assumption|wp_step))
          exact h _ _ g k
        |_=>exact hr2.elim
   |_=>exact hr.elim
end
theorem qYe:∀{l:List α} {i:Nat} (h:i<l.length),(l[i]::l.eraseIdx i).Perm l
 |x::l,0,_=>.refl _
 |x::l,i+1,h=>(List.Perm.swap _ _ _).trans ((qYe (l:=l) (i:=i) (Nat.lt_of_succ_lt_succ h)).cons x)
theorem jE:Slot "set_iterator" "__next__" "set_iterator.__next__":=
 .of (owner:="set_iterator") (n:="__next__") (by rw[typeLookup_type,builtinLookup_eq_fast];kernel_rfl) (by decide +kernel) (by decide +kernel) (by decide +kernel) (by first|exact .inl (by decide +kernel)|exact .inr (by decide +kernel)) (by rw[isSubtype_type];kernel_rfl)
theorem qY4:entryFor table "set_iterator.__next__"=some Builtin.«set_iterator.__next__»:=entryFor_of_fast (by kernel_rfl)
theorem vVj(a:Value):argsOk "set_iterator.__next__" ⟨[a],[]⟩:=by kernel_rfl
theorem qJ0:Slot "set_iterator" "__iter__" "set_iterator.__iter__":=
 .of (owner:="set_iterator") (n:="__iter__") (by rw[typeLookup_type,builtinLookup_eq_fast];kernel_rfl) (by decide +kernel) (by decide +kernel) (by decide +kernel) (by first|exact .inl (by decide +kernel)|exact .inr (by decide +kernel)) (by rw[isSubtype_type];kernel_rfl)
theorem qY5:entryFor table "set_iterator.__iter__"=some Builtin.«dict_keyiterator.__iter__»:=entryFor_alias (id' :="dict_keyiterator.__iter__") (by kernel_rfl) rfl (by decide +kernel) (by kernel_rfl)
theorem vVk(a:Value):argsOk "set_iterator.__iter__" ⟨[a],[]⟩:=by kernel_rfl
theorem qYx:entryFor table "set.__iter__"=some Builtin.«frozenset.__iter__»:=entryFor_alias (id' :="frozenset.__iter__") (by kernel_rfl) rfl (by decide +kernel) (by kernel_rfl)
section
variable{prog:aT}{w:bY}{A:bR}{E:Value->aJ->Prop}{s:aJ}
theorem qJm[Decidable c]{a b:Sem α}{Q:α->aJ->Prop}(n:¬c)(h:aI M A b Q E s):aI M A (if c then a else b) Q E s:=by grind
theorem zX1[Decidable c]{a b:Sem α}{Q:α->aJ->Prop}(n:c)(h:aI M A a Q E s):aI M A (if c then a else b) Q E s:=by grind
theorem zXc{src:Source}{Q:Nat->aJ->Prop}(hn:n≠0)(h:∀i d,i<n->Q i {s with drawn:=d}):aI (model prog w) A (choose src n) Q E s:=fun Γ p _=>by
 show Sem.wp _ _ (.choose src n .pure) _ _ _ _;exact⟨hn,h _ _ (Nat.mod_lt _ (Nat.pos_of_ne_zero hn))⟩
theorem jVt:∀(n:Nat) (xs:List α) (s:aJ) (Q:List α->aJ->Prop),xs.length<=n->(∀ys d,ys.Perm xs->Q ys {s with drawn:=d})->aI (model prog w) A (drawOrder n xs) Q E s:=by
 intro n;induction n with
 | zero=>
   intro xs s Q hn h;have:xs=[]:=cI (by omega);subst this;exact aP (h [] s.drawn (.refl _))
 | succ n ih=>
   intro xs s Q hn h;cases xs with
   |nil=>exact aP (h [] s.drawn (.refl _))
   | cons x xs=>
     refine aV (zXc (by simp) fun i d hi=>?_);have g:(x::xs)[i]?=some (x::xs)[i]:=aF hi;rw[g];refine aV (ih _ _ _ (by rw[List.length_eraseIdx];split <;> simp_all) fun ys d' p=>aP (h _ _ ?_));have:=qYe hi;exact(List.Perm.cons _ p).trans this
end
theorem zJ0(next:Nat->Nat):∀(f k:Nat) (l:List α) (o:Array α),l.length<=f->(pickOrder.go next f k l o).toList.Perm (o.toList ++ l):=by
 intro f;induction f with
 | zero=>
   intro k l o h;have:l=[]:=cI (by omega);subst this;unfold pickOrder.go;simp_all
 | succ f ih=>
   intro k l o h;unfold pickOrder.go;cases l with
   |nil=>simp
   | cons x l=>
     have hi:next k % (x::l).length<(x::l).length :=Nat.mod_lt _ (by simp)
     rw[aF hi];refine(ih _ _ _ (by rw[List.length_eraseIdx];split <;> simp_all)).trans ?_
     rw[Array.toList_push,List.append_assoc];exact List.Perm.append_left _ (qYe hi)
theorem vYa(next:Nat->Nat)(xs:Array α):(pickOrder next xs).toList.Perm xs.toList:=by
 have:=zJ0 next xs.size 0 xs.toList #[] (by simp)
 simpa[pickOrder] using this
noncomputable def qJj(t:SetTable):Nat->Nat
 | 0=>0
 |i+1=>t.place.getD i 0+1
theorem zQ8{t:SetTable}(R:Ri t.place):∀{i:Nat},i<=t.place.size->bW t.place (qJj t i)=i
 | 0,_=>by
   obtain⟨a,b,c⟩:=qQ2 R (qJj t 0);by_cases z:0<bW t.place (qJj t 0)
   ·exact absurd (b 0 z) (Nat.not_lt_zero _)
   ·omega
 | i + 1,h=>by
   have e:qJj t (i+1)=t.place.getD i 0+1:=rfl;rw[e];obtain⟨a,b,c⟩:=qQ2 R (t.place.getD i 0+1);generalize bW t.place (t.place.getD i 0+1)=m at a b c⊢;by_cases z:m<i+1
   ·have h1:=c m (aB _) (by omega);by_cases y:m=i
    ·rw[y]at h1;omega
    ·have:=R m i (by omega) (by omega);omega
   ·by_cases z2:i + 1 < m
    ·have h1:=b (i + 1) z2;have:=R i (i+1) (by omega) (by omega);omega
    ·omega
noncomputable abbrev qVi(f:Value)(i:Nat)(v:Value)(n ep:Nat):Obj:={cls:=.type "set_iterator",dict:=none,data:=.fields #[f,.int i 0,v,.int n 0,.int ep 0],slots:=#[]}
section
variable{prog:aT}{w:bY}{A:bR}{E:Value->aJ->Prop}{s:aJ}{a:aZ}{S:Int->Bool}{o:Obj}{es:Array (Int×Value)}{ep:Nat}{t:SetTable}
theorem vXq{Q:Bool->aJ->Prop}(h:Q (w.params.followText "set-order") s):aI (model prog w) A setsByText Q E s:=by
 exact aV (wpAny_askSetting (aP h))
theorem jVb(e:s.heap.get? a=some o)(i:SetI prog w S o es ep t)(b:w.params.followText "set-order"=true){sl:Nat}{Q:Option (Value×Nat)->aJ->Prop}(h:Q (((pickOrder (w.params.setOrder a ep) es)[g]?).map fun e=>(e.2,sl)) s):aI (model prog w) A (setNext a sl g ep) Q E s:=by
 refine aV (eW e i.da i.ft ?_);refine zX1 b ?_
 refine qJm (by simp) ?_
 refine aV (aV (eW e i.da i.ft ?_));refine zX1 b (aV (wpAny_askSetting (aP (aP h))))
theorem jVc(e:s.heap.get? a=some o)(i:SetI prog w S o es ep t)(b:w.params.followText "set-order"=false)(d:¬(!t.plain && decide (es.size > 1))=true){j:Nat}(hj:j<=es.size){Q:Option (Value×Nat)->aJ->Prop}(h1:∀(hj:j<es.size),Q (some (es[j].2,qJj t (j+1))) s)(h2:j=es.size->Q none s):aI (model prog w) A (setNext a (qJj t j) g ep) Q E s:=by
 have sz:t.place.size=es.size:=by
  have:=i.ft;unfold SetTable.fits at this;simp at this;exact this.1
 unfold setNext;refine aV (eW e i.da i.ft ?_);dsimp only;refine aV (vXq ?_);refine qJm (by rw[b];exact aR) ?_
 refine qJm d ?_
 refine aV ?_
 refine qJm (show¬(!t.led &&!es.isEmpty)=true by rw[i.ld,b];simp) ?_
 refine aP ?_
 rw[zQ8 i.ri (by omega)];refine aP ?_
 by_cases c:j<es.size
 ·have q1:es[j]?=some es[j]:=dQ c;have q2:t.place[j]?=some (t.place.getD j 0):=by rw[dQ (by omega)];simp[Array.getD,show j<t.place.size by omega]
  rw[q1,q2];exact h1 c
 ·have q1:es[j]?=none:=Array.getElem?_eq_none (by omega)
  rw[q1];exact h2 (by omega)
end
section
variable{prog:aT}{w:bY}{A:bR}{E:Value->aJ->Prop}{s:aJ}{a I:aZ}{S:Int->Bool}{o:Obj}{es:Array (Int×Value)}{ep j:Nat}{t:SetTable}
theorem vKo{k:Nat}(hI:s.heap.get? I=some (qVi f k v n ep))(h:aI (model prog w) A.in1 (Builtin.«set_iterator.__next__» ⟨[.ref I],[]⟩) (fun fin s' =>∃r,fin=.done (.ret r)/\Q (some r) s') (fun e s' =>aI (model prog w) A (do if←isInstance e (.type "StopIteration") then pure none else throw e) Q E s') s):
  aI (model prog w) A (pyNext (.ref I)) Q E s:=by
 unfold pyNext;refine aV (wpAny_attempt (dO (name:=Str.ofString "__next__") ⟨_,hI,rfl⟩ jE (cS jE ⟨_,hI,rfl⟩ qY4 ?_ (vVj _))));refine eQ h ?_ ?_
 ·rintro fin s' ⟨r,rfl,q⟩;exact⟨r,rfl,aP q⟩
 ·intro e s' q;exact q
theorem vKn{P:PySem.Fin->aJ->Prop}(hh:A.handled=none)(h:∀h',(∀b o,s.heap.get? b=some o->h'.get? b=some o)->Q none {s with heap:=h' }):
  aI (model prog w) A.in1 (do raiseNew (←newExc (.type "StopIteration") [])) P (fun e s' =>aI (model prog w) A (do if←isInstance e (.type "StopIteration") then pure none else throw e) Q E s') s:=by
 refine aV ?_
 refine aV (m:=firstArgMember _ _) (wpAny_of_eq (a:=Value.none) (by first|rfl|(simp only[firstArgMember];rfl)) ?_);refine cD ?_ (by size_fits)
 refine aV (wpAny_handled ?_);rw[show A.in1.handled=none from hh];refine aV (aP (wpAny_throw ?_));refine aV (wpAny_isInstance (T:="StopIteration") (b:=true) ⟨_,aC _ rfl,rfl⟩ isSubtype_stop ?_);exact aP (h _ fun b o e=>aX _ (aX _ e))
theorem setG{vs:Array Value}{k:Nat}{x:Value}{Q:Unit->aJ->Prop}(e:s.heap.get? I=some {cls:=.type "set_iterator",dict:=none,data:=.fields vs,slots:=#[]})(hk:k<vs.size)(h:∀h',h'.get? I=some {cls:=.type "set_iterator",dict:=none,data:=.fields (vs.setIfInBounds k x),slots:=#[]}->(∀b o,b≠I->s.heap.get? b=some o->h'.get? b=some o)->Q () {s with heap:=h' }):
  aI (model prog w) A (setField (.ref I) k x) Q E s:=by
 refine dW e hk fun h' q sb=>h h' q fun b o n y=>?_
 rw[sb.2 b n];exact y
theorem vWn(hI:s.heap.get? I=some (qVi (.int (qJj t j) 0) j (.ref a) es.size ep))(e:s.heap.get? a=some o)(i:SetI prog w S o es ep t)(b:w.params.followText "set-order"=false)(d:¬(!t.plain && decide (es.size > 1))=true)(hh:A.handled=none)(hj:j<=es.size)(h1:∀(hj:j<es.size) h',h'.get? I=some (qVi (.int (qJj t (j+1)) 0) (j+1) (.ref a) es.size ep)->(∀b o,b≠I->s.heap.get? b=some o->h'.get? b=some o)->Q (some es[j].2) {s with heap:=h' })(h2:j=es.size->∀h',(∀b o,b≠I->s.heap.get? b=some o->h'.get? b=some o)->Q none {s with heap:=h' }):aI (model prog w) A (pyNext (.ref I)) Q E s:=by
 refine vKo hI ?_
 unfold Builtin.«set_iterator.__next__»;show aI _ _ (fieldsOf (.ref I) >>=_) _ _ s;refine aV (wpAny_fieldsOf hI rfl ?_);dsimp only;refine aV (wpAny_setEntries_of e i.da i.ft ?_);refine qJm (by simp) ?_
 refine aV ?_
 refine jVc e i b d hj (fun hj' =>?_) fun z=>?_
 ·dsimp only;refine aV (setG hI (by simp) fun h' q1 q2=>?_);refine aV (setG (s:={s with heap:=h' }) q1 (by simp) fun h'' q3 q4=>?_);exact aP ⟨_,rfl,h1 hj' h'' q3 fun b o n y=>q4 b o n (q2 b o n y)⟩
 ·dsimp only;refine aV (setG hI (by simp) fun h' q1 q2=>?_);exact vKn hh fun h'' q3=>h2 z h'' fun b o n y=>q3 b o (q2 b o n y)
end
section
variable{prog:aT}{w:bY}{A:bR}{E:Value->aJ->Prop}{s:aJ}{a I T:aZ}{S:Int->Bool}{o:Obj}{es:Array (Int×Value)}{ep j:Nat}{t:SetTable}
theorem vWm(hI:s.heap.get? I=some (qVi (.int 0 0) j (.ref a) es.size ep))(e:s.heap.get? a=some o)(i:SetI prog w S o es ep t)(b:w.params.followText "set-order"=true)(hh:A.handled=none){vs:Array (Int×Value)}(hv:vs=pickOrder (w.params.setOrder a ep) es)(hj:j<=vs.size)(h1:∀(hj:j<vs.size) h',h'.get? I=some (qVi (.int 0 0) (j+1) (.ref a) es.size ep)->(∀b o,b≠I->s.heap.get? b=some o->h'.get? b=some o)->Q (some vs[j].2) {s with heap:=h' })(h2:j=vs.size->∀h',(∀b o,b≠I->s.heap.get? b=some o->h'.get? b=some o)->Q none {s with heap:=h' }):aI (model prog w) A (pyNext (.ref I)) Q E s:=by
 refine vKo hI ?_
 unfold Builtin.«set_iterator.__next__»;show aI _ _ (fieldsOf (.ref I) >>=_) _ _ s;refine aV (wpAny_fieldsOf hI rfl ?_);dsimp only;refine aV (wpAny_setEntries_of e i.da i.ft ?_);refine qJm (by simp) ?_
 refine aV (jVb e i b ?_);rw[←hv];by_cases c:j<vs.size
 ·have q1:vs[(j:Int).toNat]?=some vs[j]:=dQ c;rw[q1];dsimp only[Option.map_some];refine aV (setG hI (by simp) fun h' q1 q2=>?_);refine aV (setG (s:={s with heap:=h' }) q1 (by simp) fun h'' q3 q4=>?_);exact aP ⟨_,rfl,h1 c h'' q3 fun b o n y=>q4 b o n (q2 b o n y)⟩
 ·have q1:vs[(j:Int).toNat]?=none:=Array.getElem?_eq_none (by simpa using c)
  rw[q1];dsimp only[Option.map_none];refine aV (setG hI (by simp) fun h' q1 q2=>?_);exact vKn hh fun h'' q3=>h2 (by omega) h'' fun b o n y=>q3 b o (q2 b o n y)
theorem jVd(e:s.heap.get? a=some o)(i:SetI prog w S o es ep t){k:Nat}(hk:k<es.size){Q:Value->aJ->Prop}(h:Q es[k].2 s):aI (model prog w) A (setNextDrawn a k ep) Q E s:=by
 refine aV (eW e i.da i.ft ?_);refine qJm (by simp) ?_
 rw[dQ hk];exact aP h
theorem vWo(hI:s.heap.get? I=some (qVi (.ref T) j (.ref a) es.size ep))(e:s.heap.get? a=some o)(i:SetI prog w S o es ep t)(hT:s.heap.get? T=some oT)(dT:oT.data=.seq (ys.map fun y=>Value.int (y:Nat) 0).toArray nT)(hy:∀y∈ys,y<es.size)(nT:T≠I)(hh:A.handled=none)(hj:j<=ys.length)(h1:∀(hj:j<ys.length) (hy:ys[j] < es.size) h',h'.get? I=some (qVi (.ref T) (j+1) (.ref a) es.size ep)->(∀b o,b≠I->s.heap.get? b=some o->h'.get? b=some o)->Q (some es[ys[j]].2) {s with heap:=h' })(h2:j=ys.length->∀h',(∀b o,b≠I->s.heap.get? b=some o->h'.get? b=some o)->Q none {s with heap:=h' }):aI (model prog w) A (pyNext (.ref I)) Q E s:=by
 refine vKo hI ?_
 unfold Builtin.«set_iterator.__next__»;show aI _ _ (fieldsOf (.ref I) >>=_) _ _ s;refine aV (wpAny_fieldsOf hI rfl ?_);dsimp only;refine aV (wpAny_setEntries_of e i.da i.ft ?_);refine qJm (by simp) ?_
 refine aV (dY hT dT ?_);dsimp only;by_cases c:j<ys.length
 ·have q1:(ys.map fun y=>Value.int (y:Nat) 0).toArray[(j:Int).toNat]?=some (Value.int (ys[j]:Nat) 0):=by
   rw[eZ,List.getElem?_toArray,List.getElem?_map,aF c];rfl
  rw[q1];dsimp only;have hk:=hy _ (List.getElem_mem c);refine aV (jVd e i (k:=ys[j]) hk ?_);refine aV (setG hI (by simp) fun h' q1 q2=>?_);exact aP ⟨_,rfl,h1 c hk h' q1 q2⟩
 ·have q1:(ys.map fun y=>Value.int (y:Nat) 0).toArray[(j:Int).toNat]?=none:=by
   rw[eZ,List.getElem?_toArray,List.getElem?_eq_none (by simpa using c)]
  rw[q1];dsimp only;refine aV (setG hI (by simp) fun h' q1 q2=>?_);refine aV (setG (s:={s with heap:=h' }) q1 (by simp) fun h'' q3 q4=>?_);exact vKn hh fun h3 q5=>h2 (by omega) h3 fun b o n y=>q5 b o (q4 b o n (q2 b o n y))
end
section
variable{prog:aT}{w:bY}{A:bR}{E:Value->aJ->Prop}{s:aJ}{a I T:aZ}{S:Int->Bool}{o:Obj}{es:Array (Int×Value)}{ep j:Nat}{t:SetTable}
theorem vQl{k:Nat}{Q:Value->aJ->Prop}(hI:s.heap.get? I=some (qVi f k v n ep))(h:Q (.ref I) s):aI (model prog w) A (pyIter (.ref I)) Q E s:=by
 refine wpAny_pyIter_slot ⟨_,hI,rfl⟩ qJ0 (cS qJ0 ⟨_,hI,rfl⟩ qY5 ?_ (vVk _));exact aP ⟨_,rfl,"set_iterator",_,⟨_,hI,rfl⟩,jE.lookup,h⟩
theorem vXx(i:SetI prog w S o es ep t)(n:a≠I)(hh:A.handled=none)(b:w.params.followText "set-order"=false)(d:¬(!t.plain && decide (es.size > 1))=true):
  Walks prog w A I [I,a] [I] (es.toList.map (·.2)).length (fun k v=>(es.toList.map (·.2))[k]?=some v) (fun k h=>h.get? I=some (qVi (.int (qJj t k) 0) k (.ref a) es.size ep)/\h.get? a=some o) where
 sub:=fun b hb=>by simp at hb;simp[hb]
 frame:=fun _ _ _ st hk=>⟨hk I (by simp) _ st.1,hk a (by simp) _ st.2⟩
 item:=fun k s Q E hk st hQ=>by
  have hk' :k<es.size:=by simpa using hk
  refine vWn st.1 st.2 i b d hh (dB hk') (fun _ h' q1 q2=>hQ _ h' s.toks (by simp[hk']) ⟨q1,q2 a _ n st.2⟩ fun b o hb e=>q2 b o (fun z=>hb (by simp[z])) e) fun z=>by omega
 done:=fun s Q E st hQ=>by
  rw[show(es.toList.map (·.2)).length =es.size by simp]at st;exact vWn st.1 st.2 i b d hh (aB _) (fun z=>absurd z (bM _)) fun _ h' q=>hQ h' s.toks fun b o hb e=>q b o (fun z=>hb (by simp[z])) e
 self:=fun _ _ _ _ st hQ=>vQl st.1 hQ
theorem vXw(i:SetI prog w S o es ep t)(n:a≠I)(hh:A.handled=none)(b:w.params.followText "set-order"=true):
  Walks prog w A I [I,a] [I] ((pickOrder (w.params.setOrder a ep) es).toList.map (·.2)).length (fun k v=>((pickOrder (w.params.setOrder a ep) es).toList.map (·.2))[k]?=some v) (fun k h=>h.get? I=some (qVi (.int 0 0) k (.ref a) es.size ep)/\h.get? a=some o) where
 sub:=fun b hb=>by simp at hb;simp[hb]
 frame:=fun _ _ _ st hk=>⟨hk I (by simp) _ st.1,hk a (by simp) _ st.2⟩
 item:=fun k s Q E hk st hQ=>by
  have hk' :k<(pickOrder (w.params.setOrder a ep) es).size :=by simpa using hk
  refine vWm st.1 st.2 i b hh rfl (dB hk') (fun _ h' q1 q2=>hQ _ h' s.toks (by simp[hk']) ⟨q1,q2 a _ n st.2⟩ fun b o hb e=>q2 b o (fun z=>hb (by simp[z])) e) fun z=>by omega
 done:=fun s Q E st hQ=>by
  rw[show((pickOrder (w.params.setOrder a ep) es).toList.map (·.2)).length =(pickOrder (w.params.setOrder a ep) es).size by simp]at st;exact vWm st.1 st.2 i b hh rfl (aB _) (fun z=>absurd z (bM _)) fun _ h' q=>hQ h' s.toks fun b o hb e=>q b o (fun z=>hb (by simp[z])) e
 self:=fun _ _ _ _ st hQ=>vQl st.1 hQ
noncomputable def byY(es:Array (Int×Value))(ys:List Nat):List Value:=ys.map fun y=>(es.getD y (0,.none)).2
theorem vXy(i:SetI prog w S o es ep t)(n:a≠I)(m:T≠I)(hh:A.handled=none)(dT:oT.data=.seq (ys.map fun y=>Value.int (y:Nat) 0).toArray nT)(hy:∀y∈ys,y<es.size):
  Walks prog w A I [I,a,T] [I] (byY es ys).length (fun k v=>(byY es ys)[k]?=some v) (fun k h=>h.get? I=some (qVi (.ref T) k (.ref a) es.size ep)/\h.get? a=some o/\h.get? T=some oT) where
 sub:=fun b hb=>by simp at hb;simp[hb]
 frame:=fun _ _ _ st hk=>⟨hk I (by simp) _ st.1,hk a (by simp) _ st.2.1,hk T (by simp) _ st.2.2⟩
 item:=fun k s Q E hk st hQ=>by
  have hk' :k<ys.length:=by simpa[byY] using hk
  refine vWo st.1 st.2.1 i st.2.2 dT hy m hh (dB hk') (fun _ hy' h' q1 q2=>hQ _ h' s.toks ?_ ⟨q1,q2 a _ n st.2.1,q2 T _ m st.2.2⟩ fun b o hb e=>q2 b o (fun z=>hb (by simp[z])) e) fun z=>by omega
  simp[byY,hk',hy']
 done:=fun s Q E st hQ=>by
  rw[show(byY es ys).length =ys.length by simp[byY]]at st;exact vWo st.1 st.2.1 i st.2.2 dT hy m hh (aB _) (fun z=>absurd z (bM _)) fun _ h' q=>hQ h' s.toks fun b o hb e=>q b o (fun z=>hb (by simp[z])) e
 self:=fun _ _ _ _ st hQ=>vQl st.1 hQ
theorem zZ3(p:ys.Perm (List.range es.size)):(byY es ys).Perm (es.toList.map (·.2)):=by
 refine(p.map _).trans ?_
 have:(List.range es.size).map (fun y=>(es.getD y (0,.none)).2)=es.toList.map (·.2):=by
  refine List.ext_getElem (by simp) fun i h1 h2=>?_
  have h3:i<es.size:=by simpa using h2
  simp_all
 rw[this]
end
structure Wk(prog:aT)(w:bY)(s:aJ)(a:aZ)(es:Array (Int×Value))(I:aZ)(h' :Heap)(vs:List Value)(fp:List aZ)(St:Nat->Heap->Prop):Prop where
 wk:∀A:bR,A.handled=none->Walks prog w A I fp [I] vs.length (fun k v=>vs[k]?=some v) St
 st:St 0 h'
 keep:∀b o,s.heap.get? b=some o->h'.get? b=some o
 far:∀b∈fp,b=a\/s.heap.objs.size<=b
 new:s.heap.objs.size<=I
 pm:vs.Perm (es.toList.map (·.2))
section
variable{prog:aT}{w:bY}{A:bR}{E:Value->aJ->Prop}{s:aJ}{a:aZ}{S:Int->Bool}{o:Obj}{es:Array (Int×Value)}{ep j:Nat}{t:SetTable}
theorem jQe(e:s.heap.get? a=some o)(i:SetI prog w S o es ep t){Q:Bool->aJ->Prop}(h:Q (!w.params.followText "set-order" && (!t.plain && decide (es.size > 1))) s):aI (model prog w) A (setDrawn a) Q E s:=by
 refine aV (eW e i.da i.ft ?_);exact aV (vXq (aP h))
theorem jVj(e:s.heap.get? a=some o)(i:SetI prog w S o es ep t){Q:Value->aJ->Prop}(h:∀I h' vs fp St d,Wk prog w s a es I h' vs fp St->Q (.ref I) {s with heap:=h',drawn:=d}):aI (model prog w) A (pyIter (.ref a)) Q E s:=by
 have la:a<s.heap.objs.size:=aE e;refine wpAny_pyIter_slot ⟨o,e,i.ex.1⟩ PySem.F.slot_set_iter (cS PySem.F.slot_set_iter ⟨o,e,i.ex.1⟩ qYx ?_ (PySem.F.args_set_iter_1 _));unfold Builtin.«frozenset.__iter__»;show aI _ _ (Builtin.Frozenset.sizeOf a >>=_) _ _ s;unfold Builtin.Frozenset.sizeOf;refine aV (aV (wpAny_setEntries_of e i.da i.ft (aP ?_)));refine aV (jQe e i ?_);cases b:w.params.followText "set-order" with
 | true=>
   refine aV (aP (aV (wpAny_setEpoch_of e i.da i.ft ?_)));refine aV (cD (aP ⟨_,rfl,"set_iterator",_,⟨_,aC _ rfl,rfl⟩,jE.lookup,?_⟩));exact h _ _ _ _ _ s.drawn ⟨fun A hA=>vXw i (bV la) hA b,⟨aC _ rfl,aX _ e⟩,fun b o q=>aX _ q,fun b hb=>(aG.mp hb).elim (fun z=>.inr (Nat.le_of_eq z.symm)) fun z=>.inl (bJ.mp z),aB _,(vYa _ _).map _⟩
 | false=>
   by_cases d:(!t.plain && decide (es.size > 1))=true
   ·rw [d];refine aV (jVt _ _ _ _ (by simp) fun ys dr p=>?_);have few:es.size<4096:=i.sm;have ln:ys.length=es.size:=by rw[p.length_eq];simp
    refine aV (m:=newTuple _) (cD (s:={s with drawn:=dr}) ?_ (by show _<=aA;rw[aH,aW,ln];unfold aA;omega));have e1:(s.heap.push {cls:=.type "tuple",dict:=none,data:=.seq (ys.map fun i=>rawInt (i:Nat)).toArray }).get? a=some o:=aX _ e;refine aV (wpAny_setEpoch_of e1 i.da i.ft ?_);refine aV (cD (aP ⟨_,rfl,"set_iterator",_,⟨_,aC _ rfl,rfl⟩,jE.lookup,?_⟩));refine h _ _ _ _ _ dr ⟨fun A hA=>vXy (T:=s.heap.objs.size) (ys:=ys) i ?_ ?_ hA rfl ?_,⟨aC _ rfl,aX _ e1,aX _ (aC _ rfl)⟩,fun b o q=>aX _ (aX _ q),fun b hb=>?_,?_,zZ3 p⟩
    ·rw[bU];exact bV (Nat.lt_succ_of_lt la)
    ·rw[bU];exact bV (Nat.lt_succ_self _)
    ·intro y hy;exact List.mem_range.mp (p.mem_iff.mp hy)
    ·rw [bU] at hb;rcases aG.mp hb with hb|hb
     ·exact .inr (by rw[hb];exact Nat.le_succ _)
     ·rcases aG.mp hb with hb | hb
      ·exact .inl hb
      ·exact .inr (by rw[bJ.mp hb];exact aB _)
    ·rw[bU];exact Nat.le_succ _
   ·rw [show(!t.plain && decide (es.size > 1))=false from by simpa using d];refine aV (aP (aV (wpAny_setEpoch_of e i.da i.ft ?_)));refine aV (cD (aP ⟨_,rfl,"set_iterator",_,⟨_,aC _ rfl,rfl⟩,jE.lookup,?_⟩));exact h _ _ _ _ _ s.drawn ⟨fun A hA=>vXx i (bV la) hA b d,⟨aC _ rfl,aX _ e⟩,fun b o q=>aX _ q,fun b hb=>(aG.mp hb).elim (fun z=>.inr (Nat.le_of_eq z.symm)) fun z=>.inl (bJ.mp z),aB _,.refl _⟩
end
noncomputable abbrev ls0:Obj:={cls:=.type "list",data:=.seq ([]:List Value).toArray }
section
variable{prog:aT}{w:bY}{A:bR}{E:Value->aJ->Prop}{s:aJ}{a:aZ}{S:Int->Bool}{o:Obj}{es:Array (Int×Value)}{ep j:Nat}{t:SetTable}
theorem jVn{Q:Bool->aJ->Prop}(hT:s.TypeIs (.ref a) "set")(h:Q false s):aI (model prog w) A (Builtin.List.listLengthHint (.ref a)) Q E s:=by
 refine aV (wpAny_specialOf hT PySem.F.slot_set_len.lookup ?_);generalize hid:("set.__len__":String)=id0;wp_delta;subst hid;refine aV (wpAny_isInstance (b:=true) hT sub_set_self ?_);refine aV (wpAny_typeOf hT ?_);exact aP h
set_option maxHeartbeats 1000000 in
theorem zZ0(hh:A.handled=none)(e:s.heap.get? a=some o)(i:SetI prog w S o es ep t){Q:List Value->aJ->Prop}(h:∀s' vs,(∀b o,s.heap.get? b=some o->s'.heap.get? b=some o)->s'.gens=s.gens->s'.os=s.os->s.heap.objs.size<=s'.heap.objs.size->vs.Perm (es.toList.map (·.2))->Q vs s'):aI (model prog w) A (collect (.ref a)) Q E s:=by
 have la:a<s.heap.objs.size:=aE e;have few:es.size<4096:=i.sm;refine aV (wpAny_runValue (codeAny_builtin PySem.F.entry_proto_collect ?_));refine aV (cD ?_);refine aP ⟨plainId_quiet PySem.F.plain_list_iadd _,codeAny_builtin PySem.F.entry_list_iadd ?_⟩;show aI _ A.in1 (Builtin.List.listExtendWith (.ref s.heap.objs.size) (.ref a) (.ref s.heap.objs.size)) _ _ _;have e1:(s.heap.push ls0).get? a=some o:=aX _ e;have eS:(s.heap.push ls0).get? s.heap.objs.size=some ls0:=aC _ rfl;refine aV (wpAny_typeOf (T:="set") ⟨_,e1,i.ex.1⟩ ?_);refine qJm ?_ ?_
 ·have h1:Builtin.List.listSameRef (.ref s.heap.objs.size) (.ref a)=false:=by simp [Builtin.List.listSameRef,dU la]
  rw[h1];decide
 refine aV (jVj (s:={s with heap:=s.heap.push ls0}) e1 i fun I h' vs fp St d W=>?_);refine aV (eJ (jVn ⟨_,W.keep a _ e1,i.ex.1⟩ ?_));refine aV (wpAny_rule ?_);refine aV ?_
 have f1:=W.keep _ _ eS;refine aV (wpAny_updateSeq f1 rfl ?_);have f2:=dA (Obj.mapSeq (·.push Value.none)) f1 rfl;refine wpAny_updateSeq f2 rfl ?_
 have f3:=dA (Obj.mapSeq (·.pop)) f2 rfl;have oth:∀b o,b≠s.heap.objs.size->h'.get? b=some o->((h'.update s.heap.objs.size (Obj.mapSeq (·.push Value.none))).update s.heap.objs.size (Obj.mapSeq (·.pop))).get? b=some o:=
  fun b o hb q=>(dN _ _ (Ne.symm hb)).trans ((dN _ _ (Ne.symm hb)).trans q)
 have Sf:s.heap.objs.size∉fp:=fun z=>by
  rcases W.far _ z with z|z
  ·exact absurd z (dU la)
  ·have z:(s.heap.push ls0).objs.size<=s.heap.objs.size:=z;rw[bU]at z;exact absurd z (Nat.not_succ_le_self _)
 have Wk:=W.wk A.in1 hh;have ln:vs.length=es.size:=by rw[W.pm.length_eq];simp
 refine aP ⟨plainId_quiet PySem.F.plain_extend_loop _,codeAny_extend_loopS Wk.toS (by rw[ln];unfold aA;omega) _ Sf _ vs.length 0 _ _ _ rfl (bO _) (Wk.frame 0 h' _ W.st fun b hb o q=>oth b o (fun z=>Sf (z▸hb)) q) f3 (ItemsOf.nil _) fun s' acc c m g it=>?_⟩;refine aV (wpAny_load g ?_);have eq:acc.toList=vs:=by
  refine List.ext_getElem? fun k=>?_
  rw[Array.getElem?_toList];cases c:acc[k]? with
  |some v=>exact(it.2 k v c).symm
  | none=>
    have:acc.size<=k:=Array.getElem?_eq_none_iff.mp c;rw[it.1]at this;exact(List.getElem?_eq_none this).symm
 refine aP (h s' _ (fun b o q=>?_) m.gens m.os (dB (aE g)) (by rw[eq];exact W.pm));have lb:=aE q;refine m.heap b o (fun z=>?_) (oth b o (bV lb) (W.keep b o (aX _ q)));rcases aG.mp z with z|z
 ·exact absurd z (bV lb)
 ·have n:(s.heap.push ls0).objs.size<=I:=W.new;rw[bU]at n;rw[bJ.mp z]at lb;exact absurd (aN lb (Nat.le_of_succ_le n)) (bM _)
end
theorem isI{k:Int}(h:(intKind prog w).is k v=true):∃t,v=.int k t:=by
 have h:Value.isInt k v=true:=h;cases v with
 | int n t=>
   have:n=k:=by simpa[Value.isInt] using h
   grind
 |_=>simp[Value.isInt]at h
theorem ints_of{prog:aT}{w:bY}:∀{vs:List Value},(∀v∈vs,∃k,(intKind prog w).is k v=true)->∃ns,IntsAre vs ns
 |[],_=>⟨[],.nil⟩
 | v::vs,h=>by
   obtain⟨k,hk⟩:=h v (bT ..);obtain⟨t,rfl⟩:=isI hk;obtain⟨ns,hn⟩:=ints_of (prog:=prog) (w:=w) (vs:=vs) fun u hu=>h u (aO _ hu)
   exact⟨k::ns,.cons k t hn⟩
theorem vZf:∀{vs:List Value} {ns:List Int},IntsAre vs ns->vs.length=ns.length
 |_,_,.nil =>rfl
 |_,_,.cons _ _ h=>by rw[aK,aK,vZf h]
theorem vZe:∀{vs:List Value} {ns:List Int} {k:Int},IntsAre vs ns->(k∈ns↔∃t,Value.int k t∈vs)
 |_,_,k,.nil =>by simp
 | _,_,k, .cons n t h=>by
   rw[aG,vZe h];constructor
   ·rintro(rfl | ⟨u,hu⟩)
    ·exact⟨t,bT ..⟩
    ·exact⟨u,aO _ hu⟩
   ·rintro⟨u,hu⟩;rcases aG.mp hu with hu|hu
    ·injection hu with h1 _;exact .inl h1
    ·exact .inr ⟨u,hu⟩
theorem vWz:∀{l ns:List Int},l.Nodup->(∀x∈l,x∈ns)->ns.length<=l.length->ns.Perm l
 | [],ns,_,_,h=>by
   have:ns=[]:=cI (by simpa using h);rw[this]
 | x::l,ns,nd,sb,h=>by
   have hx:=sb x (bT ..);rw[cB]at nd;have p:=List.perm_cons_erase hx;refine p.trans (List.Perm.cons x (vWz nd.2 (fun y hy=>?_) ?_))
   ·exact(List.mem_erase_of_ne fun(z:y=x)=>nd.1 (by rw[←z];exact hy)).mpr (sb y (aO _ hy))
   ·have:=p.length_eq;rw[aK]at this h;omega
section
variable{prog:aT}{w:bY}{A:bR}{E:Value->aJ->Prop}{s:aJ}{a:aZ}
set_option maxHeartbeats 2000000 in
theorem vZn{l:List Int}(nd:l.Nodup)(hh:A.handled=none)(g:SetG prog w a (fun j=>l.any (· == j)) l.length s.heap)(few:l.length<64){Q:Value->aJ->Prop}(h:∀s' D out ns c,(∀b o,s.heap.get? b=some o->s'.heap.get? b=some o)->s'.gens=s.gens->s'.os=s.os->s.heap.objs.size<=D->s'.heap.get? D=some (seqObj "list" out c)->IntsAre out.toList ns->ns.Perm l->ns.Pairwise (·<=·)->Q (.ref D) s'):
  aI (model prog w) A (call (.builtin "sorted") [.ref a]) Q E s:=by
 obtain⟨o,es,ep,t,e,i,z⟩:=g;refine Calls.call_function_entry kind_sorted plain_sorted entry_sorted (args_sorted1 _) ?_
 refine aV (m:=checkCount "sorted" 1 1 _) (aP ?_);refine aV (zZ0 (A:=A.in1) hh e i fun s1 vs k1 k2 k3 k4 pm=>?_);have ln:vs.length=l.length:=by rw[pm.length_eq,←z];simp
 obtain⟨ns,hI⟩:=ints_of (prog:=prog) (w:=w) (vs:=vs) fun v hv=>by
  obtain⟨y,hy,rfl⟩:=dH.mp (pm.mem_iff.mp hv);obtain⟨⟨k,hk,_⟩,_⟩:=i.el y hy;exact⟨k,hk⟩
 have np:ns.Perm l:=by
  refine vWz nd (fun x hx=>?_) (by rw[←vZf hI];omega);obtain⟨y,hy,hk⟩:=(i.me x).mp (List.any_eq_true.mpr ⟨x,hx,by simp⟩);obtain⟨tk,ht⟩:=isI hk;exact(vZe hI).mpr ⟨tk,pm.mem_iff.mpr (dH.mpr ⟨y,hy,ht⟩)⟩
 refine aV (wpAny_newList ?_ (by rw[ln];unfold aA;omega));have at1:(s1.heap.push (seqObj "list" vs.toArray 0)).get? s1.heap.objs.size=some (seqObj "list" vs.toArray 0):=aC _ rfl;refine aV (eJ (cS slot_list_sort ⟨_,at1,rfl⟩ entry_list_sort (list_sort_tree (s:={s1 with heap:=s1.heap.push (seqObj "list" vs.toArray 0)}) at1 hI (by omega) fun out ns' a1 a2 a3=>⟨_,rfl,?_⟩) (args_list_sort _)));refine aP ⟨_,rfl,?_⟩;obtain⟨c,hc⟩:=sortedHeap_at (out:=out) at1;refine h {s1 with heap:=sortedHeap (s1.heap.push (seqObj "list" vs.toArray 0)) s1.heap.objs.size vs out} s1.heap.objs.size out ns' c (fun b o q=>?_) k2 k3 k4 hc a1 (a2.trans np) a3;have q1:=k1 b o q;have q2:=aE q1;rw[sortedHeap_old (bV q2) (by rw[bU];exact Nat.lt_succ_of_lt q2)];exact aX _ q1
end
end SG
namespace L2
open PySem PySem.Spec PySem.W PyProof.Rows SG
variable{H:Hp}
noncomputable def StX(prog:aT)(w:bY)(a:aZ)(l:List Int):HO:=.ext (fun h=>SetG prog w a (fun j=>l.any (· == j)) l.length h)
theorem zYe{prog:aT}{w:bY}{a:aZ}{l:List Int}{h:Heap}(p:SetG prog w a (fun j=>l.any (· == j)) l.length h):vS prog w H h a (StX prog w a l):=by
 refine⟨p,?_,fun _ _ q k=>q.at k⟩;obtain⟨o,_,_,_,e,_⟩:=p;exact⟨o,e⟩
theorem Inv.move{X:Cx}{pins:List (aZ×Obj)}{σ:L2.St}{s s2:aJ}(I:Inv X pins σ H s)(h1:s2.heap=s.heap)(h2:s2.os=s.os)(h3:s2.gens=s.gens):Inv X pins σ H s2:=by
 obtain⟨g1,g2,g3,g4,g5⟩:=s2;cases h1;cases h2;cases h3;exact⟨I.ok,I.os,I.bare,I.base,I.loc,I.cell,I.free,I.freeC,I.pin,I.hok,I.len⟩
section
variable{X:Cx}
theorem vY9(hc:X.calm=true):zL X (.type "set") (fun xs H Q=>∃(a:aZ) (ns:List Int),xs=[.ref a]/\SqL X.K H a (ns.map V.int)/\ns.length<=2000/\∀p,H p=none->Q (.ref p) (upd H p (StX X.prog X.w p (qQh ns)))):=by
 intro pins s σ H xs us Q I r h;obtain⟨a,ns,rfl,hl,few,q⟩:=h;obtain⟨u,rfl,ru⟩:=qVb r;cases(show u=Value.ref a from ru);obtain⟨its,rv,pl,_⟩:=I.list hl;have hi:IntsAre its ns:=qYo rv;have len:=rv.length;rw[aW]at len;refine vKa (I.ok.hd hc) pl.isList (ns:=ns) (by simpa using hi) (by rw[aH,←len];show ns.length+1<4096;omega) fun h' tk g kept=>?_
 have e:its.toArray.size=ns.length:=by rw[aH,←len]
 rw[e]at g;exact⟨.ref _,_,I.laid (t' :=tk) (a:=s.heap.objs.size) (o:=StX X.prog X.w s.heap.objs.size (qQh ns)) (h' :=h') (fun b o e=>kept b o (aE e) e) (aB _) (zYe g),rfl,q _ (I.hok.fresh (aB _))⟩
theorem vVf(hc:X.calm=true):zL X (.builtin "sorted") (fun xs H Q=>∃(a:aZ) (l:List Int),xs=[.ref a]/\H a=some (StX X.prog X.w a l)/\l.Nodup/\l.length<64/\
  ∀(D:aZ) (ns:List Int),H D=none->ns.Perm l->ns.Pairwise (·<=·)->Q (.ref D) (upd H D (.lst (ns.map V.int)))):=by
 intro pins s σ H xs us Q I r h;obtain⟨a,l,rfl,ha,nd,few,q⟩:=h;obtain⟨u,rfl,ru⟩:=qVb r;cases(show u=Value.ref a from ru);obtain⟨g,_,_⟩:=(show vS X.prog X.w H s.heap a (StX X.prog X.w a l) from I.hok a _ ha)
 refine vZn nd (I.ok.hd hc) g few fun s' D out ns c k1 k2 k3 k4 k5 k6 k7 k8=>?_
 have v:=qWd k6;have ln:=k7.length_eq;have I' :=I.laid (t' :=s'.toks) (a:=D) (o:=.lst (ns.map V.int)) (h' :=s'.heap) k1 k4 ⟨by rw[aW];unfold aA;omega,out.toList,c,v,k5⟩;exact⟨.ref D,_,I'.move rfl k3 k2,rfl,q D ns (I.hok.fresh k4) k7 k8⟩
end
end L2
namespace DX
open PySem L2 PyProof.Rows
variable{H:Hp}
section
variable{X:Cx}{K:aQ}{c:Nat->aZ}{E:XK}{e:Expr}{o:Oe}{p pos p2 pos2:Pos}
theorem jQd{F:Hp}(ns:List Int):DsAt K c F (ns.map V.int) (ns.map D.int):=by
 induction ns with
 |nil=>exact .nil
 |cons n ns ih=>exact .cons (.int n) ih
theorem vwsI{T:Fp}{us:List V}{xs:List D}{ns:List Int}(hv:Vws K c (hide T H) H us xs)(e:qXq xs=some ns):∃p,us=[.ref p]/\SqL K H p (ns.map V.int):=by
 unfold qXq at e;split at e
 ·obtain⟨u,rfl,v⟩:=vws1 hv;obtain⟨p,vs,rfl,h1,h2⟩:=v.un qT;rw[qWq h2 e]at h1;exact⟨p,rfl,h1⟩
 ·cases e
noncomputable def sortSD(xs:List D):Option (List D):=(qXq xs).bind fun ns=>cond (decide (ns.length<=2000) && decide ((qQh ns).length<64)) (some ((PySem.W.sortI (qQh ns)).map D.int)) none
noncomputable def rSet(X:Cx):List V->Hp->VK->Prop:=fun xs H Q=>∃(a:aZ) (ns:List Int),xs=[.ref a]/\SqL X.K H a (ns.map V.int)/\ns.length<=2000/\∀p,H p=none->Q (.ref p) (upd H p (StX X.prog X.w p (qQh ns)))
noncomputable def rSoS(X:Cx):List V->Hp->VK->Prop:=fun xs H Q=>∃(a:aZ) (l:List Int),xs=[.ref a]/\H a=some (StX X.prog X.w a l)/\l.Nodup/\l.length<64/\
  ∀(D:aZ) (ns:List Int),H D=none->ns.Perm l->ns.Pairwise (·<=·)->Q (.ref D) (upd H D (.lst (ns.map V.int)))
noncomputable def rTwo(r1 r2:List V->Hp->VK->Prop):List V->Hp->VK->Prop:=fun xs H Q=>r1 xs H fun x H1=>r2 [x] H1 Q
theorem zY0{id:String}{x:Str}{r:List V->Hp->VK->Prop}{t:TA}(h2:zL X (.builtin id) r)(hv:cC x=some (.builtin id))(hn:x≠"__name__")(hd:(x == ("__debug__":Str))=false)(hc:X.calm=true)(hg:Gl X "set")(hm:X.mg "set"=none)(hg2:Gl X x)(hm2:X.mg x=none)(ha:PA X [e] t)(hs:aY [e] X.env=[(false,eval e X.env)])(h0:aY [] X.env=[])(he:aY [Expr.Call (.Name "set" p) [e] [] pos] X.env=(false,eval (.Call (.Name "set" p) [e] [] pos) X.env)::aY [] X.env):
  PE X (.Call (.Name x p2) [.Call (.Name "set" p) [e] [] pos] [] pos2) (tCB (rTwo (rSet X) r) t):=by
 show PE X _ (tCB r (qKe (tCB (rSet X) t) tNil));exact qX9 h2 hg2 hm2 hv (yH (qZl (vY9 hc) hg hm Boot.«set» ha (by decide) (by decide) (by rw[hs,h0]) (by rw[h0];rfl)) qZ7 he) hn hd he (by rw[h0];rfl)
theorem zVk:PrF X.K c (rTwo (rSet X) (rSoS X)) sortSD:=fun us H T xs ds Q hb hv e q=>by
 obtain⟨ns,e1,e2⟩:=bnd e;obtain⟨q1,q2⟩:=zZ e2;cases q2;obtain⟨p,rfl,h1⟩:=vwsI hv e1;obtain⟨q3,q4⟩:=Bool.and_eq_true_iff.mp q1;refine⟨p,ns,rfl,h1,of_decide_eq_true q3,fun P hP=>⟨P,_,rfl,upd_same,qV9 ns,of_decide_eq_true q4,fun D ms hD pm pw=>?_⟩⟩;rw[PySem.W.eq_sortI pm pw];have hD' :H D=none:=by
  by_cases z:D=P
  ·grind
  ·rw[vQ z]at hD;exact hD
 exact q D _ _ hD' ((Same.upd hP).trans (.upd hD)) upd_same (jQd _)
theorem vXn(hc:X.calm=true)(hg:Gl X "set")(hm:X.mg "set"=none)(hg2:Gl X "sorted")(hm2:X.mg "sorted"=none)(h1:OD X c E e o)(hs:aY [e] X.env=[(false,eval e X.env)]:=by rfl)(h0:aY [] X.env=[]:=by rfl)(he:aY [Expr.Call (.Name "set" p) [e] [] pos] X.env=(false,eval (.Call (.Name "set" p) [e] [] pos) X.env)::aY [] X.env:=by rfl):
  ED X c E (.Call (.Name "sorted" p2) [.Call (.Name "set" p) [e] [] pos] [] pos2) (eF sortSD [o]):=
 ⟨PE.imp (zY0 (vVf hc) Boot.«sorted» (by decide) (by decide) hc hg hm hg2 hm2 (vM h1 qL (by rw[hs,h0])).h hs h0 he) fun _ _ _ h=>zXj zVk h⟩
end
noncomputable def eqFB:D->D->Option Bool
 |.int i,.int j=>some (i == j)
 |.str i,.str j=>some (decide (i=j))
 |.bl i,.bl j=>some (i == j)
 |_,_=>none
noncomputable def neF(x y:D):Option D:=(eqFB x y).map fun b=>.bl (!b)
section
variable{X:Cx}{K:aQ}{c:Nat->aZ}{E:XK}{a b:Expr}{oa ob:Oe}{pos:Pos}
theorem zW6{u w:V}{x y:D}{z:Bool}(hx:DAt K c H u x)(hy:DAt K c H w y)(e:eqFB x y=some z):scal u w=true/\decide (u=w)=z:=by
 unfold eqFB at e;split at e
 ·cases e;cases hx;cases hy;exact⟨rfl,vQw⟩
 ·cases e;cases hx;cases hy;exact⟨rfl,decide_eq_decide.mpr ⟨fun h=>by cases h;rfl,fun h=>by rw[h]⟩⟩
 ·cases e;cases hx;cases hy;exact⟨rfl,vZ5⟩
 ·cases e
theorem zQe:PrS2 K c rNe neF:=fun u w H x y z Q hx hy e q=>by
 obtain⟨b,e1,rfl⟩:=bX.mp e;obtain⟨h1,h2⟩:=zW6 hx hy e1;exact⟨h1,by rw[h2];exact q _ fun _=>.bl _⟩
theorem jQ9(ha:OD X c E a oa)(hb:OD X c E b ob):OD X c E (.Compare a [.NotEq] [b] pos) (o2 neF oa ob):=qXw vKt zQe ha hb (yS _)
theorem vVl(ha:OD X c E a oa)(hb:OD X c E b ob):TD X c E (.Compare a [.NotEq] [b] pos) (asB (o2 neF oa ob)):=qZ2 vKt zQe ha hb (yS _)
end
end DX
namespace FP
open PySem L2 DX PyProof.Rows
noncomputable def yB:Fn:=fnS 4 0 (sSeq (qQf [1] "steps" (pOf (oN 0)) (eF listD [(oN 1)]))
  (sSeq (qQf [1] "draws" (pOf (oN 0)) (compS 1 [] [0] (iV (oV (oN 2))) (gN 0) bTrue (fzS (eF listD [(oN 0)]))))
  (qQf [1] "slots" (pOf (oN 0)) (owS (oV (oN 3))))))
noncomputable def qI:Fn:=fnS 1 1 (sSeq (sSet 1 (owS (oV (oIx (oN 0) (oC (.int 0))))))
  (sSeq (sIf (asB (o2 eqD (oN 1) (oC (.str "if")))) (sRet (eLst [(oV (oIx (oN 0) (oC (.int 1)))),(oV (oIx (oN 0) (oC (.int 2)))),(oV (oIx (oN 0) (oC (.int 3))))])) sNil)
  (sSeq (sIf (asB (o2 inD (oN 1) (.v (svTup [(oV (oC (.str "op"))),(oV (oC (.str "bind")))])))) (sRet (eLst [(oV (oIx (oN 0) (oC (.int 2)))),(oV (oIx (oN 0) (oC (.int 3))))])) sNil)
  (sSeq (sIf (asB (o2 inD (oN 1) (.v (svTup [(oV (oC (.str "rest"))),(oV (oC (.str "field")))])))) (sRet (eLst [(oV (oIx (oN 0) (oC (.int 1))))])) sNil)
  (sSeq (sIf (asB (o2 eqD (oN 1) (oC (.str "record")))) (sRet (compS 2 [] [0,1] (iV (oV (oIx (oN 0) (oC (.int 1))))) (gT 2 (gCn (gN 0) (gCn (gN 1) gNl))) bTrue (oV (oN 1)))) sNil)
  (sSeq (sIf (asB (o2 eqD (oN 1) (oC (.str "call")))) (sRet (eF listD [(oIx (oN 0) (oC (.int 2)))])) sNil)
  (sRet (eLst []))))))))
noncomputable def jP(F_check_term_h:Fn):SS:=(vO (qN F_check_term_h [(.v (oV (oN 0))),(.v (oV (oN 5))),(.v (oV (oN 2))),(.v (oV (oN 3)))]))
noncomputable def vE:Nat->Fn
 | 0=>fun _=>.no
 | h + 1=>fnS 4 2 (sSeq (sSet 4 (owS (oV (oIx (oN 1) (oC (.int 0))))))
   (sSeq (sIf (bAnd (asB (o2 eqD (oN 4) (oC (.str "name")))) (asB (o2 niD (oIx (oN 1) (oC (.int 1))) (oN 2)))) sNo sNil)
   (sSeq (sIf (bAnd (asB (o2 eqD (oN 4) (oC (.str "call")))) (asB (o2 neF (.v (qK4 (pOf (oN 3)) (pOf (oIx (oN 1) (oC (.int 1)))))) (oL lenD [(oIx (oN 1) (oC (.int 2)))])))) sNo sNil)
   (sFor (iV (fzS (qN qI [(.v (oV (oN 1)))]))) (gN 5) (jP (vE h))))))
noncomputable def xH:SS:=(sSeq (sSet 5 (owS (oV (oIx (oN 4) (oC (.int 0))))))
  (sIf (asB (o2 eqD (oN 5) (oC (.str "def")))) (sSeq (sIf (asB (o2 inD (oIx (oN 4) (oC (.int 1))) (oN 2))) sNo sNil)
  (sSeq (vO (qN (vE 30) [(.v (oV (oN 3))),(.v (oV (oIx (oN 4) (oC (.int 3))))),(.v (oV (oIx (oN 4) (oC (.int 2))))),(.b (pOf (oN 2)))]))
  (sPutA (pOf (oN 2)) (pOf (oIx (oN 4) (oC (.int 1)))) (owS (oV (oL lenD [(oIx (oN 4) (oC (.int 2)))])))))) (sSeq (sIf (bAnd (asB (o2 eqD (oN 5) (oC (.str "again")))) (asB (o2 niD (oIx (oN 4) (oC (.int 2))) (oN 1)))) sNo sNil)
  (sSeq (vO (qN (vE 30) [(.v (oV (oN 3))),(.v (oV (oIx (oN 4) (o1 negD (oC (.int 1)))))),(.b (pOf (oN 1))),(.b (pOf (oN 2)))]))
  (sIf (asB (o2 eqD (oN 5) (oC (.str "let")))) (sPutA (pOf (oN 1)) (pOf (oIx (oN 4) (oC (.int 1)))) (owS (oV (oC (.bl true))))) sNil)))))
noncomputable def xP:Fn:=fnS 1 5 (sSeq (sSet 1 eDct0)
  (sSeq (sSet 2 eDct0)
  (sFor (iL enL [(oV (oN 0))]) (gT 2 (gCn (gN 3) (gCn (gN 4) gNl))) xH)))
noncomputable def xR:Fn:=fnS 1 0 (sIf (asB (oGt (oL lenD [(.v (fzS (compS 1 [] [0] (iV (oV (oN 0))) (gN 0) (asB (o2 eqD (oIx (oN 0) (oC (.int 0))) (oC (.str "def")))) (oV (oN 0)))))]) (oC (.int 3)))) sNo sNil)
noncomputable def qZp:Fn:=fnS 1 0 (sSeq (sIf (asB (o2 eqD (oIx (oN 0) (oC (.int 0))) (oC (.str "flip")))) (sRet (eLst [(svTup [(oV (oC (.int 0))),(oV (oSub (oIx (oN 0) (oC (.int 2))) (oIx (oN 0) (oC (.int 1)))))]),(svTup [(oV (oC (.int 1))),(oV (oIx (oN 0) (oC (.int 1))))])])) sNil)
  (sRet (eF listD [(oIx (oN 0) (oC (.int 1)))])))
noncomputable def vI:Fn:=fnS 2 1 (sSeq (sSet 2 (owS (oV (oIx (oN 0) (oC (.int 0))))))
  (sSeq (sIf (asB (o2 eqD (oN 2) (oC (.str "if")))) (sRet (owS (svTup [(oV (oC (.str "if"))),(oV (oIx (oN 1) (oC (.int 0)))),(oV (oIx (oN 1) (oC (.int 1)))),(oV (oIx (oN 1) (oC (.int 2))))]))) sNil)
  (sSeq (sIf (asB (o2 eqD (oN 2) (oC (.str "op")))) (sRet (owS (svTup [(oV (oC (.str "op"))),(oV (oIx (oN 0) (oC (.int 1)))),(oV (oIx (oN 1) (oC (.int 0)))),(oV (oIx (oN 1) (oC (.int 1))))]))) sNil)
  (sSeq (sIf (asB (o2 eqD (oN 2) (oC (.str "record")))) (sRet (owS (svTup [(oV (oC (.str "record"))),(svA tupleD [(.v (fzS (compS 2 [] [0,1] (iL zpA [(oV (oIx (oN 0) (oC (.int 1)))),(oV (oN 1))]) (gT 2 (gCn (gN 0) (gCn (gN 1) gNl))) bTrue (svTup [(oV (oIx (oN 0) (oC (.int 0)))),(oV (oN 1))]))))])]))) sNil)
  (sRet (owS (svTup [(oV (oN 2)),(oV (oIx (oN 1) (oC (.int 0)))),(oV (oIx (oN 0) (oC (.int 2))))])))))))
noncomputable def yU:Fn:=fnS 1 0 (sSeq (qQf [2] "helpers" (pOf (oN 0)) eDct0)
  (sSeq (qQf [2] "names" (pOf (oN 0)) eDct0)
  (sSeq (qQf [2] "steps" (pOf (oN 0)) (eLst []))
  (sSeq (qQf [2] "draws" (pOf (oN 0)) (eLst []))
  (sSeq (qQf [2] "slots" (pOf (oN 0)) (owS (oV (oC (.int 0)))))
  (qQf [2] "terms" (pOf (oN 0)) (owS (oV (oC (.int 0))))))))))
noncomputable def zB:Fn:=fnS 1 0 (sSeq (vVm [2] "terms" (i2 fun i j=>i+j) (pOf (oN 0)) (oV (oC (.int 1))))
  (sIf (asB (oGt (oFld [2] "terms" (oN 0)) (oC (.int 600)))) sNo sNil))
noncomputable def vF:Fn:=fnS 1 0 (sSeq (vVm [2] "slots" (i2 fun i j=>i+j) (pOf (oN 0)) (oV (oC (.int 1))))
  (sRet (owS (oV (oSub (oFld [2] "slots" (oN 0)) (oC (.int 1)))))))
noncomputable def wS:Fn:=fnS 2 0 (sSeq (vO (eMu1 (pOf (oFld [2] "draws" (oN 0))) (owS (oV (oN 1))) apF))
  (sSeq (sIf (asB (oGt (oL lenD [(oFld [2] "draws" (oN 0))]) (oC (.int 60)))) sNo sNil)
  (sRet (owS (oV (oSub (oL lenD [(oFld [2] "draws" (oN 0))]) (oC (.int 1))))))))
noncomputable def zX(R_Opener_open_term:Fn):SS:=(sSeq (vO (jO 2 "count_term" zB (.io 0) []))
  (sSeq (sSet 8 (jO 2 "open_term" R_Opener_open_term (.io 0) [(.v (oV (oN 7))),(.v (oV (oN 2)))]))
  (sSeq (sPutA (pOf (oN 4)) (pOf (oN 6)) (jO 2 "new_slot" vF (.io 0) []))
  (vO (eMu1 (pOf (oN 5)) (owS (svTup [(oV (oIx (oN 4) (oN 6))),(oV (oN 8))])) apF)))))
noncomputable def xD(R_Opener_open_term:Fn):SS:=(sSet 9 (owS (svTup [(oV (oC (.str "bind"))),(oV (oN 10)),(oV (oN 8)),(oV (oN 9))])))
noncomputable def wQ(R_Opener_open_term:Fn):Fn:=fnS 3 8 (sSeq (sSet 3 (owS (oV (oIx (oFld [2] "helpers" (oN 0)) (oIx (oN 1) (oC (.int 1)))))))
  (sSeq (sSet 4 eDct0)
  (sSeq (sSet 5 (eLst []))
  (sSeq (sFor (iL zpA [(oV (oIx (oN 3) (oC (.int 2)))),(oV (oIx (oN 1) (oC (.int 2))))]) (gT 2 (gCn (gN 6) (gCn (gN 7) gNl))) (zX R_Opener_open_term))
  (sSeq (sSet 9 (jO 2 "open_term" R_Opener_open_term (.io 0) [(.v (oV (oIx (oN 3) (oC (.int 3))))),(.v (oV (oN 4)))]))
  (sSeq (sFor (iL rvL [(oV (oN 5))]) (gT 2 (gCn (gN 10) (gCn (gN 8) gNl))) (xD R_Opener_open_term))
  (sRet (eMv 9))))))))
noncomputable def jU(F_Opener_open_term_h:Fn):SS:=(vO (eMu1 (pOf (oN 4)) (jO 2 "open_term" F_Opener_open_term_h (.io 0) [(.v (oV (oN 5))),(.v (oV (oN 2)))]) apF))
noncomputable def F_Opener_open_term:Nat->Fn
 | 0=>fun _=>.no
 | h + 1=>fnS 3 3 (sSeq (sSet 3 (owS (oV (oIx (oN 1) (oC (.int 0))))))
   (sSeq (sIf (asB (o2 eqD (oN 3) (oC (.str "call")))) (sRet (jO 2 "open_call" (wQ (F_Opener_open_term h)) (.io 0) [(.v (oV (oN 1))),(.v (oV (oN 2)))])) sNil)
   (sSeq (vO (jO 2 "count_term" zB (.io 0) []))
   (sSeq (sIf (asB (o2 eqD (oN 3) (oC (.str "num")))) (sRet (eMv 1)) sNil)
   (sSeq (sIf (asB (o2 eqD (oN 3) (oC (.str "name")))) (sRet (owS (svTup [(oV (oC (.str "slot"))),(oV (oIx (oN 2) (oIx (oN 1) (oC (.int 1)))))]))) sNil)
   (sSeq (sIf (asB (o2 inD (oN 3) (.v (svTup [(oV (oC (.str "flip"))),(oV (oC (.str "pick")))])))) (sRet (owS (svTup [(oV (oC (.str "draw"))),(fzS (jO 2 "new_draw" wS (.io 0) [(.v (fzS (qN qZp [(.v (oV (oN 1)))])))]))]))) sNil)
   (sSeq (sSet 4 (eLst []))
   (sSeq (sFor (iV (fzS (qN qI [(.v (oV (oN 1)))]))) (gN 5) (jU (F_Opener_open_term h)))
   (sRet (qN vI [(.v (oV (oN 1))),(.b (pOf (oN 4)))]))))))))))
noncomputable def jQ:Fn:=fnS 3 1 (sSeq (sSet 3 (qWu 2 "open_term" (F_Opener_open_term 30) (.io 0) [(.v (oV (oN 2))),(.b (pOf (oFld [2] "names" (oN 0))))]))
  (sSeq (sPutA (pOf (oFld [2] "names" (oN 0))) (pOf (oN 1)) (jO 2 "new_slot" vF (.io 0) []))
  (vO (eMu1 (pOf (oFld [2] "steps" (oN 0))) (owS (svTup [(oV (oIx (oFld [2] "names" (oN 0)) (oN 1))),(oV (oN 3))])) apF))))
noncomputable def xM:SS:=(vO (jO 2 "open_let" jQ (.io 0) [(.v (oV (oIx (oN 1) (oC (.int 2))))),(.v (oV (oIx (oN 1) (oC (.int 3)))))]))
noncomputable def zT:Fn:=fnS 2 3 (sSeq (sSet 2 (owS (oV (oIx (oN 1) (oC (.int 0))))))
  (sIf (asB (o2 eqD (oN 2) (oC (.str "def")))) (sPutA (pOf (oFld [2] "helpers" (oN 0))) (pOf (oIx (oN 1) (oC (.int 1)))) (owS (oV (oN 1)))) (sIf (asB (o2 eqD (oN 2) (oC (.str "let")))) (vO (jO 2 "open_let" jQ (.io 0) [(.v (oV (oIx (oN 1) (oC (.int 1))))),(.v (oV (oIx (oN 1) (oC (.int 2)))))])) (sIf (asB (o2 eqD (oN 2) (oC (.str "again")))) (sFor (iL rg1 [(oV (oIx (oN 1) (oC (.int 1))))]) (gN 3) xM) (sIf (asB (o2 eqD (oN 2) (oC (.str "see")))) (vO (eMu1 (pOf (oFld [2] "steps" (oN 0))) (owS (svTup [(oV (o1 negD (oC (.int 1)))),(fzS (qWu 2 "open_term" (F_Opener_open_term 30) (.io 0) [(.v (oV (oIx (oN 1) (oC (.int 1))))),(.b (pOf (oFld [2] "names" (oN 0))))]))])) apF)) (sSeq (sSet 4 (qWu 2 "open_term" (F_Opener_open_term 30) (.io 0) [(.v (oV (oIx (oN 1) (oC (.int 1))))),(.b (pOf (oFld [2] "names" (oN 0))))]))
  (vO (eMu1 (pOf (oFld [2] "steps" (oN 0))) (owS (svTup [(fzS (jO 2 "new_slot" vF (.io 0) [])),(oV (oN 4))])) apF))))))))
noncomputable def qYv:SS:=(vO (jO 2 "open_row" zT (.io 1) [(.v (oV (oN 2)))]))
noncomputable def qVz:Fn:=fnS 1 2 (sSeq (vO (qN xP [(.v (oV (oN 0)))]))
  (sSeq (vO (qN xR [(.v (oV (oN 0)))]))
  (sSeq (sSet 1 (qWv 2 yU []))
  (sSeq (sFor (iV (oV (oN 0))) (gN 2) qYv)
  (sRet (qWv 1 yB [(.v (oV (oFld [2] "steps" (oN 1)))),(.v (oV (oFld [2] "draws" (oN 1)))),(.v (oV (oFld [2] "slots" (oN 1))))]))))))
noncomputable def wI(F_slots_read_h:Fn):SS:=(vO (eMu1 (pOf (oN 2)) (qN F_slots_read_h [(.v (oV (oN 3)))]) exF))
noncomputable def F_slots_read:Nat->Fn
 | 0=>fun _=>.no
 | h + 1=>fnS 1 3 (sSeq (sSet 1 (owS (oV (oIx (oN 0) (oC (.int 0))))))
   (sSeq (sIf (asB (o2 eqD (oN 1) (oC (.str "slot")))) (sRet (eLst [(oV (oIx (oN 0) (oC (.int 1))))])) sNil)
   (sSeq (sIf (asB (o2 eqD (oN 1) (oC (.str "bind")))) (sRet (eCat (.v (fzS (qN (F_slots_read h) [(.v (oV (oIx (oN 0) (oC (.int 2)))))]))) (.v (fzS (compS 2 [(1,0)] [0] (iV (fzS (qN (F_slots_read h) [(.v (oV (oIx (oN 0) (oC (.int 3)))))]))) (gN 0) (asB (o2 neF (oN 0) (oIx (oN 1) (oC (.int 1))))) (oV (oN 0))))))) sNil)
   (sSeq (sSet 2 (eLst []))
   (sSeq (sFor (iV (fzS (qN qI [(.v (oV (oN 0)))]))) (gN 3) (wI (F_slots_read h)))
   (sRet (eMv 2)))))))
noncomputable def qZq:SS:=(sSeq (vO (eMu1 (pOf (oN 2)) (eF sortSD [(.v (fzS (compS 2 [(1,1)] [0] (iV (fzS (qN (F_slots_read 60) [(.v (oV (oIx (oN 4) (oC (.int 1)))))]))) (gN 0) bTrue (oV (oIx (oN 1) (oN 0))))))]) apF))
  (sIf (asB (o2 neF (oIx (oN 4) (oC (.int 0))) (o1 negD (oC (.int 1))))) (sPutA (pOf (oN 1)) (pOf (oIx (oN 4) (oC (.int 0)))) (owS (oV (oN 3)))) sNil))
noncomputable def qQy:Fn:=fnS 1 4 (sSeq (sSet 1 eDct0)
  (sSeq (sSet 2 (eLst []))
  (sSeq (sFor (iL enL [(oV (oFld [1] "steps" (oN 0)))]) (gT 2 (gCn (gN 3) (gCn (gN 4) gNl))) qZq)
  (sRet (eMv 2)))))
end FP
namespace DX
open PySem L2 PyProof.Rows
noncomputable def rClear:V->List V->Hp->VK->Prop:=fun x vs H Q=>∃l xs,x=.ref l/\vs=[]/\H l=some (.lst xs)/\Q .non (upd H l (.lst []))
section
variable{X:Cx}{c:Nat->aZ}{E:XK}{o:Expr}{s:SP}{apos cpos:Pos}
theorem zV3:MtM X "list.clear" rClear:=by
 intro pins s σ H x vs v us Q I rx rv h;obtain⟨l,xs,rfl,rfl,hH,q⟩:=h;cases rx;have hus:=rv.zero;subst hus;obtain⟨z,its,n,r,hl,e⟩:=I.lstM hH;refine call_meets F.slot_list_clear ⟨_,e,rfl⟩ F.entry_list_clear (F.args_list_clear_1 _) (PySem.AutoSeq1.list_clear_list_0 l its.toArray n (by rw[aH];omega)) ⟨e,?_⟩;exact⟨.non,_,I.lset (its' :=[]) hH e rfl .nil (by decide),rfl,q⟩
noncomputable def zQw(s:SP):SE:=fun env=>(opt (s env)).bind fun h=>match h with
 |.p i π=>(opt (qZs env i π)).bind fun _=>.ok (.fz .non,setE env i π (.ow .lst []))
 |_=>.no
theorem zZr(ho:OD X c E o (.p s))(hbase:attributeBase o "clear" X.env (eval o X.env)=eval o X.env:=by rfl)(hline:(apos.endLine == cpos.line)=true:=by rfl):ED X c E (.Call (.Attribute o "clear" apos) [] [] cpos) (zQw s):=by
 refine⟨PE.imp (zY7 PySem.F.plainAttrs_list PySem.F.slot_list_clear PySem.F.type_list_clear zV3 ho.h hbase hline) fun σ H Q h=>?_⟩;obtain⟨env,B,W,cf,w⟩:=h;obtain⟨h1,e0,w1⟩:=qU w;refine⟨env,B,W,h1,cf,e0,fun u hu=>?_⟩;cases h1 with
 |d x=>exact w1.elim
 | p i π=>
   obtain⟨os,e1,w3⟩:=qU w1;have hu' :vZ H σ i π=some u:=hu;have cf0:Cf X.K c env σ H (hd2 B fun _=>0) W:=cf.cast (fun _=>rfl) fun _=>rfl
   obtain⟨p,vs,Zk,k1,k2,k3,k4⟩:=cf0.mut (qZo e1);rw[hu']at k1;cases k1;refine⟨.inl ⟨rfl,vs,SqL.of k2⟩,p,vs,rfl,rfl,k2,?_⟩;obtain⟨W',c1,c2,c3⟩:=k4 .lst [] [] (fun _=>0) (fun _=>0) (.lst []) (OsAt.nil.mpr ⟨rfl,fun _=>rfl⟩) (fun a=>bO _) upd_same trivial (by have k2' :H p=some (.lst vs):=k2;rw[k2'];trivial);exact w3 .non _ W' (fun _=>0) ⟨c2.cast (fun _=>rfl) (fun _=>rfl) fun _=>rfl,c1,c3 _ _ (OAt.fz.mpr ⟨.non,fun _=>rfl⟩)⟩
end
end DX
namespace LWF
open PySem L2 DX FP PyProof.Rows
noncomputable def qZa:Fn:=fnS 1 0 (sSeq (sIf (asB (o2 eqD (oIx (oN 0) (oC (.int 0))) (oC (.str "op")))) (sRet (eLst [(oV (oIx (oN 0) (oC (.int 2)))),(oV (oIx (oN 0) (oC (.int 3))))])) sNil)
  (sSeq (sIf (asB (o2 eqD (oIx (oN 0) (oC (.int 0))) (oC (.str "if")))) (sRet (eLst [(oV (oIx (oN 0) (oC (.int 1)))),(oV (oIx (oN 0) (oC (.int 2)))),(oV (oIx (oN 0) (oC (.int 3))))])) sNil)
  (sSeq (sIf (bOr (asB (o2 eqD (oIx (oN 0) (oC (.int 0))) (oC (.str "rest")))) (asB (o2 eqD (oIx (oN 0) (oC (.int 0))) (oC (.str "field"))))) (sRet (eLst [(oV (oIx (oN 0) (oC (.int 1))))])) sNil)
  (sSeq (sIf (asB (o2 eqD (oIx (oN 0) (oC (.int 0))) (oC (.str "record")))) (sRet (compS 1 [] [0] (iV (oV (oIx (oN 0) (oC (.int 1))))) (gN 0) bTrue (oV (oIx (oN 0) (oC (.int 1)))))) sNil)
  (sSeq (sIf (asB (o2 eqD (oIx (oN 0) (oC (.int 0))) (oC (.str "call")))) (sRet (eF listD [(oIx (oN 0) (oC (.int 2)))])) sNil)
  (sRet (eLst [])))))))
noncomputable def wK:Nat->Fn
 | 0=>fun _=>.no
 | h + 1=>fnS 1 0 (sSeq (sIf (bOr (asB (o2 eqD (oIx (oN 0) (oC (.int 0))) (oC (.str "flip")))) (asB (o2 eqD (oIx (oN 0) (oC (.int 0))) (oC (.str "pick"))))) (sRet (owS (oV (oC (.int 1))))) sNil)
   (sRet (owS (oV (oL sumD [(.v (fzS (compS 1 [] [0] (iV (fzS (qN qZa [(.v (oV (oN 0)))]))) (gN 0) bTrue (fzS (qN (wK h) [(.v (oV (oN 0)))])))))])))))
noncomputable def yN:Fn:=fnS 2 2 (sSeq (sIf (bNot (asB (oN 1))) (sRet (owS (svTup [(oV (oC (.str "num"))),(oV (oMod (oN 0) (oC (.int 5))))]))) sNil)
  (sSeq (sIf (asB (o2 eqD (oMod (oN 0) (oC (.int 3))) (oC (.int 0)))) (sSeq (sSet 2 (compS 2 [(1,0)] [0] (iL rg1 [(oV (oAdd (oC (.int 1)) (oMod (oDiv (oN 0) (oC (.int 3))) (oC (.int 2)))))]) (gN 0) bTrue (svTup [(oV (oAdd (oMod (oDiv (oN 1) (oC (.int 3))) (oC (.int 4))) (oMul (oC (.int 5)) (oN 0)))),(oV (oAdd (oC (.int 1)) (oMod (oDiv (oN 1) (oAdd (oN 0) (oC (.int 4)))) (oC (.int 999)))))])))
  (sRet (owS (svTup [(oV (oC (.str "pick"))),(svA tupleD [(oN 2)])])))) sNil)
  (sSeq (sSet 3 (owS (oV (oAdd (oC (.int 1)) (oMod (oDiv (oN 0) (oC (.int 3))) (oC (.int 7)))))))
  (sRet (owS (svTup [(oV (oC (.str "flip"))),(oV (oN 3)),(oV (oAdd (oAdd (oN 3) (oC (.int 1))) (oMod (oDiv (oN 0) (oC (.int 21))) (oC (.int 9)))))]))))))
noncomputable def xJ:Fn:=fnS 4 5 (sSeq (sSet 4 (owS (oV (oMod (oN 0) (oC (.int 8))))))
  (sSeq (sSet 5 (owS (oV (oDiv (oN 0) (oC (.int 8))))))
  (sSeq (sSet 6 (qN yN [(.v (oV (oDiv (oN 5) (oC (.int 56))))),(.v (oV (oN 2)))]))
  (sSeq (sIf (asB (o2 eqD (oN 1) (.v (fzS (eLst []))))) (sRet (eMv 6)) sNil)
  (sSeq (sSet 7 (owS (svTup [(oV (oC (.str "name"))),(oV (oIx (oN 1) (oMod (oN 5) (oL lenD [(oN 1)]))))])))
  (sSeq (sSet 8 (owS (svTup [(oV (oC (.str "name"))),(oV (oIx (oN 1) (oMod (oDiv (oN 5) (oC (.int 7))) (oL lenD [(oN 1)]))))])))
  (sSeq (sIf (asB (o2 eqD (oN 4) (oC (.int 1)))) (sRet (owS (svTup [(oV (oC (.str "op"))),(oV (oC (.str "+"))),(oV (oN 7)),(oV (oN 6))]))) sNil)
  (sSeq (sIf (asB (o2 eqD (oN 4) (oC (.int 2)))) (sRet (owS (svTup [(oV (oC (.str "if"))),(oV (oN 7)),(oV (oN 6)),(oV (oN 8))]))) sNil)
  (sSeq (sIf (asB (o2 eqD (oN 4) (oC (.int 3)))) (sRet (owS (svTup [(oV (oC (.str "op"))),(oV (oIx (oC (.str "*=<-")) (oMod (oDiv (oN 5) (oC (.int 56))) (oC (.int 4))))),(oV (oN 7)),(oV (oN 8))]))) sNil)
  (sSeq (sIf (asB (o2 eqD (oN 4) (oC (.int 4)))) (sRet (owS (svTup [(oV (oC (.str "rest"))),(svTup [(oV (oC (.str "op"))),(oV (oC (.str "+"))),(oV (oN 7)),(svTup [(oV (oC (.str "num"))),(oV (oMod (oN 5) (oC (.int 7))))])]),(oV (oAdd (oC (.int 2)) (oMod (oN 5) (oC (.int 3)))))]))) sNil)
  (sSeq (sIf (asB (o2 eqD (oN 4) (oC (.int 5)))) (sRet (owS (svTup [(oV (oC (.str "field"))),(svTup [(oV (oC (.str "record"))),(svTup [(svTup [(oV (oC (.str "q"))),(oV (oN 7))]),(svTup [(oV (oC (.str "p"))),(oV (oN 6))])])]),(oV (oIx (oC (.str "pqr")) (oMod (oDiv (oN 5) (oC (.int 56))) (oC (.int 3)))))]))) sNil)
  (sSeq (sIf (bAnd (asB (o2 eqD (oN 4) (oC (.int 6)))) (bAnd (asB (oN 3)) (asB (o2 eqD (oMod (oDiv (oN 5) (oC (.int 56))) (oC (.int 2))) (oC (.int 1)))))) (sRet (owS (svTup [(oV (oC (.str "call"))),(oV (oC (.str "g"))),(svTup [(oV (oN 7))])]))) sNil)
  (sSeq (sIf (asB (o2 eqD (oN 4) (oC (.int 6)))) (sRet (owS (svTup [(oV (oC (.str "call"))),(oV (oC (.str "f"))),(svTup [(oV (oN 7)),(oV (oN 6))])]))) sNil)
  (sRet (eMv 6)))))))))))))))
noncomputable def xS:SS:=(sSeq (sSet 7 (owS (oV (oMod (oMul (oAdd (oAdd (oMod (oN 6) (oPow (oC (.int 10)) (oC (.int 15)))) (oMul (oMul (oC (.int 104729)) (oN 5)) (oN 5))) (oC (.int 11))) (oC (.int 48271))) (oC (.int 2147483647))))))
  (sSeq (sSet 8 (owS (oV (o2 addS (oIx (oC (.str "abcdefgh")) (oMod (oDiv (oN 7) (oC (.int 8))) (oC (.int 8)))) (oN 2)))))
  (sSeq (sSet 9 (owS (oV (oC (.int 1)))))
  (sSeq (sIf (bAnd (asB (o2 eqD (oMod (oN 7) (oC (.int 8))) (oC (.int 1)))) (bAnd (asB (oLt (oN 5) (oC (.int 13)))) (asB (o2 inD (oN 8) (oN 4))))) (sSet 9 (owS (oV (oMod (oDiv (oN 7) (oC (.int 64))) (oC (.int 4)))))) sNil)
  (sSeq (sSet 10 (qN xJ [(.v (oV (oDiv (oN 7) (oC (.int 256))))),(.v (oV (oN 4))),(.v (oV (oLe (oN 9) (oN 1)))),(.v (oV (oAnd (oLt (oN 5) (oC (.int 13))) (o2 eqD (oN 9) (oC (.int 1))))))]))
  (sSeq (sSet 1 (owS (oV (oSub (oN 1) (oMul (oN 9) (.v (fzS (qN (wK 30) [(.v (oV (oN 10)))]))))))))
  (sIf (asB (o2 eqD (oMod (oN 7) (oC (.int 8))) (oC (.int 0)))) (vO (eMu1 (pOf (oN 3)) (owS (svTup [(oV (oC (.str "see"))),(oV (oN 10))])) apF)) (sIf (bAnd (asB (o2 eqD (oMod (oN 7) (oC (.int 8))) (oC (.int 1)))) (asB (o2 inD (oN 8) (oN 4)))) (vO (eMu1 (pOf (oN 3)) (owS (svTup [(oV (oC (.str "again"))),(oV (oN 9)),(oV (oN 8)),(oV (oN 10))])) apF)) (sSeq (vO (eMu1 (pOf (oN 3)) (owS (svTup [(oV (oC (.str "let"))),(oV (oN 8)),(oV (oN 10))])) apF))
  (sSet 4 (eCat (.v (fzS (compS 2 [(1,8)] [0] (iV (oV (oN 4))) (gN 0) (asB (o2 neF (oN 0) (oN 1))) (oV (oN 0))))) (.v (fzS (eLst [(oV (oN 8))]))))))))))))))
noncomputable def qQ3:Fn:=fnS 3 8 (sSeq (sSet 3 (eLst []))
  (sSeq (sSet 4 (eLst []))
  (sSeq (sFor (iL enL [(oV (oN 0))]) (gT 2 (gCn (gN 5) (gCn (gN 6) gNl))) xS)
  (sRet (eCat (oN 3) (.v (fzS (eLst [(svTup [(oV (oC (.str "ask"))),(fzS (qN xJ [(.v (oV (oAdd (oMul (oL lenD [(oN 0)]) (oC (.int 48271))) (oC (.int 3))))),(.v (oV (oN 4))),(.v (oV (oGt (oN 1) (oC (.int 0))))),(.v (oV (oC (.bl false))))]))])]))))))))
noncomputable def xK:Fn:=fnS 0 2 (sSeq (sSet 0 (owS (svTup [(oV (oC (.str "op"))),(oV (oC (.str "+"))),(svTup [(oV (oC (.str "name"))),(oV (oC (.str "y")))]),(svTup [(oV (oC (.str "name"))),(oV (oC (.str "y")))])])))
  (sSeq (sSet 1 (owS (svTup [(oV (oC (.str "call"))),(oV (oC (.str "f"))),(svTup [(svTup [(oV (oC (.str "name"))),(oV (oC (.str "x")))]),(svTup [(oV (oC (.str "name"))),(oV (oC (.str "x")))])])])))
  (sRet (eLst [(svTup [(oV (oC (.str "def"))),(oV (oC (.str "f"))),(svTup [(oV (oC (.str "x"))),(oV (oC (.str "y")))]),(oV (oN 0))]),(svTup [(oV (oC (.str "def"))),(oV (oC (.str "g"))),(svTup [(oV (oC (.str "x")))]),(svTup [(oV (oC (.str "call"))),(oV (oC (.str "f"))),(svTup [(svTup [(oV (oC (.str "name"))),(oV (oC (.str "x")))]),(oV (oN 1))])])])]))))
noncomputable def j3:Fn:=fnS 2 0 (sRet (eCat (.v (fzS (qN xK []))) (.v (fzS (qN qQ3 [(.v (oV (oN 0))),(.v (oV (oN 1))),(.v (oV (oC (.str ""))))])))))
noncomputable def qKa(F_law_names_h:Fn):SS:=(sSet 1 (eCat (oN 1) (.v (fzS (qN F_law_names_h [(.v (oV (oN 2)))])))))
noncomputable def jK:Nat->Fn
 | 0=>fun _=>.no
 | h + 1=>fnS 1 2 (sSeq (sIf (asB (o2 eqD (oIx (oN 0) (oC (.int 0))) (oC (.str "name")))) (sRet (eLst [(oV (oIx (oN 0) (oC (.int 1))))])) sNil)
   (sSeq (sSet 1 (eLst []))
   (sSeq (sFor (iV (fzS (qN qZa [(.v (oV (oN 0)))]))) (gN 2) (qKa (jK h)))
   (sRet (eMv 1)))))
noncomputable def qQe:SS:=(sSeq (vO (eMu1 (pOf (oN 2)) (eF sortSD [(.v (fzS (compS 2 [(1,1)] [0] (iV (fzS (qN (jK 30) [(.v (oV (oIx (oN 3) (o1 negD (oC (.int 1))))))]))) (gN 0) bTrue (oV (oIx (oN 1) (oN 0))))))]) apF))
  (sIf (bOr (asB (o2 eqD (oIx (oN 3) (oC (.int 0))) (oC (.str "let")))) (asB (o2 eqD (oIx (oN 3) (oC (.int 0))) (oC (.str "again"))))) (sPutA (pOf (oN 1)) (pOf (oIx (oN 3) (o1 negD (oC (.int 2))))) (owS (oV (oSub (oL lenD [(oN 2)]) (oC (.int 1)))))) sNil))
noncomputable def zP:SS:=(sSeq (sSet 4 (owS (oV (oL intD [(o2 neF (oIx (oN 3) (oC (.int 0))) (oC (.str "def")))]))))
  (sSeq (sIf (asB (o2 eqD (oIx (oN 3) (oC (.int 0))) (oC (.str "again")))) (sSet 4 (owS (oV (oIx (oN 3) (oC (.int 1)))))) sNil)
  (sFor (iL rg1 [(oV (oN 4))]) (gN 5) qQe)))
noncomputable def yM:Fn:=fnS 1 5 (sSeq (sSet 1 eDct0)
  (sSeq (sSet 2 (eLst []))
  (sSeq (sFor (iV (oV (oN 0))) (gN 3) zP)
  (sRet (eMv 2)))))
noncomputable def wG:SS:=(sSeq (sIf (bOr (asB (o2 eqD (oIx (oN 3) (oC (.int 0))) (oC (.str "see")))) (asB (o2 eqD (oIx (oN 3) (oC (.int 0))) (oC (.str "ask"))))) (vO (eMu1 (pOf (oN 2)) (owS (oV (oN 1))) apF)) sNil)
  (sIf (asB (o2 eqD (oIx (oN 3) (oC (.int 0))) (oC (.str "again")))) (sSet 1 (owS (oV (oAdd (oN 1) (oIx (oN 3) (oC (.int 1))))))) (sIf (asB (o2 neF (oIx (oN 3) (oC (.int 0))) (oC (.str "def")))) (sSet 1 (owS (oV (oAdd (oN 1) (oC (.int 1)))))) sNil)))
noncomputable def vJ1:Fn:=fnS 1 3 (sSeq (sSet 1 (owS (oV (oC (.int 0)))))
  (sSeq (sSet 2 (eLst []))
  (sSeq (sFor (iV (oV (oN 0))) (gN 3) wG)
  (sRet (eMv 2)))))
noncomputable def yL:Fn:=fnS 1 0 (sRet (owS (oV (oAnd (o1 (isiD "int") (oN 0)) (oNot (o1 (isiD "bool") (oN 0)))))))
end LWF
namespace DX
open PySem L2 PyProof.Rows
variable{o':O}
noncomputable def apK(k:Int):O->Option O
 |.ow .lst l=>cond (decide (l.length<=lim)) (some (.ow .lst (l ++ [.fz (.int k)]))) none
 |_=>none
noncomputable def apKs(k:Int):List O->Option (List O)
 |[]=>some []
 |o::os=>(apK k o).bind fun a=>(apKs k os).bind fun b=>some (a::b)
noncomputable def sApp(i j:Nat)(k:Int):SS:=fun env=>match env[i]? with
 |some (.s io (.ow .lst os))=>(opt (apKs k os)).bind fun os' =>cond (decide (i≠j) && decide (j<env.length)) (.ok (.nx ((env.set j .un).set i (.s io (.ow .lst os'))))) .no
 |_=>.no
section
variable{K:aQ}{c:Nat->aZ}{E:XK}{env:Ev}{σ:L2.St}{H:Hp}{B W:Fp}{i j:Nat}{k:Int}
theorem Cf.forget(h:Cf K c env σ H B W)(hj:j<env.length)(y:Option V):∃W',Cf K c (env.set j .un) (σ.set j y) H B W' /\Step env σ H B W (env.set j .un) (σ.set j y) H W' :=by
 obtain⟨x,Z1,R,h1,h2,h3,h4⟩:=h.focus (aF hj);have sm:Same (hide (hd2 B W) H) (hide (hd2 B R) H):=v7 fun a z=>by dsimp only[hd2]at *;rw[h3]at z;omega
 refine⟨R,h4 H B R .un y (fun _=>0) sm (fun a=>by(try dsimp only);omega) (fun _ _=>rfl) (fun _=>rfl) (fun a=>by have:=h.nd a;rw[h3]at this;omega) h.hb,sm,fun _ _=>rfl,fun a z=>.inl (by rw[h3];omega),fun _ z=>z,fun _ _ _=>.refl,fun n o q=>?_,cQ⟩;by_cases e:j=n
 ·subst e;rw[cM hj]at q;cases q
 ·rw [bK e] at q⊢;exact⟨⟨o,q⟩,rfl⟩
theorem jQk{o:O}(h:apK k o=some o'):∃l,o=.ow .lst l/\l.length<=lim/\o' =.ow .lst (l ++ [.fz (.int k)]):=by
 unfold apK at h;split at h
 ·obtain⟨a,b⟩:=zZ h;exact⟨_,rfl,of_decide_eq_true a,(Option.some.inj b).symm⟩
 ·cases h
theorem app_turn{io:Bool}{p:aZ}{done rs:List O}{o:O}{x:V}{Q:VK}(ij:i≠j)(cf:Cf K c env σ H B W)(ho:apK k o=some o')(he:env[i]?=some (.s io (.ow .lst (done ++ o::rs))))(hu:env[j]?=some .un)(hs:σ[i]?=some (some (.ref p)))(hx:∀xs,SqL K H p xs->xs[done.length]?=some x)(q:∀H' W',Cf K c (env.set i (.s io (.ow .lst (done ++ o' ::rs)))) (σ.set j (some x)) H' B W' ->Step env σ H B W (env.set i (.s io (.ow .lst (done ++ o' ::rs)))) (σ.set j (some x)) H' W' ->Q .non H'):tyV K "list" x H/\rAppend x [.int k] H Q:=by
 obtain⟨l,rfl,hl,rfl⟩:=jQk ho;have hj:=(aL.mp hu).1;obtain⟨W2,cf2,st2⟩:=cf.forget hj (some x);rw[jX hu]at cf2 st2;have g0:getE env i []=some (.ow .lst (done ++ .ow .lst l::rs)):=by unfold getE;rw[he];rfl
 have g1:getE env i [done.length]=some (.ow .lst l):=by
  unfold getE;rw[he];simp[getP]
 obtain⟨v1,Z1,R,a1,a2,_,_⟩:=cf2.place g0;have hs2:(σ.set j (some x))[i]?=some (some (.ref p)):=by rw[bK (Ne.symm ij)];exact hs
 have a1' :some (V.ref p)=some v1:=by rw[←a1];unfold vZ;rw[hs2];rfl
 cases a1';rw[OAt.ow]at a2;obtain⟨p1,vs,Z',e1,b,_,_⟩:=a2;cases e1;have hv:=hx vs (SqL.of b);have cf0:Cf K c env (σ.set j (some x)) H (hd2 B fun _=>0) W2:=cf2.cast (fun _=>rfl) fun _=>rfl
 obtain⟨p',ws,Zk,k1,k2,k3,k4⟩:=cf0.mut g1;have hw:some x=some (V.ref p'):=by
  rw[←k1];unfold vZ;rw[hs2];exact(qZj (π:=[]) (o:=.lst vs) b hv).symm
 cases hw;obtain⟨W',c1,c2,_⟩:=k4 .lst (l ++ [.fz (.int k)]) (ws ++ [V.int k]) (fun a=>Zk a+0) (fun _=>0) (.lst (ws ++ [V.int k])) (k3.append (OsAt.one.mpr (OAt.fz.mpr ⟨.int k,fun _=>rfl⟩))) (fun a=>aB _) upd_same trivial (by have k2' :H p' =some (.lst ws):=k2;rw[k2'];trivial);have es:setE env i [done.length] (.ow .lst (l ++ [.fz (.int k)]))=env.set i (.s io (.ow .lst (done ++ .ow .lst (l ++ [.fz (.int k)])::rs))):=by
  unfold setE;rw[he];simp[setP]
 rw[es]at c1 c2;exact⟨.inl ⟨rfl,ws,SqL.of k2⟩,p',ws,.int k,rfl,rfl,k2,by rw[k3.length];exact qJ9 hl,q _ W' c1 (st2.trans (c2.cast (fun _=>rfl) (fun _=>rfl) fun _=>rfl))⟩
theorem zZ9{D:Ends}(h:tS K c E (sApp i j k) D σ H):tFor (zX2 K (tVar i)) (vVr j) (zXk (tBM K "list" rAppend (tVar j) (qKe (tC (.int k)) tNil))) D σ H:=by
 obtain⟨env,B,W,cf,w⟩:=h;unfold sApp at w;split at w
 ·rename_i io os he;obtain⟨os',hm,w1⟩:=qU w;obtain⟨hc,w2⟩:=vL w1;have hc2:=(aD _ _).mp hc;have ij:=of_decide_eq_true hc2.1;have hj:=of_decide_eq_true hc2.2;obtain⟨v,Z1,R,h1,h2,_,_⟩:=cf.focus he;cases v with
  |none=>exact h2.elim
  | some v=>
    have h3:OAt K c (hide (hd2 B W) H) H (.ow .lst os) v Z1:=h2;rw[OAt.ow]at h3;obtain⟨p,vs,Z',rfl,b,_,_⟩:=h3;refine⟨.ref p,h1,p,rfl,⟨vs,SqL.of b⟩,fun n m σ' H' =>∃done rest rest' W',n=done.length/\m=rest.length/\apKs k rest=some rest' /\done ++ rest' =os' /\σ'[i]?=some (some (.ref p))/\Cf K c ((env.set j .un).set i (.s io (.ow .lst (done ++ rest)))) σ' H' B W' /\Step env σ H B W ((env.set j .un).set i (.s io (.ow .lst (done ++ rest)))) σ' H' W',?_,?_⟩
    ·obtain⟨x,hx⟩:∃x,σ[j]?=some x:=⟨_,aF (by rw [←cf.at_.len];exact hj)⟩
     obtain⟨W',c1,c2⟩:=cf.forget hj x;rw[jX hx]at c1 c2;have e2:(env.set j .un).set i (.s io (.ow .lst ([] ++ os)))=env.set j .un :=jX (by rw[bK (Ne.symm ij)];exact he);exact⟨os.length,[],os,os',W',rfl,rfl,hm,rfl,h1,by rw[e2];exact c1,by rw[e2];exact c2⟩
    ·rintro n m σ' H' ⟨done,rest,rest',W',rfl,rfl,hr,hd,hs,c1,c2⟩;have hi2:i<(env.set j .un).length :=by rw[cQ];exact(aL.mp he).1
     have hi3:((env.set j .un).set i (.s io (.ow .lst (done ++ rest))))[i]?=some (.s io (.ow .lst (done ++ rest))):=cM hi2;have g0:getE ((env.set j .un).set i (.s io (.ow .lst (done ++ rest)))) i []=some (.ow .lst (done ++ rest)):=by unfold getE;rw[hi3];rfl
     obtain⟨v1,Z1,R,a1,a2,_,_⟩:=c1.place g0;have a1' :some (V.ref p)=some v1:=by rw[←a1];unfold vZ;rw[hs];rfl
     cases a1';rw[OAt.ow]at a2;obtain⟨p1,vs,Z',e1,b,b2,_⟩:=a2;cases e1;have len:=b2.length;cases rest with
     | nil=>
       cases hr;rw[bL]at hd len;subst hd;refine .inl ⟨⟨vs,SqL.of b,by omega⟩,w2 σ' H' W' ?_ ?_⟩
       ·rw[bL]at c2;exact c2
       ·rw[bL]at c1;exact c1
     | cons o rs=>
       obtain⟨o',h5,hr⟩:=dE.mp hr;obtain⟨rs',h6,hr⟩:=dE.mp hr;cases hr;have hlt:done.length<vs.length:=by rw[len];simp
       refine .inr ⟨⟨vs,_,SqL.of b,aF hlt⟩,_,fun σ2 H2 q=>q,?_⟩;rintro x H2 ⟨rfl,hx⟩;refine⟨x,cM (by rw[←c1.at_.len,cQ,cQ];exact hj),?_⟩;have hu:((env.set j .un).set i (.s io (.ow .lst (done ++ o::rs))))[j]?=some .un :=by rw[bK ij,cM hj]
       obtain⟨t1,t2⟩:=app_turn (Q:=fun _ H3=>∃m',m'<(o::rs).length /\∃done' rest rest' W',done.length+1=done'.length/\m' =rest.length/\apKs k rest=some rest' /\done' ++ rest' =os' /\(σ'.set j (some x))[i]?=some (some (.ref p))/\Cf K c ((env.set j .un).set i (.s io (.ow .lst (done' ++ rest)))) (σ'.set j (some x)) H3 B W' /\Step env σ H B W ((env.set j .un).set i (.s io (.ow .lst (done' ++ rest)))) (σ'.set j (some x)) H3 W') ij c1 h5 hi3 hu hs hx (fun H' W' d1 d2=>by
        rw[List.set_set]at d1 d2;have e3:done ++ o' ::rs=(done ++ [o']) ++ rs:=by simp
        rw[e3]at d1 d2;exact⟨rs.length,Nat.lt_succ_self _,done ++ [o'],rs,rs',W',by simp,rfl,h6,by rw[←hd];simp,by rw[bK (Ne.symm ij)];exact hs,d1,c2.trans d2⟩)
       exact⟨t1,t2⟩
 ·exact w.elim
end
section
variable{X:Cx}{c:Nat->aZ}{E:XK}{x y:Str}{i j:Nat}{pos p1 p2 p3 p4 p5 p6 p7 p8:Pos}{j1:Nat}{k:Int}
theorem zJ5:PE X (.UnaryOp .USub (.Constant (.int k) j1 p7) p8) (tC (.int (-k))):=PE.imp (zXp vKz zQg) fun _ _ _ h=>⟨k,rfl,h⟩
theorem vX4(hp:PassesOwn (model X.prog X.w) X.A X.env X.xe)(hc:X.calm=true)(hN:X.N.Nodup)(hy:X.N[j]?=some y)(ly:Loc X.env.scope y)(px:PE X (.Name x p4) (tVar i))(py:PE X (.Name y p1) (tVar j))(hf:X.fn y=true\/X.env.scope.names.lookup y=some .local :=by first|exact .inl rfl|exact .inr rfl|assumption)(hbase:attributeBase (.Name y p1) "append" X.env (eval (.Name y p1) X.env)=eval (.Name y p1) X.env:=by rfl)(hline:(p2.endLine == p3.line)=true:=by rfl)(hs:∀v,foldedSetIterable (.Name x p4) X.env v=pure v:=by intro _;rfl)(hw:swapsWith (.Call (.Attribute (.Name y p1) "append" p2) [.UnaryOp .USub (.Constant (.int k) j1 p7) p8] [] p3) none p5.line X.env=pure false:=by rfl):
  SD X c E (.For (.Name y p6) (.Name x p4) [.Expr (.Call (.Attribute (.Name y p1) "append" p2) [.UnaryOp .USub (.Constant (.int k) j1 p7) p8] [] p3) p5] [] pos) (sApp i j (-k)):=
 ⟨PS.imp (zQd hp hc (zJ2 px) (vWy hN hy ly hf) (vWw (vWx (vKs PySem.F.plainAttrs_list PySem.F.slot_list_append PySem.F.type_list_append qWl py (yH zJ5 qZ7) hbase rfl hline) hw)) hs) fun _ _ _ h=>zZ9 h⟩
end
end DX
namespace X50
open PySem L2 DX FP LWF PyProof.Rows
noncomputable def qZ1:SS:=(sIf (bNot (asB (.v (fzS (qN yL [(.v (oV (oN 4)))]))))) (sRet (owS (oV (oC (.bl false))))) sNil)
noncomputable def qZ0:SS:=(sSeq (sIf (bOr (bNot (asB (o1 (isiD "list") (oN 2)))) (asB (o2 neD (oN 2) (oN 3)))) (sRet (owS (oV (oC (.bl false))))) sNil)
  (sFor (iV (oV (oN 2))) (gN 4) qZ1))
noncomputable def wY:Fn:=fnS 2 3 (sSeq (sIf (bOr (bNot (asB (o1 (isiD "list") (oN 0)))) (asB (o2 neF (oL lenD [(oN 0)]) (oL lenD [(oN 1)])))) (sRet (owS (oV (oC (.bl false))))) sNil)
  (sSeq (sFor (iL zpA [(oV (oN 0)),(oV (oN 1))]) (gT 2 (gCn (gN 2) (gCn (gN 3) gNl))) qZ0)
  (sRet (owS (oV (oC (.bl true)))))))
noncomputable def vKx:Fn:=fnS 1 6 (sSeq (sSet 1 (qN j3 [(.v (fzS (eSlL (oN 0) none (some (oV (oC (.int 37))))))),(.v (oV (oC (.int 50))))]))
  (sSeq (sSet 2 (qN qVz [(.v (oV (oN 1)))]))
  (sSeq (sSet 3 (eF listD [(oFld [1] "steps" (oN 2))]))
  (sSeq (sSet 4 (qN yM [(.v (oV (oN 1)))]))
  (sSeq (sSet 5 (qN qQy [(.v (oV (oN 2)))]))
  (sSeq (sIf (bOr (bNot (asB (.v (fzS (qN wY [(.b (pOf (oN 5))),(.b (pOf (oN 4)))]))))) (asB (o2 neD (oFld [1] "steps" (oN 2)) (oN 3)))) (sRet (owS (oV (oC (.bl false))))) sNil)
  (sSeq (sApp 5 6 (-1))
  (sSeq (vO (zQw (pOf (oN 5))))
  (sRet (qN wY [(.v (fzS (qN qQy [(.v (oV (oN 2)))]))),(.b (pOf (oN 4)))]))))))))))
end X50
namespace DX
open PySem L2 PyProof.Rows
variable{γ:Type}{args env e1 e env':Ev}{it:SI}{g:SG}{h1 h0:Hn}{ss:List SV}{xs vs:List D}{XI:Res (List D×Ev)}{C i j n:Nat}{a0:Am}{as:List Am}{cs:List (Nat×Nat)}{T:List Nat}{el:SV}{XV:Res (D×Ev)}{F:Fn}
section
variable{α β:Type}{X:Res β}{x:Res α}{a:α}{f:α->Res β}
theorem vXr(h:x=.ok a)(k:f a=X):x.bind f=X:=by subst h;exact k
theorem jL{b:Bool}{x y X:γ}(h:b=true)(k:x=X):cond b x y=X:=by subst h;exact k
theorem zQ{b:Bool}{x y X:γ}(h:b=false)(k:y=X):cond b x y=X:=by subst h;exact k
end
section
variable{env e:Ev}{o:O}{d:D}{X:Res Out}{s t s1 s2:SS}{i n m:Nat}{a:SE}{v:SV}{b:ST}{q:Bool}
noncomputable def finO(n:Nat):Out->Res (O×Ev)
 |.nx e=>.ok (.fz .non,outs n e)
 |.rt r e=>.ok (r,outs n e)
 |_=>.no
theorem vW{o:Out}{X:Res (O×Ev)}(h:s (args ++ List.replicate m .un)=.ok o)(k:finO n o=X):fnS n m s args=X:=by
 unfold fnS;rw[h];cases o <;> exact k
theorem qF(k:t env=X):sSeq sNil t env=X:=k
theorem qWg(k:sSeq s1 (sSeq s2 t) env=X):sSeq (sSeq s1 s2) t env=X:=by
 rw[←k];unfold sSeq;cases s1 env with
 |ok o=>cases o <;> rfl
 |er C fs=>rfl
 |no=>rfl
theorem qD(h:b env=.ok (q,e))(k:cond q (sSeq s1 t e) (sSeq s2 t e)=X):sSeq (sIf b s1 s2) t env=X:=by
 unfold sSeq sIf;rw[h];cases q <;> exact k
theorem qZh(h:a env=.ok (o,e))(k: .ok (.rt o e)=X):sSeq (sRet a) t env=X:=by
 unfold sSeq sRet;rw[h];exact k
theorem qJ(h:a env=.ok (o,e))(k:t (e.set i (.s false o))=X):sSeq (sSet i a) t env=X:=by
 unfold sSeq sSet;rw[h];exact k
theorem vT(h:a env=.ok (o,e))(k:t e=X):sSeq (vO a) t env=X:=by
 unfold sSeq vO;rw[h];exact k
theorem jV(h:s env=.ok (.nx e))(k:t e=X):sSeq s t env=X:=by
 unfold sSeq;rw[h];exact k
theorem vR(h:b env=.ok (q,e))(k:cond q (s1 e) (s2 e)=X):sIf b s1 s2 env=X:=by
 unfold sIf;rw[h];exact k
theorem qZ6(h:a env=.ok (o,e))(k: .ok (.rt o e)=X):sRet a env=X:=by
 unfold sRet;rw[h];exact k
theorem qXc(h:a env=.ok (o,e))(k: .ok (.nx (e.set i (.s false o)))=X):sSet i a env=X:=by
 unfold sSet;rw[h];exact k
theorem wB(h:a env=.ok (o,e))(k: .ok (.nx e)=X):vO a env=X:=by
 unfold vO;rw[h];exact k
theorem zO{ds:List D}(h:it env=.ok (ds,e))(k:forS g s ds e=X):sFor it g s env=X:=by
 unfold sFor;rw[h];exact k
end
section
variable{env e e1 e2:Ev}{o:O}{d x y z:D}{a a1 a2:SE}{v v1 v2:SV}{b:ST}{q q1:Bool}{XE:Res (O×Ev)}{XV:Res (D×Ev)}{XB:Res (Bool×Ev)}{oa ob:Oe}
theorem xU(h:v env=.ok (d,e))(k: .ok (.fz d,e)=XE):owS v env=XE:=by
 unfold owS;rw[h];exact k
theorem wV(h:a env=.ok (o,e))(k: .ok (fzO o,e)=XV):fzS a env=XV:=by
 unfold fzS;rw[h];exact k
theorem xG(h:oV oa env=.ok (d,e))(h2:blOf d=some q)(k: .ok (q,e)=XB):asB oa env=XB:=by
 unfold asB;rw[h];show(opt (blOf d)).bind _=_;rw[h2];exact k
theorem yJ{s t:ST}(h:s env=.ok (q,e))(k:cond q (t e) (.ok (false,e))=XB):bAnd s t env=XB:=by
 unfold bAnd;rw[h];exact k
theorem vJ5{s t:ST}(h:s env=.ok (q,e))(k:cond q (.ok (true,e)) (t e)=XB):bOr s t env=XB:=by
 unfold bOr;rw[h];exact k
theorem not_of{s:ST}(h:s env=.ok (q,e))(k: .ok (!q,e)=XB):bNot s env=XB:=by
 unfold bNot;rw[h];exact k
theorem jG{XH:Res (Hn×Ev)}(h:v env=.ok (d,e))(k: .ok (.d d,e)=XH):evO (.v v) env=XH:=by
 show(v env).bind _=_;rw[h];exact k
theorem qQp{os:List Oe}{hs:List Hn}{XH:Res (List Hn×Ev)}(h:evO oa env=.ok (h1,e))(c:(h1.st || os.all Oe.isP)=true)(h2:evOs os e=.ok (hs,e1))(k: .ok (h1::hs,e1)=XH):evOs (oa::os) env=XH:=by
 show(evO oa env).bind _=_;rw[h];show cond (h1.st || os.all Oe.isP) ((evOs os e).bind _) _=_;rw[c,h2];exact k
theorem vZj{XH:Res (List Hn×Ev)}(k: .ok ([],env)=XH):evOs [] env=XH:=k
theorem zM{XH:Res (List D×Ev)}(k: .ok ([],env)=XH):evVs [] env=XH:=k
theorem qR{ds:List D}{XH:Res (List D×Ev)}(h:v env=.ok (d,e))(h2:evVs ss e=.ok (ds,e1))(k: .ok (d::ds,e1)=XH):evVs (v::ss) env=XH:=by
 show(v env).bind _=_;rw[h];show(evVs ss e).bind _=_;rw[h2];exact k
theorem qQr{ds:List D}(h:evVs ss env=.ok (ds,e))(c:decide (ds.length<=1000)=true)(k: .ok (.tup ds,e)=XV):svTup ss env=XV:=by
 unfold svTup;rw[h];show cond (decide (ds.length<=1000)) _ _=_;grind
theorem zQk{ds:List D}(h:evVs ss env=.ok (ds,e))(c:decide (ds.length<=1000)=true)(k: .ok (.ow .lst (ds.map .fz),e)=XE):eLst ss env=XE:=by
 unfold eLst;rw[h];show cond (decide (ds.length<=1000)) _ _=_;grind
theorem vK6{f:D->D->Option D}{h2:Hn}(h:evO oa env=.ok (h1,e))(h' :evO ob e=.ok (h2,e1))(c:(h1.st || ob.isP)=true)(r1:rsv e1 h1=some x)(r2:rsv e1 h2=some y)(r3:f x y=some z)(k: .ok (z,e1)=XV):sv2 f oa ob env=XV:=by
 unfold sv2;rw[h];show(evO ob e).bind _=_;rw[h'];show cond (h1.st || ob.isP) ((opt (rsv e1 h1)).bind _) _=_;rw[c,r1];rw[r2];show(opt (f x y)).bind _=_;rw[r3];exact k
theorem zYc{f:List D->Option D}{os:List Oe}{hs:List Hn}(h:evOs os env=.ok (hs,e))(r1:rsvs e hs=some xs)(r3:f xs=some z)(k: .ok (z,e)=XV):svN f os env=XV:=by
 unfold svN;rw[h];show(opt (rsvs e hs)).bind _=_;rw[r1];show(opt (f xs)).bind _=_;rw[r3];exact k
theorem zYd{f:List D->Option D}{os:List Oe}{hs:List Hn}(h:evOs os env=.ok (hs,e))(r1:qQg hs e=.ok (xs,e1))(r3:f xs=some z)(k: .ok (z,e1)=XV):svA f os env=XV:=by
 unfold svA;rw[h];show(qQg hs e).bind _=_;rw[r1];show(opt (f xs)).bind _=_;rw[r3];exact k
theorem vVt{f:List D->Option (List D)}{os:List Oe}{hs:List Hn}{ds:List D}(h:evOs os env=.ok (hs,e))(r1:qQg hs e=.ok (xs,e1))(r3:f xs=some ds)(k: .ok (.ow .lst (ds.map .fz),e1)=XE):eF f os env=XE:=by
 unfold eF;rw[h];show(qQg hs e).bind _=_;rw[r1];show(opt (f xs)).bind _=_;rw[r3];exact k
theorem qZt{ds:List D}(h:v env=.ok (d,e))(r:qWr d=some ds)(k: .ok (ds,e)=XI):iV v env=XI:=by
 unfold iV;rw[h];show(opt (qWr d)).bind _=_;rw[r];exact k
theorem qZu{f:List D->Option (List D)}{ds:List D}(h:evVs ss env=.ok (xs,e))(r:f xs=some ds)(k: .ok (ds,e)=XI):iL f ss env=XI:=by
 unfold iL;rw[h];show(opt (f xs)).bind _=_;rw[r];exact k
end
section
variable{env e e1:Ev}{F:Fn}{as:List Am}{hs:List Hn}{XE:Res (O×Ev)}{t0 t:List O×Ev}{args:Ev}{q:O×Ev}{os:List O}
theorem qO(h0:qVc (j4 as hs) env=some t0)(h1:qVc (yF as hs) t0.2=some t)(h2:qQt (j4 as hs) t0.1 as hs t.1=some args)(h3:F args=.ok q)(h4:qWs as q.2=some os)(h5:qJ8 t0.1 q.1 os=true)(k: .ok (q.1,putS env (j4 as hs) t0.1 (putS env (yF as hs) os t.2))=XE):qQk F as hs env=XE:=by
 unfold qQk;rw[h0];show(opt (qVc (yF as hs) t0.2)).bind _=_;rw[h1];show(opt (qQt (j4 as hs) t0.1 as hs t.1)).bind _=_;rw[h2];show(F args).bind _=_;rw[h3];show(opt (qWs as q.2)).bind _=_;rw[h4];show cond (qJ8 t0.1 q.1 os) _ _=_;grind
theorem vK(h:evOs (as.map Am.o) env=.ok (hs,e))(k:qQk F as hs e=XE):qN F as env=XE:=by
 unfold qN;rw[h];exact k
theorem qQu{m:Str}(h:evO a0.o env=.ok (h0,e))(c:(qJl e h0 C m && (h0.st || (as.map Am.o).all Oe.isP))=true)(h2:evOs (as.map Am.o) e=.ok (hs,e1))(k:qQk F (a0::as) (h0::hs) e1=XE):jO C m F a0 as env=XE:=by
 unfold jO;rw[h];show cond (qJl e h0 C m && (h0.st || (as.map Am.o).all Oe.isP)) ((evOs (as.map Am.o) e).bind _) _=_;rw[c,h2];exact k
theorem zV4{m:Str}(h:evO a0.o env=.ok (h0,e))(c:(qJl e h0 C m && (h0.st || (as.map Am.o).all Oe.isP))=true)(h2:evOs (as.map Am.o) e=.ok (hs,e1))(h3:vJ7 hs=some (i,j))(k:vVq F (a0::as) (h0::hs) e1 i j=XE):qWu C m F a0 as env=XE:=by
 unfold qWu;rw[h];show cond (qJl e h0 C m && (h0.st || (as.map Am.o).all Oe.isP)) ((evOs (as.map Am.o) e).bind _) _=_;rw[c,h2];show(opt (vJ7 hs)).bind _=_;rw[h3];exact k
theorem zV6{o:O}{q:O×Ev}(h:getE env i [j]=some o)(h2:qQk F as (hs.map (sbH i j (fzO o))) (setE env i [j] (.fz (fzO o)))=.ok q)(c:(stab env q.2 i [j] && ndO q.1 && (setE q.2 i [j] o).all ndS && isFz (getE q.2 i [j]) && dcFz o)=true)(k: .ok (q.1,setE q.2 i [j] o)=XE):vVq F as hs env i j=XE:=by
 unfold vVq;rw[h];show(qQk F as (hs.map (sbH i j (fzO o))) (setE env i [j] (.fz (fzO o)))).bind _=_;rw[h2];show cond (stab env q.2 i [j] && ndO q.1 && (setE q.2 i [j] o).all ndS && isFz (getE q.2 i [j]) && dcFz o) _ _=_;rw[c];exact k
theorem vW3{q:O×Ev}{r:O×Ev}(h:evOs (as.map Am.o) env=.ok (hs,e))(h2:qQk F (.io e.length::as) (.p e.length []::hs) (e ++ [.s false (.ow (.obj C []) [])])=.ok (.fz .non,e1))(h3:popL e1 e.length=some r)(k: .ok r=XE):qWv C F as env=XE:=by
 unfold qWv;rw[h];show(qQk F (.io e.length::as) (.p e.length []::hs) (e ++ [.s false (.ow (.obj C []) [])])).bind _=_;rw[h2];show opt (popL e1 e.length)=_;rw[h3];exact k
end
section
variable{env e e1:Ev}{s k:SP}{a:SE}{v:SV}{i j:Nat}{π:List Nat}{o x:O}{os:List O}{XE:Res (O×Ev)}{X:Res Out}
theorem xF{f:List O->O->Option (O×List O)}{os0:List O}{z:O×List O}(h:s env=some (.p i π))(h0:qZs env i π=some os0)(h1:a env=.ok (x,e))(h2:qZs e i π=some os)(c:stab env e i π=true)(h3:f os x=some z)(k: .ok (z.1,setE e i π (.ow .lst z.2))=XE):eMu1 s a f env=XE:=by
 unfold eMu1;rw[h];show(opt (qZs env i π)).bind _=_;rw[h0];rw[h1];show(opt (qZs e i π)).bind _=_;rw[h2];show cond (stab env e i π) ((opt (f os x)).bind _) _=_;rw[c,h3];exact k
theorem qXe{hk:Hn}{y:D}{key:Key}{q:List Key×List O}(h1:a env=.ok (x,e))(h:s e=some (.p i π))(h2:k e=some hk)(h3:rsv e hk=some y)(h4:qVl y=some key)(h5:qXt e i π=some q)(c:decide (q.2.length<=lim)=true)(w: .ok (.nx (setE e i π (putO q.1 q.2 key x)))=X):qKf s k a env=X:=by
 unfold qKf;rw[h1];show(opt (s e)).bind _=_;rw[h];show(opt (k e)).bind _=_;rw[h2];show(opt (rsv e hk)).bind _=_;rw[h3];show(opt (qVl y)).bind _=_;rw[h4];show(opt (qXt e i π)).bind _=_;rw[h5];show cond (decide (q.2.length<=lim)) _ _=_;rw[c];exact w
theorem qK8{o:Out}(h:qKf s k a env=.ok o)(w: .ok o=X):sPutA s k a env=X:=by
 unfold sPutA;rw[h];exact w
theorem vWp{cs:List Nat}{f:Str}{q:Nat×List Str×List O}{o' :O}(h1:a env=.ok (x,e))(h:s e=some (.p i π))(h2:qWt e i π=some q)(c:(cs.contains q.1 && decide (q.2.2.length<=999))=true)(h3:qKg q.1 q.2.1 q.2.2 f x=some o')(w: .ok (.nx (setE e i π o'))=X):qQf cs f s a env=X:=by
 unfold qQf;rw[h1];show(opt (s e)).bind _=_;rw[h];show(opt (qWt e i π)).bind _=_;rw[h2];show cond (cs.contains q.1 && decide (q.2.2.length<=999)) ((opt (qKg q.1 q.2.1 q.2.2 f x)).bind _) _=_;rw[c,h3];exact w
end
theorem vU{body:SS}{d:D}{ds:List D}{e2:Ev}{X:Res Out}(h1:g d env=some e1)(h2:body e1=.ok (.nx e2))(k:forS g body ds e2=X):forS g body (d::ds) env=X:=by
 show(opt (g d env)).bind _=_;rw[h1];show(body e1).bind _=_;rw[h2];exact k
section
variable{env e e1 e2:Ev}{o:O}{d x y z:D}{h1 h2 h3:Hn}{oa ob:Oe}{XV:Res (D×Ev)}{XH:Res (Hn×Ev)}{f:D->D->Option D}{f1:D->Option D}
theorem zR(h:evO oa env=.ok (h1,e))(k:hnV e h1=XV):oV oa env=XV:=by
 cases oa with
 | p s=>
   change (opt (s env)).bind _=_ at h;show(opt (s env)).bind _=_;cases q:s env with
   |none=>rw[q]at h;cases h
   |some a=>rw[q]at h;cases h;exact k
 | v s=>
   change (s env).bind _=_ at h;show s env=_;cases q:s env with
   |no=>rw[q]at h;cases h
   |er C fs=>rw[q]at h;cases h
   |ok a=>rw[q]at h;cases h;exact k
theorem qJx{s:SP}(h:s env=some h1)(k: .ok (h1,env)=XH):evO (.p s) env=XH:=by
 show(opt (s env)).bind _=_;rw[h];exact k
theorem qXk{s:SP}(h:evO (.p s) env=.ok (h1,e)):s env=some h1/\e=env:=by
 change (opt (s env)).bind _=_ at h;cases q:s env with
 |none=>rw[q]at h;cases h
 |some a=>rw[q]at h;cases h;exact⟨rfl,rfl⟩
theorem zK(h:evO oa env=.ok (h1,e))(h' :evO ob e=.ok (h2,e1))(c:(h1.st || ob.isP)=true)(r1:rsv e1 h1=some x)(r2:rsv e1 h2=some y)(r3:f x y=some z)(k: .ok (.d z,e1)=XH):evO (o2 f oa ob) env=XH:=by
 cases oa with
 |v s=>exact jG (vK6 h h' c r1 r2 r3 rfl) k
 | p s=>
   cases ob with
   |v t=>exact jG (vK6 h h' c r1 r2 r3 rfl) k
   | p t=>
     obtain⟨q1,rfl⟩:=qXk h;obtain⟨q2,rfl⟩:=qXk h';refine qJx (h1:=.d z) ?_ k;show(s _).bind _=_;grind
theorem xX(h:evO oa env=.ok (h1,e))(h' :evO ob e=.ok (h2,e1))(c:(h1.st || (oa.isP && ob.isP))=true)(r:rsv e1 h2=some y)(r3:hnIx e1 y h1=some (.d z))(k: .ok (.d z,e1)=XH):evO (oIx oa ob) env=XH:=by
 have vv:∀(hc:h1.st=true),((evO oa env).bind fun r=>(evO ob r.2).bind fun r' =>cond r.1.st ((opt (rsv r'.2 r'.1)).bind fun y=>(opt (hnIx r'.2 y r.1)).bind fun h=>hnV r'.2 h) .no)=.ok (z,e1):=fun hc=>by
  rw[h];show(evO ob e).bind _=_;rw[h'];show cond h1.st ((opt (rsv e1 h2)).bind _) _=_;rw[hc,r];show(opt (hnIx e1 y h1)).bind _=_;rw[r3];rfl
 cases oa with
 |v s=>exact jG (vv (by simpa[Oe.isP] using c)) k
 | p s=>
   cases ob with
   |v t=>exact jG (vv (by simpa[Oe.isP] using c)) k
   | p t=>
     obtain⟨q1,rfl⟩:=qXk h;obtain⟨q2,rfl⟩:=qXk h';refine qJx (h1:=.d z) ?_ k;grind
theorem jVr{os:List Oe}{g:List D->Option D}{hs:List Hn}(h:evOs os env=.ok (hs,e))(r1:rsvs e hs=some xs)(r3:g xs=some z)(k: .ok (.d z,e)=XH):evO (oL g os) env=XH:=by
 have vv:=zYc h r1 r3 rfl;unfold oL;split
 ·rename_i s;have h:=h;change ((opt (s env)).bind _).bind _=_ at h;cases q:s env with
  |none=>rw[q]at h;cases h
  | some a=>
    rw[q]at h;change cond (a.st || ([]:List Oe).all Oe.isP) (Res.ok ([a],env)) Res.no=_ at h;cases w:(a.st || ([]:List Oe).all Oe.isP) with
    |false=>rw[w]at h;cases h
    | true=>
      rw[w]at h;cases h;refine qJx (h1:=.d z) ?_ k;rw[q];show(rsv env a).bind _=_;change ((rsv env a).bind _)=some xs at r1;obtain⟨x,e1,r1⟩:=dE.mp r1;cases r1;rw[e1];show(g [x]).bind _=_;rw[r3];rfl
 ·exact jG vv k
theorem vG{XH:Res (List Hn×Ev)}(k: .ok ([],env)=XH):evOs (([]:List Am).map Am.o) env=XH:=k
theorem vH{s:SV}{hs:List Hn}{XH:Res (List Hn×Ev)}(h:s env=.ok (d,e))(h2:evOs (as.map Am.o) e=.ok (hs,e1))(k: .ok (.d d::hs,e1)=XH):evOs ((Am.v s::as).map Am.o) env=XH:=qQp (jG h rfl) rfl h2 k
theorem vVs{s:SP}{hs:List Hn}{XH:Res (List Hn×Ev)}(h:s env=some h1)(c:(h1.st || (as.map Am.o).all Oe.isP)=true)(h2:evOs (as.map Am.o) env=.ok (hs,e1))(k: .ok (h1::hs,e1)=XH):evOs ((Am.b s::as).map Am.o) env=XH:=qQp (qJx h rfl) c h2 k
end
theorem qJq{t:ST}{q:Ev}{ds:List D}{XE:Res (O×Ev)}(h:it env=.ok (ds,e))(c:(vWc cs T n e.length && decide (ds.length<=lim))=true)(h2:wT g t el ds (capS cs .un e 0 n)=.ok (vs,q))(k: .ok (.ow .lst (vs.map .fz),putI cs 0 q (qVd cs 0 n e))=XE):compS n cs T it g t el env=XE:=by
 unfold compS;rw[h];show cond (vWc cs T n e.length && decide (ds.length<=lim)) ((wT g t el ds (capS cs .un e 0 n)).bind _) _=_;rw[c,h2];exact k
theorem compL_ok{t:ST}(R:Ev->Prop)(p:D->Option D):∀{ds:List D} {env:Ev},(∀d e,d∈ds->R e->∃e1,g d e=some e1/\((∃e2 v e3,t e1=.ok (true,e2)/\el e2=.ok (v,e3)/\p d=some v/\R e3)\/(∃e2,t e1=.ok (false,e2)/\p d=none/\R e2)))->R env->∃e',wT g t el ds env=.ok (ds.filterMap p,e')/\R e'
 |[],env,_,r=>⟨env,rfl,r⟩
 | d::ds,env,h,r=>by
   obtain⟨e1,h1,h2⟩:=h d env (by simp) r;have ih:=fun {env:Ev} (r:R env)=>compL_ok R p (fun d e hd r=>h d e (aO _ hd) r) (env:=env) r
   rcases h2 with⟨e2,v,e3,a1,a2,a3,a4⟩|⟨e2,a1,a3,a4⟩
   ·obtain⟨e',b1,b2⟩:=ih a4;refine⟨e',?_,b2⟩;show(opt (g d env)).bind _=_;rw[h1];show((t e1).ne).bind _=_;rw[a1];show((el e2).ne).bind _=_;rw[a2];show(wT g t el ds e3).bind _=_;rw[b1,dF,a3];rfl
   ·obtain⟨e',b1,b2⟩:=ih a4;refine⟨e',?_,b2⟩;show(opt (g d env)).bind _=_;rw[h1];show((t e1).ne).bind _=_;rw[a1];show wT g t el ds e2=_;rw[b1,dF,a3]
theorem compL_map(R:Ev->Prop)(p:D->D){ds:List D}(h:∀d e,d∈ds->R e->∃e1 e3,g d e=some e1/\el e1=.ok (p d,e3)/\R e3)(r:R env):∃e',wT g bTrue el ds env=.ok (ds.map p,e')/\R e' :=by
 obtain⟨e',a,b⟩:=compL_ok (g:=g) (t:=bTrue) (el:=el) R (fun d=>some (p d)) (fun d e hd r=>by
  obtain⟨e1,e3,h1,h2,h3⟩:=h d e hd r;exact⟨e1,h1,.inl ⟨e1,p d,e3,rfl,h2,rfl,h3⟩⟩) r
 refine⟨e',?_,b⟩;rw[a];congr 2;rw[List.filterMap_eq_map' (f:=p)]
theorem vQu:∀ds:List D,fzOs (ds.map .fz)=ds
 |[]=>rfl
 |d::ds=>by show fzO (.fz d)::fzOs (ds.map .fz)=_;rw[vQu ds];rfl
theorem vY{k:Kd}(ds:List D):fzO (.ow k (ds.map .fz))=.nd k ds:=by show D.nd k (fzOs _)=_;rw[vQu]
theorem qQo{t:ST}{q:Ev}{ds:List D}(h:it env=.ok (ds,e))(c:(vWc cs T n e.length && decide (ds.length<=lim))=true)(h2:wT g t el ds (capS cs .un e 0 n)=.ok (vs,q))(k: .ok (.nd .lst vs,putI cs 0 q (qVd cs 0 n e))=XV):fzS (compS n cs T it g t el) env=XV:=wV (qJq h c h2 rfl) (by rw[vY];exact k)
theorem vXa{f:List D->Option (List D)}{os:List Oe}{hs:List Hn}{ds:List D}(h:evOs os env=.ok (hs,e))(r1:qQg hs e=.ok (xs,e1))(r3:f xs=some ds)(k: .ok (.nd .lst ds,e1)=XV):fzS (eF f os) env=XV:=wV (vVt h r1 r3 rfl) (by rw[vY];exact k)
theorem vZg{ds:List D}(h:evVs ss env=.ok (ds,e))(c:decide (ds.length<=1000)=true)(k: .ok (.nd .lst ds,e)=XV):fzS (eLst ss) env=XV:=wV (zQk h c rfl) (by rw[vY];exact k)
section
variable{env:Ev}{o:O}{d:D}{X:Res Out}{s t s1 s2:SS}{i:Nat}{a:SE}{b:ST}{q:Bool}
theorem zJd(h:b env=.ok (q,env))(k:cond q (sSeq s1 t env) (sSeq s2 t env)=X):sSeq (sIf b s1 s2) t env=X:=qD h k
theorem zVa(h:a env=.ok (o,env))(k:t (env.set i (.s false o))=X):sSeq (sSet i a) t env=X:=qJ h k
theorem zK9{x:SV}{hs:List Hn}{XH:Res (List Hn×Ev)}(h:x env=.ok (d,env))(h2:evOs (as.map Am.o) env=.ok (hs,e1))(k: .ok (.d d::hs,e1)=XH):evOs ((Am.v x::as).map Am.o) env=XH:=vH h h2 k
end
theorem jQa{d:D}{a:SE}{hs:List Hn}{XH:Res (List Hn×Ev)}(h:fzS a env=.ok (d,e))(h2:evOs (as.map Am.o) e=.ok (hs,e1))(k: .ok (.d d::hs,e1)=XH):evOs ((Am.v (fzS a)::as).map Am.o) env=XH:=vH h h2 k
theorem fnx{args':Ev}{r:Res (O×Ev)}(h:F args' =r)(e:args=args'):F args=r:=by rw[e];exact h
theorem qJp{b:SS}{ds ds' :List D}{e':Ev}{r:Res Out}(h:forS g b ds' e' =r)(h1:ds=ds')(h2:e=e'):forS g b ds e=r:=by rw[h1,h2];exact h
theorem vYv{o:O}(h:qN F as env=.ok (o,e))(k: .ok (fzO o,e)=XV):fzS (qN F as) env=XV:=wV h k
theorem qJk{s t:SS}{X:Res Out}(h:s env' =.ok (.nx e))(he:env=env')(k:t e=X):sSeq s t env=X:=by rw[he];exact jV h k
theorem sAt{s:SS}{X:Res Out}(h:s env' =X)(he:env=env'):s env=X:=by rw[he];exact h
end DX
namespace FM
open PySem L2 DX FP PyProof.Rows
variable{α:Type}{q:OT×Sd}{ν:Nm}{env e:Ev}{no:O}{io:Bool}{x5 x7 x8 x9 x10 a:Slot}{f w:Str}{hk:Hn}{o':Os}
local macro_rules | `(tactic|array_get_dec)=>`(tactic|first
 |with_reducible refine' vW ?_ ?_
 |with_reducible refine' qWg ?_
 |((with_reducible refine' zJd (q:=?q) ?h ?k);(case h=>rfl))
 |with_reducible refine' qD ?_ ?_
 |with_reducible refine' qF ?_
 |with_reducible refine' qZh ?_ ?_
 |((with_reducible refine' zVa (o:=?o) ?h ?k);(case h=>rfl))
 |with_reducible refine' qJ ?_ ?_
 |with_reducible refine' vT ?_ ?_
 |with_reducible refine' jV ?_ ?_
 |with_reducible refine' vR ?_ ?_
 |with_reducible refine' qZ6 ?_ ?_
 |with_reducible refine' qXc ?_ ?_
 |with_reducible refine' wB ?_ ?_
 |with_reducible refine' zO ?_ ?_
 |((with_reducible refine' jL ?_ ?_);rfl)
 |((with_reducible refine' zQ ?_ ?_);rfl)
 |((with_reducible refine' jL ?_ ?_);assumption)
 |((with_reducible refine' zQ ?_ ?_);assumption)
 |with_reducible refine' jQa ?_ ?_ ?_
 |((with_reducible refine' zK9 (d:=?d) ?h ?g ?k);(case h=>rfl))
 |with_reducible refine' vH ?_ ?_ ?_
 |with_reducible refine' vVs ?_ ?_ ?_ ?_
 |with_reducible refine' qQo ?_ ?_ ?_ ?_
 |with_reducible refine' vXa ?_ ?_ ?_ ?_
 |with_reducible refine' vZg ?_ ?_ ?_
 |with_reducible refine' vYv ?_ ?_
 |with_reducible refine' vK ?_ ?_
 |with_reducible refine' qO ?_ ?_ ?_ ?_ ?_ ?_ ?_
 |with_reducible refine' qQu ?_ ?_ ?_ ?_
 |with_reducible refine' vW3 ?_ ?_ ?_ ?_
 |with_reducible refine' qZt ?_ ?_ ?_
 |with_reducible refine' qZu ?_ ?_ ?_
 |rfl
 |with_reducible refine' xU ?_ ?_
 |with_reducible refine' wV ?_ ?_
 |with_reducible refine' xG ?_ ?_ ?_
 |with_reducible refine' yJ ?_ ?_
 |with_reducible refine' vJ5 ?_ ?_
 |with_reducible refine' not_of ?_ ?_
 |with_reducible refine' qQr ?_ ?_ ?_
 |with_reducible refine' zQk ?_ ?_ ?_
 |with_reducible refine' qR ?_ ?_ ?_
 |with_reducible refine' zR ?_ ?_
 |with_reducible refine' jG ?_ ?_
 |with_reducible refine' zK ?_ ?_ ?_ ?_ ?_ ?_ ?_
 |with_reducible refine' xX ?_ ?_ ?_ ?_ ?_ ?_
 |with_reducible refine' jVr ?_ ?_ ?_ ?_
 |with_reducible refine' qQp ?_ ?_ ?_ ?_
 |with_reducible refine' vVt ?_ ?_ ?_ ?_
 |with_reducible refine' zYd ?_ ?_ ?_ ?_
 |with_reducible refine' xF ?_ ?_ ?_ ?_ ?_ ?_ ?_
 |with_reducible refine' qK8 ?_ ?_
 |with_reducible refine' qXe ?_ ?_ ?_ ?_ ?_ ?_ ?_ ?_
 |with_reducible refine' vWp ?_ ?_ ?_ ?_ ?_ ?_
 |with_reducible refine' qJq ?_ ?_ ?_ ?_)
inductive Sg where
 |add|sub|mul|eq|lt
def Sg.s:Sg->Str
 |.add =>"+" |.sub =>"-" |.mul =>"*" |.eq =>"=" |.lt =>"<"
noncomputable def okI(n:Int):Prop:=0<=n/\n<1000000000000

inductive OT where
 |num (n:Int)|slot (i:Int)|draw (i:Nat)
 |op (s:Sg) (a b:OT)|rest (a:OT) (n:Int)|field (a:OT) (x:Str)
 |ite (c a b:OT)|rcd (xs:List Str) (as:List OT)|bind (i:Int) (a b:OT)
mutual
def OT.d:OT->D
 |.num n=>.tup [.str "num",.int n]
 |.slot i=>.tup [.str "slot",.int i]
 |.draw i=>.tup [.str "draw",.int (i:Nat)]
 |.op s a b=>.tup [.str "op",.str s.s,a.d,b.d]
 |.rest a n=>.tup [.str "rest",a.d,.int n]
 |.field a x=>.tup [.str "field",a.d,.str x]
 |.ite c a b=>.tup [.str "if",c.d,a.d,b.d]
 |.rcd xs as=>.tup [.str "record",.tup (zipD (xs.map .str) (OT.ds as))]
 |.bind i a b=>.tup [.str "bind",.int i,a.d,b.d]
def OT.ds:List OT->List D
 |[]=> []
 |a::r=>a.d::OT.ds r
end
theorem vQc:∀as:List OT,OT.ds as=as.map OT.d
 |[]=>rfl
 |a::r=>by rw[OT.ds,vQc r];rfl
mutual
def OT.h:OT->Nat
 |.num _=>1
 |.slot _=>1
 |.draw _=>1
 |.op _ a b=>max a.h b.h+1
 |.rest a _=>a.h+1
 |.field a _=>a.h+1
 |.ite c a b=>max c.h (max a.h b.h)+1
 |.rcd _ as=>OT.hs as+1
 |.bind _ a b=>max a.h b.h+1
def OT.hs:List OT->Nat
 |[]=>0
 |a::r=>max a.h (OT.hs r)
end
mutual
noncomputable def OT.ok:OT->Prop
 |.num n=>okI n
 |.slot _=>True
 |.draw _=>True
 |.op _ a b=>a.ok/\b.ok
 |.rest a n=>a.ok/\0<n
 |.field a _=>a.ok
 |.ite c a b=>c.ok/\a.ok/\b.ok
 |.rcd xs as=>xs.length=as.length/\as.length<=6/\OT.oks as
 |.bind _ a b=>a.ok/\b.ok
noncomputable def OT.oks:List OT->Prop
 |[]=>True
 |a::r=>a.ok/\OT.oks r
end
noncomputable def drD(w:List (Int×Int)):D:=.nd .lst (w.map fun p=>.tup [.int p.1,.int p.2])
noncomputable abbrev Dw:=List (List (Int×Int))
noncomputable def drsD(dd:Dw):D:=.nd .lst (dd.map drD)

theorem qQn{lo:List O}{r:O}{os:List O}(h1:qXr r=true)(h2:flatOs os=true):qJ8 lo r os=true:=by
 unfold qJ8;rw[h1,h2];simp
theorem vYc(xs:List Str)(as:List OT)(hl:xs.length=as.length)(h6:as.length<=6):qI [.s false (.fz (OT.rcd xs as).d)]=.ok (.ow .lst ((OT.ds as).map .fz),[.un]):=by
 obtain⟨e',a,b⟩:=compL_map (g:=gT 2 (gCn (gN 0) (gCn (gN 1) gNl))) (el:=oV (oN 1)) (fun e=>∃u v,e=[u,v]) (fun d=>(match d with|.nd .tup [_,y]=>y|_=>.non)) (ds:=zipD (xs.map .str) (OT.ds as)) (env:=[.un,.un]) (fun d e hd he=>by
  obtain⟨i,hi⟩:=List.mem_iff_getElem?.mp hd;obtain⟨x,y,_,_,rfl⟩:=zipD_get hi;obtain⟨u,v,rfl⟩:=he;exact⟨_,_,rfl,rfl,_,_,rfl⟩) ⟨_,_,rfl⟩
 obtain⟨u,v,rfl⟩:=b;have em:(zipD (xs.map D.str) (OT.ds as)).map (fun d=>(match d with|.nd .tup [_,y]=>y|_=>D.non))=OT.ds as:=by
  rw[vQc];clear a h6;induction xs generalizing as with
  | nil=>cases as with
    |nil=>rfl
    |cons _ _=>cases hl
  | cons x xs ih=>cases as with
    |nil=>cases hl
    | cons a r=>
      show a.d::List.map _ (zipD (xs.map D.str) (r.map OT.d))=_;rw[ih r (by simpa using hl)];rfl
 rw[em]at a;have l:(zipD (xs.map D.str) (OT.ds as)).length <=6:=by
  rw[wW,vQc,aW,aW];omega
 have cl:decide ((zipD (xs.map D.str) (OT.ds as)).length <=lim)=true:=decide_eq_true (aM l (by decide));show qI [.s false (.fz (.tup [.str "record",.tup (zipD (xs.map .str) (OT.ds as))]))]=_;generalize zipD (xs.map D.str) (OT.ds as)=zs at *;unfold qI;repeat' (first|array_get_dec|exact a|(show(true && decide (zs.length<=lim))=true;rw[cl];rfl))

theorem qJd(x n:D):qI [.s false (.fz (.tup [.str "rest",x,n]))]=.ok (.ow .lst [.fz x],[.un]):=by kernel_rfl
theorem qV8(x n:D):qI [.s false (.fz (.tup [.str "field",x,n]))]=.ok (.ow .lst [.fz x],[.un]):=by kernel_rfl
theorem qYa(g x y:D):qI [.s false (.fz (.tup [.str "op",g,x,y]))]=.ok (.ow .lst [.fz x,.fz y],[.un]):=by kernel_rfl
section
variable{hl:List (Nat×Fn)}{dd:Dw}
noncomputable abbrev fz(d:D):Slot:=.s false (.fz d)
end

section
variable{κ α:Type}[DecidableEq κ]
def getA:List (κ×α)->κ->Option α
 |[],_=>none
 |p::r,k=>if p.1=k then some p.2 else getA r k
noncomputable def putA:List (κ×α)->κ->α->List (κ×α)
 |[],k,v=> [(k,v)]
 |p::r,k,v=>if p.1=k then(k,v)::r else p::putA r k v
theorem jS:∀{l:List (κ×α)} {i j:κ} {v:α},getA (putA l i v) j=if i=j then some v else getA l j
 |[],i,j,v=>rfl
 | p::r,i,j,v=>by
   unfold putA;by_cases h:p.1=i
   ·rw [if_pos h];show(if i=j then some v else getA r j)=if i=j then some v else(if p.1=j then some p.2 else getA r j)
    grind
   ·rw [if_neg h];show(if p.1=j then some p.2 else getA (putA r i v) j)=if i=j then some v else(if p.1=j then some p.2 else getA r j)
    rw[jS];grind
theorem wD:∀{l:List (κ×α)} {i:κ} {v:α},(putA l i v).length <=l.length+1
 |[],i,v=>by show 1<=0+1;omega
 | p::r,i,v=>by
   unfold putA;by_cases h:p.1=i
   ·rw[if_pos h];simp
   ·rw [if_neg h];have:=wD (l:=r) (i:=i) (v:=v);simp only[aK];omega
noncomputable def qH(kx:κ->Key)(l:List (κ×α)):List Key:=l.map fun p=>kx p.1
variable{kx:κ->Key}(inj:∀a b,kx a=kx b->a=b)(dv:κ×α->D)
include inj in
theorem qWw:∀{l:List (κ×α)} {i:κ} {v:α},getA l i=some v->∃j,kidx (kx i) (qH kx l)=some j/\(l.map dv)[j]?=some (dv (i,v))/\(l.map fun p=>O.fz (dv p))[j]?=some (.fz (dv (i,v)))
 |[],i,v,e=>by cases e
 | p::r,i,v,e=>by
   unfold getA at e;by_cases z:p.1=i
   ·rw [if_pos z] at e;cases e;subst z;refine⟨0,?_,rfl,rfl⟩;show(if kx p.1=kx p.1 then some 0 else _)=_;rw[if_pos rfl]
   ·rw [if_neg z] at e;obtain⟨j,h1,h2,h3⟩:=qWw e;refine⟨j+1,?_,h2,h3⟩;show(if kx p.1=kx i then some 0 else(kidx (kx i) (qH kx r)).map (· + 1))=_;rw[if_neg (fun q=>z (inj _ _ q)),h1];rfl
include inj in
theorem qJe:∀{l:List (κ×α)} {i:κ},getA l i=none->kidx (kx i) (qH kx l)=none
 |[],i,e=>rfl
 | p::r,i,e=>by
   unfold getA at e;by_cases z:p.1=i
   ·rw[if_pos z]at e;cases e
   ·rw [if_neg z] at e;show(if kx p.1=kx i then some 0 else(kidx (kx i) (qH kx r)).map (· + 1))=_;rw[if_neg (fun q=>z (inj _ _ q)),qJe e];rfl
include inj in
theorem qK7{l:List (κ×α)}{i:κ}{v:α}:putO (qH kx l) (l.map fun p=>.fz (dv p)) (kx i) (.fz (dv (i,v)))=.ow (.dct (qH kx (putA l i v))) ((putA l i v).map fun p=>.fz (dv p)):=by
 have g:∀l:List (κ×α),(∀j,kidx (kx i) (qH kx l)=some j->qH kx (putA l i v)=qH kx l/\((putA l i v).map fun p=>O.fz (dv p))=(l.map fun p=>O.fz (dv p)).set j (.fz (dv (i,v))))/\(kidx (kx i) (qH kx l)=none->qH kx (putA l i v)=qH kx l ++ [kx i]/\((putA l i v).map fun p=>O.fz (dv p))=(l.map fun p=>O.fz (dv p)) ++ [.fz (dv (i,v))]):=by
  intro l;induction l with
  |nil=>exact⟨fun j h=>(by cases h),fun _=>⟨rfl,rfl⟩⟩
  | cons p r ih=>
    have e:kidx (kx i) (qH kx (p::r))=if kx p.1=kx i then some 0 else(kidx (kx i) (qH kx r)).map (· + 1):=rfl
    unfold putA;by_cases z:p.1=i
    ·have z' :kx p.1=kx i:=by rw [z]
     rw[if_pos z,e,if_pos z'];refine⟨fun j h=>?_,fun h=>(by cases h)⟩;cases h;exact⟨by show kx i::_=kx p.1::_;rw[z],rfl⟩
    ·have z' :¬kx p.1=kx i:=fun q=>z (inj _ _ q)
     rw[if_neg z,e,if_neg z'];refine⟨fun j h=>?_,fun h=>?_⟩
     ·cases q:kidx (kx i) (qH kx r) with
      |none=>rw[q]at h;cases h
      | some k=>
        rw[q]at h;cases h;obtain⟨a,b⟩:=ih.1 k q;exact⟨by show _::qH kx (putA r i v)=_;rw[a];rfl,by show _::((putA r i v).map fun p=>O.fz (dv p))=_;rw[b];rfl⟩
     ·cases q:kidx (kx i) (qH kx r) with
      |some k=>rw[q]at h;cases h
      | none=>
        obtain⟨a,b⟩:=ih.2 q;exact⟨by show _::qH kx (putA r i v)=_;rw[a];rfl,by show _::((putA r i v).map fun p=>O.fz (dv p))=_;rw[b];rfl⟩
 unfold putO;cases q:kidx (kx i) (qH kx l) with
 |some j=>obtain⟨a,b⟩:=(g l).1 j q;dsimp only;rw[a,b]
 |none=>obtain⟨a,b⟩:=(g l).2 q;dsimp only;rw[a,b]
end
theorem inr_inj:∀a b:Str,(Sum.inr a:Key)=Sum.inr b->a=b:=fun _ _ h=>Sum.inr.inj h
inductive Tm where
 |num (n:Int)|name (x:Str)|flip (a b:Int)|pick (ps:List (Int×Int))
 |op (s:Sg) (a b:Tm)|rest (a:Tm) (n:Int)|field (a:Tm) (x:Str)
 |ite (c a b:Tm)|rcd (xs:List Str) (as:List Tm)|call (f:Str) (as:List Tm)
abbrev prI(p:Int×Int):D:=.tup [.int p.1,.int p.2]
mutual
def Tm.d:Tm->D
 |.num n=>.tup [.str "num",.int n]
 |.name x=>.tup [.str "name",.str x]
 |.flip a b=>.tup [.str "flip",.int a,.int b]
 |.pick ps=>.tup [.str "pick",.tup (ps.map prI)]
 |.op s a b=>.tup [.str "op",.str s.s,a.d,b.d]
 |.rest a n=>.tup [.str "rest",a.d,.int n]
 |.field a x=>.tup [.str "field",a.d,.str x]
 |.ite c a b=>.tup [.str "if",c.d,a.d,b.d]
 |.rcd xs as=>.tup [.str "record",.tup (zipD (xs.map .str) (Tm.ds as))]
 |.call f as=>.tup [.str "call",.str f,.tup (Tm.ds as)]
def Tm.ds:List Tm->List D
 |[]=> []
 |a::r=>a.d::Tm.ds r
end
theorem qZf:∀as:List Tm,Tm.ds as=as.map Tm.d
 |[]=>rfl
 |a::r=>by rw[Tm.ds,qZf r];rfl
mutual
noncomputable def Tm.wf:Tm->Prop
 |.num _=>True
 |.name _=>True
 |.flip _ _=>True
 |.pick _=>True
 |.op _ a b=>a.wf/\b.wf
 |.rest a _=>a.wf
 |.field a _=>a.wf
 |.ite c a b=>c.wf/\a.wf/\b.wf
 |.rcd xs as=>xs.length=as.length/\as.length<=6/\Tm.wfs as
 |.call _ as=>as.length<=100/\Tm.wfs as
noncomputable def Tm.wfs:List Tm->Prop
 |[]=>True
 |a::r=>a.wf/\Tm.wfs r
end
structure Sd where
 dr:Dw
 sl:Int
 tm:Int
noncomputable abbrev Nm:=List (Str×Int)
noncomputable abbrev Hs:=List (Str×(List Str×Tm))
noncomputable abbrev nmv:Str×Int->D:=fun p=>.int p.2
noncomputable def rowD(p:Str×(List Str×Tm)):D:=.tup [.str "def",.str p.1,.tup (p.2.1.map .str),p.2.2.d]
noncomputable def nmD(ν:Nm):D:=.nd (.dct (qH Sum.inr ν)) (ν.map nmv)
noncomputable def opO(hs:Hs)(no:O)(st:List O)(s:Sd):O:=.ow (.obj 2 ["helpers","names","steps","draws","slots","terms"]) [.ow (.dct (qH Sum.inr hs)) (hs.map fun p=>.fz (rowD p)),no,.ow .lst st,.ow .lst (s.dr.map fun w=>.fz (drD w)),.fz (.int s.sl),.fz (.int s.tm)]
noncomputable def count(s:Sd):Res Sd:=if s.tm<600 then .ok {s with tm:=s.tm+1} else .er 25 []
noncomputable def qZi(w:List (Int×Int))(s:Sd):Res (OT×Sd):=if s.dr.length<60 then .ok (.draw s.dr.length,{s with dr:=s.dr ++ [w]}) else .er 25 []
noncomputable def qVe(R:Tm->Sd->Res (OT×Sd)):List Tm->Sd->Res (List OT×Sd)
 |[],s=>.ok ([],s)
 |t::r,s=>(R t s).bind fun q=>(qVe R r q.2).bind fun z=>.ok (q.1::z.1,z.2)
noncomputable def zD(R:Tm->Sd->Res (OT×Sd)):List Str->List Tm->Sd->Nm->List (Int×OT)->Res (Nm×List (Int×OT)×Sd)
 |x::xs,t::ts,s,own,bs=>(count s).bind fun s=>(R t s).bind fun q=>zD R xs ts {q.2 with sl:=q.2.sl+1} (putA own x q.2.sl) (bs ++ [(q.2.sl,q.1)])
 |_,_,s,own,bs=>.ok (own,bs,s)
noncomputable def qKb(bs:List (Int×OT))(w:OT):OT:=bs.foldr (fun b w=>.bind b.1 b.2 w) w
noncomputable def qP(hs:Hs):Nat->Nm->Tm->Sd->Res (OT×Sd)
 | 0,_,_,_=>.no
 | h + 1,ν,t,s=>match t with
   | .call f as=>match getA hs f with
     |none=>.no
     |some p=>(zD (qP hs h ν) p.1 as s [] []).bind fun q=>(qP hs h q.1 p.2 q.2.2).bind fun w=>.ok (qKb q.2.1 w.1,w.2)
   |.num n=>(count s).bind fun s=>.ok (.num n,s)
   | .name x=>(count s).bind fun s=>match getA ν x with
     |none=>.no
     |some i=>.ok (.slot i,s)
   |.flip a b=>(count s).bind fun s=>qZi [(0,b - a),(1,a)] s
   |.pick ps=>(count s).bind fun s=>qZi ps s
   |.op g a b=>(count s).bind fun s=>(qP hs h ν a s).bind fun q=>(qP hs h ν b q.2).bind fun r=>.ok (.op g q.1 r.1,r.2)
   |.rest a n=>(count s).bind fun s=>(qP hs h ν a s).bind fun q=>.ok (.rest q.1 n,q.2)
   |.field a x=>(count s).bind fun s=>(qP hs h ν a s).bind fun q=>.ok (.field q.1 x,q.2)
   |.ite c a b=>(count s).bind fun s=>(qP hs h ν c s).bind fun p=>(qP hs h ν a p.2).bind fun q=>(qP hs h ν b q.2).bind fun r=>.ok (.ite p.1 q.1 r.1,r.2)
   |.rcd xs as=>(count s).bind fun s=>(qVe (qP hs h ν) as s).bind fun q=>.ok (.rcd xs q.1,q.2)
section
variable{hs:Hs}{no:O}{st:List O}{s:Sd}
theorem vY6:vVm [2] "terms" (i2 fun i j=>i+j) (pOf (oN 0)) (oV (oC (.int 1))) [.s true (opO hs no st s)]=.ok (.nx [.s true (opO hs no st {s with tm:=s.tm+1})]):=by kernel_rfl
theorem vY5:oV (oGt (oFld [2] "terms" (oN 0)) (oC (.int 600))) [.s true (opO hs no st {s with tm:=s.tm+1})]=.ok (.bl (decide (600<s.tm+1)),[.s true (opO hs no st {s with tm:=s.tm+1})]):=by kernel_rfl
theorem jT(h:s.tm<600):zB [.s true (opO hs no st s)]=.ok (.fz .non,[.s true (opO hs no st {s with tm:=s.tm+1})]):=by
 have h' :decide (600<s.tm+1)=false:=decide_eq_false (by omega);refine vW (qJk vY6 rfl (vR (xG vY5 rfl rfl) (zQ h' rfl))) rfl
theorem vQh:vF [.s true (opO hs no st s)]=.ok (.fz (.int s.sl),[.s true (opO hs no st {s with sl:=s.sl+1})]):=by
 have:vF [.s true (opO hs no st s)]=.ok (.fz (.int (s.sl+1 - 1)),[.s true (opO hs no st {s with sl:=s.sl+1})]):=by kernel_rfl
 grind
theorem zZv(w:List (Int×Int))(h:s.dr.length<=1000):eMu1 (pOf (oFld [2] "draws" (oN 0))) (owS (oV (oN 1))) apF [.s true (opO hs no st s),.s false (.fz (drD w))]=.ok (.fz .non,[.s true (opO hs no st {s with dr:=s.dr ++ [w]}),.s false (.fz (drD w))]):=by
 have ap:apF (s.dr.map fun w=>.fz (drD w)) (.fz (drD w))=some (.fz .non,(s.dr ++ [w]).map fun w=>.fz (drD w)):=by
  unfold apF;grind
 refine xF (i:=0) (π:=[3]) (os0:=s.dr.map fun w=>.fz (drD w)) (x:=.fz (drD w)) (e:=[.s true (opO hs no st s),.s false (.fz (drD w))]) (os:=s.dr.map fun w=>.fz (drD w)) (by kernel_rfl) (by kernel_rfl) (by kernel_rfl) (by kernel_rfl) (by kernel_rfl) ap rfl
theorem zZu(w:Dw)(x:D)(s:Sd)(e:s.dr=w):oV (oSub (oL lenD [(oFld [2] "draws" (oN 0))]) (oC (.int 1))) [.s true (opO hs no st s),.s false (.fz x)]=.ok (.int ((w.map fun w=>O.fz (drD w)).length - 1),[.s true (opO hs no st s),.s false (.fz x)]):=by
 subst e;have:(fzOs (s.dr.map fun w=>O.fz (drD w))).length =(s.dr.map fun w=>O.fz (drD w)).length :=by rw[qJw,aW]
 have q:oV (oSub (oL lenD [(oFld [2] "draws" (oN 0))]) (oC (.int 1))) [.s true (opO hs no st s),.s false (.fz x)]=.ok (.int ((fzOs (s.dr.map fun w=>O.fz (drD w))).length - 1),[.s true (opO hs no st s),.s false (.fz x)]):=by kernel_rfl
 rw[q,this]
theorem zW8(x:D)(s:Sd):oV (oGt (oL lenD [(oFld [2] "draws" (oN 0))]) (oC (.int 60))) [.s true (opO hs no st s),.s false (.fz x)]=.ok (.bl (decide (60<(s.dr.length:Int))),[.s true (opO hs no st s),.s false (.fz x)]):=by
 have:(fzOs (s.dr.map fun w=>O.fz (drD w))).length =s.dr.length:=by rw[qJw,aW,aW]
 have q:oV (oGt (oL lenD [(oFld [2] "draws" (oN 0))]) (oC (.int 60))) [.s true (opO hs no st s),.s false (.fz x)]=.ok (.bl (decide (60<((fzOs (s.dr.map fun w=>O.fz (drD w))).length :Int))),[.s true (opO hs no st s),.s false (.fz x)]):=by kernel_rfl
 rw[q,this]
theorem vXh(w:List (Int×Int))(h:s.dr.length<60):wS [.s true (opO hs no st s),.s false (.fz (drD w))]=.ok (.fz (.int (s.dr.length:Nat)),[.s true (opO hs no st {s with dr:=s.dr ++ [w]}),.un]):=by
 have h' :decide (60<((s.dr ++ [w]).length :Int))=false:=decide_eq_false (by simp;omega);have e:((((s.dr ++ [w]).map fun w=>O.fz (drD w)).length :Nat):Int) - 1=(s.dr.length:Nat):=by simp
 refine vW (vT (zZv w (by omega)) (qD (xG (zW8 (drD w) {s with dr:=s.dr ++ [w]}) rfl rfl) (zQ h' (qF (qZ6 (xU (zZu (s.dr ++ [w]) (drD w) {s with dr:=s.dr ++ [w]} rfl) rfl) rfl))))) ?_
 rw[e];rfl
end

theorem qM{β:Type}{x:Res α}{f:α->Res β}{b:β}(h:x.bind f=.ok b):∃a,x=.ok a/\f a=.ok b:=by
 cases x with
 |ok a=>exact⟨a,rfl,h⟩
 |er C fs=>cases h
 |no=>cases h
theorem zN{s s' :Sd}(h:count s=.ok s'):s.tm<600/\s' ={s with tm:=s.tm+1}:=by
 unfold count at h;by_cases z:s.tm<600
 ·rw[if_pos z]at h;cases h;exact⟨z,rfl⟩
 ·rw[if_neg z]at h;cases h
theorem qW1{w:List (Int×Int)}{s:Sd}(h:qZi w s=.ok q):s.dr.length<60/\q=(.draw s.dr.length,{s with dr:=s.dr ++ [w]}):=by
 unfold qZi at h;by_cases z:s.dr.length<60
 ·rw[if_pos z]at h;cases h;exact⟨z,rfl⟩
 ·rw[if_neg z]at h;cases h
theorem qWj(c x y:D):qI [.s false (.fz (.tup [.str "if",c,x,y]))]=.ok (.ow .lst [.fz c,.fz x,.fz y],[.un]):=by kernel_rfl
theorem zZ5(g x y a b:D):vI [.s false (.fz (.tup [.str "op",g,x,y])),.s false (.fz (.nd .lst [a,b]))]=.ok (.fz (.tup [.str "op",g,a,b]),[.un,.un]):=by kernel_rfl
theorem zQ1(x y z a b c:D):vI [.s false (.fz (.tup [.str "if",x,y,z])),.s false (.fz (.nd .lst [a,b,c]))]=.ok (.fz (.tup [.str "if",a,b,c]),[.un,.un]):=by kernel_rfl
theorem vXv(x n a:D):vI [.s false (.fz (.tup [.str "rest",x,n])),.s false (.fz (.nd .lst [a]))]=.ok (.fz (.tup [.str "rest",a,n]),[.un,.un]):=by kernel_rfl
theorem vZ8(x n a:D):vI [.s false (.fz (.tup [.str "field",x,n])),.s false (.fz (.nd .lst [a]))]=.ok (.fz (.tup [.str "field",a,n]),[.un,.un]):=by kernel_rfl
theorem qYm(xs:List Str)(as:List Tm)(hl:xs.length=as.length)(h6:as.length<=6):qI [.s false (.fz (Tm.rcd xs as).d)]=.ok (.ow .lst ((Tm.ds as).map .fz),[.un]):=by
 obtain⟨e',a,b⟩:=compL_map (g:=gT 2 (gCn (gN 0) (gCn (gN 1) gNl))) (el:=oV (oN 1)) (fun e=>∃u v,e=[u,v]) (fun d=>(match d with|.nd .tup [_,y]=>y|_=>.non)) (ds:=zipD (xs.map .str) (Tm.ds as)) (env:=[.un,.un]) (fun d e hd he=>by
  obtain⟨i,hi⟩:=List.mem_iff_getElem?.mp hd;obtain⟨x,y,_,_,rfl⟩:=zipD_get hi;obtain⟨u,v,rfl⟩:=he;exact⟨_,_,rfl,rfl,_,_,rfl⟩) ⟨_,_,rfl⟩
 obtain⟨u,v,rfl⟩:=b;have em:(zipD (xs.map D.str) (Tm.ds as)).map (fun d=>(match d with|.nd .tup [_,y]=>y|_=>D.non))=Tm.ds as:=by
  rw[qZf];clear a h6;induction xs generalizing as with
  | nil=>cases as with
    |nil=>rfl
    |cons _ _=>cases hl
  | cons x xs ih=>cases as with
    |nil=>cases hl
    | cons a r=>
      show a.d::List.map _ (zipD (xs.map D.str) (r.map Tm.d))=_;rw[ih r (by simpa using hl)];rfl
 rw[em]at a;have l:(zipD (xs.map D.str) (Tm.ds as)).length <=6:=by
  rw[wW,qZf,aW,aW];omega
 have cl:decide ((zipD (xs.map D.str) (Tm.ds as)).length <=lim)=true:=decide_eq_true (aM l (by decide));show qI [.s false (.fz (.tup [.str "record",.tup (zipD (xs.map .str) (Tm.ds as))]))]=_;generalize zipD (xs.map D.str) (Tm.ds as)=zs at *;unfold qI;repeat' (first|array_get_dec|exact a|(show(true && decide (zs.length<=lim))=true;rw[cl];rfl))
theorem zQ0(xs:List Str)(as:List Tm)(os:List OT)(hl:xs.length=as.length)(h6:as.length<=6)(ho:os.length=as.length):vI [.s false (.fz (Tm.rcd xs as).d),.s false (.fz (.nd .lst (os.map OT.d)))]=.ok (.fz (OT.rcd xs os).d,[.un,.un]):=by
 obtain⟨e',a,b⟩:=compL_map (g:=gT 2 (gCn (gN 0) (gCn (gN 1) gNl))) (el:=svTup [(oV (oIx (oN 0) (oC (.int 0)))),(oV (oN 1))]) (fun e=>∃u v,e=[u,v]) (fun d=>(match d with|.nd .tup [.nd .tup (x::_),y]=>.tup [x,y]|_=>.non)) (ds:=zipD (zipD (xs.map .str) (Tm.ds as)) (os.map OT.d)) (env:=[.un,.un]) (fun d e hd he=>by
  obtain⟨i,hi⟩:=List.mem_iff_getElem?.mp hd;obtain⟨p,y,h1,_,rfl⟩:=zipD_get hi;obtain⟨x,z,_,_,rfl⟩:=zipD_get h1;obtain⟨u,v,rfl⟩:=he;exact⟨_,_,rfl,rfl,_,_,rfl⟩) ⟨_,_,rfl⟩
 obtain⟨u,v,rfl⟩:=b;have em:(zipD (zipD (xs.map D.str) (Tm.ds as)) (os.map OT.d)).map (fun d=>(match d with|.nd .tup [.nd .tup (x::_),y]=>D.tup [x,y]|_=>D.non))=zipD (xs.map .str) (OT.ds os):=by
  rw[qZf,vQc];clear a h6;induction xs generalizing as os with
  |nil=>rfl
  | cons x xs ih=>cases as with
    |nil=>cases hl
    | cons a r=>cases os with
      |nil=>cases ho
      | cons o os=>
        show D.tup [.str x,o.d]::List.map _ (zipD (zipD (xs.map D.str) (r.map Tm.d)) (os.map OT.d))=_;rw[ih r os (by simpa using hl) (by simpa using ho)];rfl
 rw[em]at a;have l:(zipD (zipD (xs.map D.str) (Tm.ds as)) (os.map OT.d)).length <=6:=by
  rw[wW,wW,qZf,aW,aW];omega
 have cl:decide ((zipD (zipD (xs.map D.str) (Tm.ds as)) (os.map OT.d)).length <=lim)=true:=decide_eq_true (aM l (by decide));have zt:zpA [.tup (zipD (xs.map .str) (Tm.ds as)),.nd .lst (os.map OT.d)]=some (zipD (zipD (xs.map D.str) (Tm.ds as)) (os.map OT.d)):=rfl;show vI [.s false (.fz (.tup [.str "record",.tup (zipD (xs.map .str) (Tm.ds as))])),.s false (.fz (.nd .lst (os.map OT.d)))]=.ok (.fz (.tup [.str "record",.tup (zipD (xs.map .str) (OT.ds os))]),[.un,.un]);generalize zipD (xs.map D.str) (Tm.ds as)=zs at *;unfold vI;repeat' (first|exact zt|array_get_dec|exact a|(show(true && decide (_<=lim))=true;rw[cl];rfl))
mutual
theorem jB:∀t:OT,vB t.d=true
 |.num n=>by rw[OT.d];rfl
 |.slot i=>by rw[OT.d];rfl
 |.draw i=>by rw[OT.d];rfl
 |.op g a b=>by rw[OT.d];show(true && (true && (vB a.d && (vB b.d && true))))=true;rw[jB a,jB b];rfl
 |.rest a n=>by rw[OT.d];show(true && (vB a.d && (true && true)))=true;rw[jB a];rfl
 |.field a x=>by rw[OT.d];show(true && (vB a.d && (true && true)))=true;rw[jB a];rfl
 |.ite c a b=>by rw[OT.d];show(true && (vB c.d && (vB a.d && (vB b.d && true))))=true;rw[jB c,jB a,jB b];rfl
 |.rcd xs as=>by rw[OT.d];show(true && (flatDs (zipD (xs.map .str) (OT.ds as)) && true))=true;rw[flat_ots xs as];rfl
 |.bind i a b=>by rw[OT.d];show(true && (true && (vB a.d && (vB b.d && true))))=true;rw[jB a,jB b];rfl
theorem flat_ots:∀(xs:List Str) (as:List OT),flatDs (zipD (xs.map .str) (OT.ds as))=true
 |[],_=>rfl
 |x::xs,[]=>by rw[OT.ds];rfl
 | x::xs,a::as=>by
   rw[OT.ds];show((true && (vB a.d && true)) && flatDs (zipD (xs.map .str) (OT.ds as)))=true;rw[jB a,flat_ots xs as];rfl
end
theorem qVx(t:OT):qXr (.fz t.d)=true:=jB t
theorem zKy{x:Str}{i:Int}(e:getA ν x=some i):ixD (nmD ν) (.str x)=some (.int i):=by
 obtain⟨j,h1,h2,_⟩:=qWw inr_inj nmv e;show(((some (Sum.inr x:Key)).bind fun k=>kidx k (qH Sum.inr ν)).bind fun j=>(ν.map nmv)[j]?)=_;rw[bH,h1];exact h2
theorem zWy{x:Str}{i:Int}(e:getA ν x=some i):hnIx env (.str x) (.d (nmD ν))=some (.d (.int i)):=by
 show(ixD (nmD ν) (.str x)).map Hn.d=_;rw[zKy e];rfl
theorem vZt(a b:Int):qZp [.s false (.fz (.tup [.str "flip",.int a,.int b]))]=.ok (.ow .lst [.fz (prI (0,b - a)),.fz (prI (1,a))],[.un]):=by kernel_rfl
theorem vZs(ps:List (Int×Int)):qZp [.s false (.fz (Tm.pick ps).d)]=.ok (.ow .lst ((ps.map prI).map .fz),[.un]):=by kernel_rfl
section
variable{hs:Hs}
noncomputable def yT(hs:Hs)(h:Nat):Prop:=∀(ν:Nm) (t:Tm) (s:Sd) (no:O) (st:List O) (q:OT×Sd),t.wf->qP hs h ν t s=.ok q->
 F_Opener_open_term h [.s true (opO hs no st s),.s false (.fz t.d),.s false (.fz (nmD ν))]=.ok (.fz q.1.d,[.s true (opO hs no st q.2),.un,.un])
theorem open_loop{h:Nat}(ih:yT hs h){st:List O}:∀(ts:List Tm) (s:Sd) (q:List OT×Sd) (a k x5:Slot) (acc:List O),Tm.wfs ts->acc.length+ts.length<=1000->qVe (qP hs h ν) ts s=.ok q->
  ∃y,forS (gN 5) (jU (F_Opener_open_term h)) (Tm.ds ts) [.s true (opO hs no st s),a,.s false (.fz (nmD ν)),k,.s false (.ow .lst acc),x5]=
   .ok (.nx [.s true (opO hs no st q.2),a,.s false (.fz (nmD ν)),k,.s false (.ow .lst (acc ++ q.1.map fun t=>.fz t.d)),y])
 | [],s,q,a,k,x5,acc,_,_,e=>by
   cases e;exact⟨x5,by rw[List.map_nil,bL];rfl⟩
 | t::ts,s,q,a,k,x5,acc,hw,hl,e=>by
   rw[Tm.wfs]at hw;obtain⟨v,e1,e⟩:=qM e;obtain⟨r,e2,e⟩:=qM e;cases e;rw[aK]at hl;have c1:=ih ν t s no st v hw.1 e1;have ap:apF acc (.fz v.1.d)=some (.fz .non,acc ++ [.fz v.1.d]):=by
    unfold apF;rw[decide_eq_true (show acc.length<=lim from aM (by omega) (show 1000<=1000000 by decide))];rfl
   obtain⟨y,hy⟩:=open_loop ih ts v.2 r a k (.s false (.fz t.d)) (acc ++ [.fz v.1.d]) hw.2 (by rw[aU];simp;omega) e2;refine⟨y,?_⟩;rw[Tm.ds];refine vU rfl ?_ (hy.trans ?_)
   ·unfold jU;repeat' (first|((with_reducible refine' fnx c1 ?_);rfl)|array_get_dec|exact ap)
   ·rw[List.append_assoc];rfl
theorem qKs{R:Tm->Sd->Res (OT×Sd)}:∀{ts:List Tm} {s:Sd} {q:List OT×Sd},qVe R ts s=.ok q->q.1.length=ts.length
 |[],s,q,e=>by cases e;rfl
 | t::ts,s,q,e=>by
   obtain⟨v,e1,e⟩:=qM e;obtain⟨r,e2,e⟩:=qM e;cases e;simp[qKs e2]
end

section
variable{hs:Hs}{h:Nat}
theorem zW9(ps:List (Int×Int)):fzO (.ow .lst ((ps.map prI).map .fz))=drD ps:=vY _
set_option maxHeartbeats 400000 in
theorem qZm(ν:Nm)(t:Tm)(s:Sd)(no:O)(st:List O)(q:OT×Sd)(ht:(∃n,t=.num n)\/(∃x,t=.name x)\/(∃a b,t=.flip a b)\/∃ps,t=.pick ps)(e:qP hs (h+1) ν t s=.ok q):
  F_Opener_open_term (h+1) [.s true (opO hs no st s),.s false (.fz t.d),.s false (.fz (nmD ν))]=.ok (.fz q.1.d,[.s true (opO hs no st q.2),.un,.un]):=by
 rcases ht with⟨n,rfl⟩|⟨x,rfl⟩|⟨a,b,rfl⟩|⟨ps,rfl⟩
 ·obtain⟨s1,e1,e⟩:=qM (show(count s).bind _=_ from e);obtain⟨h1,rfl⟩:=zN e1;cases e;have c:=jT (hs:=hs) (no:=no) (st:=st) h1;unfold F_Opener_open_term;repeat' (first|((with_reducible refine' fnx c ?_);rfl)|array_get_dec)
 ·obtain⟨s1,e1,e⟩:=qM (show(count s).bind _=_ from e);obtain⟨h1,rfl⟩:=zN e1;cases e2:getA ν x with
  |none=>rw[e2]at e;cases e
  | some i=>
    rw[e2]at e;cases e;have c:=jT (hs:=hs) (no:=no) (st:=st) h1;unfold F_Opener_open_term;repeat' (first|((with_reducible refine' fnx c ?_);rfl)|array_get_dec|exact zWy e2)
 ·obtain⟨s1,e1,e⟩:=qM (show(count s).bind _=_ from e);obtain⟨h1,rfl⟩:=zN e1;obtain⟨h2,rfl⟩:=qW1 e;have c:=jT (hs:=hs) (no:=no) (st:=st) h1;have d:=vXh (hs:=hs) (no:=no) (st:=st) (s:={s with tm:=s.tm+1}) [(0,b - a),(1,a)] h2;have df:=vZt a b;unfold F_Opener_open_term;repeat' (first|((with_reducible refine' fnx c ?_);rfl)|((with_reducible refine' fnx d ?_);rfl)|((with_reducible refine' fnx df ?_);rfl)|array_get_dec)
 ·obtain⟨s1,e1,e⟩:=qM (show(count s).bind _=_ from e);obtain⟨h1,rfl⟩:=zN e1;obtain⟨h2,rfl⟩:=qW1 e;have c:=jT (hs:=hs) (no:=no) (st:=st) h1;have d:=vXh (hs:=hs) (no:=no) (st:=st) (s:={s with tm:=s.tm+1}) ps h2;have d' :=d;rw[←zW9 ps]at d';have df:=vZs ps;unfold F_Opener_open_term;repeat' (first|((with_reducible refine' fnx c ?_);rfl)|((with_reducible refine' fnx d' ?_);rfl)|((with_reducible refine' fnx df ?_);rfl)|array_get_dec)
set_option maxHeartbeats 400000 in
theorem zWf(ih:yT hs h)(ν:Nm)(g:Sg)(x y:Tm)(s:Sd)(no:O)(st:List O)(q:OT×Sd)(hw:(Tm.op g x y).wf)(e:qP hs (h+1) ν (.op g x y) s=.ok q):
  F_Opener_open_term (h+1) [.s true (opO hs no st s),.s false (.fz (Tm.op g x y).d),.s false (.fz (nmD ν))]=.ok (.fz q.1.d,[.s true (opO hs no st q.2),.un,.un]):=by
 rw[Tm.wf]at hw;obtain⟨s1,e1,e⟩:=qM (show(count s).bind _=_ from e);obtain⟨h1,rfl⟩:=zN e1;obtain⟨v,e2,e⟩:=qM e;obtain⟨r,e3,e⟩:=qM e;cases e;have c:=jT (hs:=hs) (no:=no) (st:=st) h1;have ts:qVe (qP hs h ν) [x,y] {s with tm:=s.tm+1}=.ok ([v.1,r.1],r.2):=by
  show(qP hs h ν x _).bind _=_;rw[e2];show((qP hs h ν y v.2).bind _).bind _=_;rw[e3];rfl
 obtain⟨z,lp⟩:=open_loop ih [x,y] _ _ (fz (Tm.op g x y).d) (fz (.str "op")) .un [] (by simp only[Tm.wfs];exact⟨hw.1,hw.2,trivial⟩) (by simp) ts (no:=no) (st:=st);unfold F_Opener_open_term;repeat' (first|((with_reducible refine' fnx c ?_);rfl)|((with_reducible refine' fnx (qYa (.str g.s) x.d y.d) ?_);rfl)|((with_reducible refine' fnx (zZ5 (.str g.s) x.d y.d v.1.d r.1.d) ?_);rfl)|(with_reducible refine' qJp lp ?_ ?_)|array_get_dec|exact qQn (qVx (.op g v.1 r.1)) rfl)
set_option maxHeartbeats 400000 in
theorem zVw(ih:yT hs h)(ν:Nm)(c x y:Tm)(s:Sd)(no:O)(st:List O)(q:OT×Sd)(hw:(Tm.ite c x y).wf)(e:qP hs (h+1) ν (.ite c x y) s=.ok q):
  F_Opener_open_term (h+1) [.s true (opO hs no st s),.s false (.fz (Tm.ite c x y).d),.s false (.fz (nmD ν))]=.ok (.fz q.1.d,[.s true (opO hs no st q.2),.un,.un]):=by
 rw[Tm.wf]at hw;obtain⟨s1,e1,e⟩:=qM (show(count s).bind _=_ from e);obtain⟨h1,rfl⟩:=zN e1;obtain⟨u,e0,e⟩:=qM e;obtain⟨v,e2,e⟩:=qM e;obtain⟨r,e3,e⟩:=qM e;cases e;have cc:=jT (hs:=hs) (no:=no) (st:=st) h1;have ts:qVe (qP hs h ν) [c,x,y] {s with tm:=s.tm+1}=.ok ([u.1,v.1,r.1],r.2):=by
  show(qP hs h ν c _).bind _=_;rw[e0];show((qP hs h ν x u.2).bind _).bind _=_;rw[e2];show(((qP hs h ν y v.2).bind _).bind _).bind _=_;rw[e3];rfl
 obtain⟨z,lp⟩:=open_loop ih [c,x,y] _ _ (fz (Tm.ite c x y).d) (fz (.str "if")) .un [] (by simp only[Tm.wfs];exact⟨hw.1,hw.2.1,hw.2.2,trivial⟩) (by simp) ts (no:=no) (st:=st);unfold F_Opener_open_term;repeat' (first|((with_reducible refine' fnx cc ?_);rfl)|((with_reducible refine' fnx (qWj c.d x.d y.d) ?_);rfl)|((with_reducible refine' fnx (zQ1 c.d x.d y.d u.1.d v.1.d r.1.d) ?_);rfl)|(with_reducible refine' qJp lp ?_ ?_)|array_get_dec|exact qQn (qVx (.ite u.1 v.1 r.1)) rfl)
set_option maxHeartbeats 400000 in
theorem vYe(ih:yT hs h)(ν:Nm)(x:Tm)(n:Int)(s:Sd)(no:O)(st:List O)(q:OT×Sd)(hw:(Tm.rest x n).wf)(e:qP hs (h+1) ν (.rest x n) s=.ok q):
  F_Opener_open_term (h+1) [.s true (opO hs no st s),.s false (.fz (Tm.rest x n).d),.s false (.fz (nmD ν))]=.ok (.fz q.1.d,[.s true (opO hs no st q.2),.un,.un]):=by
 rw[Tm.wf]at hw;obtain⟨s1,e1,e⟩:=qM (show(count s).bind _=_ from e);obtain⟨h1,rfl⟩:=zN e1;obtain⟨v,e2,e⟩:=qM e;cases e;have c:=jT (hs:=hs) (no:=no) (st:=st) h1;have ts:qVe (qP hs h ν) [x] {s with tm:=s.tm+1}=.ok ([v.1],v.2):=by
  show(qP hs h ν x _).bind _=_;rw[e2];rfl
 obtain⟨z,lp⟩:=open_loop ih [x] _ _ (fz (Tm.rest x n).d) (fz (.str "rest")) .un [] (by simp only[Tm.wfs];exact⟨hw,trivial⟩) (by simp) ts (no:=no) (st:=st);unfold F_Opener_open_term;repeat' (first|((with_reducible refine' fnx c ?_);rfl)|((with_reducible refine' fnx (qJd x.d (.int n)) ?_);rfl)|((with_reducible refine' fnx (vXv x.d (.int n) v.1.d) ?_);rfl)|(with_reducible refine' qJp lp ?_ ?_)|array_get_dec|exact qQn (qVx (.rest v.1 n)) rfl)
set_option maxHeartbeats 400000 in
theorem vJo(ih:yT hs h)(ν:Nm)(x:Tm)(n:Str)(s:Sd)(no:O)(st:List O)(q:OT×Sd)(hw:(Tm.field x n).wf)(e:qP hs (h+1) ν (.field x n) s=.ok q):
  F_Opener_open_term (h+1) [.s true (opO hs no st s),.s false (.fz (Tm.field x n).d),.s false (.fz (nmD ν))]=.ok (.fz q.1.d,[.s true (opO hs no st q.2),.un,.un]):=by
 rw[Tm.wf]at hw;obtain⟨s1,e1,e⟩:=qM (show(count s).bind _=_ from e);obtain⟨h1,rfl⟩:=zN e1;obtain⟨v,e2,e⟩:=qM e;cases e;have c:=jT (hs:=hs) (no:=no) (st:=st) h1;have ts:qVe (qP hs h ν) [x] {s with tm:=s.tm+1}=.ok ([v.1],v.2):=by
  show(qP hs h ν x _).bind _=_;rw[e2];rfl
 obtain⟨z,lp⟩:=open_loop ih [x] _ _ (fz (Tm.field x n).d) (fz (.str "field")) .un [] (by simp only[Tm.wfs];exact⟨hw,trivial⟩) (by simp) ts (no:=no) (st:=st);unfold F_Opener_open_term;repeat' (first|((with_reducible refine' fnx c ?_);rfl)|((with_reducible refine' fnx (qV8 x.d (.str n)) ?_);rfl)|((with_reducible refine' fnx (vZ8 x.d (.str n) v.1.d) ?_);rfl)|(with_reducible refine' qJp lp ?_ ?_)|array_get_dec|exact qQn (qVx (.field v.1 n)) rfl)
set_option maxHeartbeats 400000 in
theorem zVv(ih:yT hs h)(ν:Nm)(xs:List Str)(as:List Tm)(s:Sd)(no:O)(st:List O)(q:OT×Sd)(hw:(Tm.rcd xs as).wf)(e:qP hs (h+1) ν (.rcd xs as) s=.ok q):
  F_Opener_open_term (h+1) [.s true (opO hs no st s),.s false (.fz (Tm.rcd xs as).d),.s false (.fz (nmD ν))]=.ok (.fz q.1.d,[.s true (opO hs no st q.2),.un,.un]):=by
 rw[Tm.wf]at hw;obtain⟨s1,e1,e⟩:=qM (show(count s).bind _=_ from e);obtain⟨h1,rfl⟩:=zN e1;obtain⟨v,e2,e⟩:=qM e;cases e;have c:=jT (hs:=hs) (no:=no) (st:=st) h1;have hv:=qKs e2;obtain⟨z,lp⟩:=open_loop ih as _ v (fz (Tm.rcd xs as).d) (fz (.str "record")) .un [] hw.2.2 (by simp;omega) e2 (no:=no) (st:=st);have pp:=qYm xs as hw.1 hw.2.1;have fm:fzO (.ow .lst ([] ++ v.1.map fun t=>.fz t.d))=.nd .lst (v.1.map OT.d):=by
  have:=vY (k:=.lst) (v.1.map OT.d);rw[dP]at this;exact this
 have ww:vI [.s false (.fz (Tm.rcd xs as).d),.s false (.fz (fzO (.ow .lst ([] ++ v.1.map fun t=>.fz t.d))))]=.ok (.fz (OT.rcd xs v.1).d,[.un,.un]):=by rw[fm];exact zQ0 xs as v.1 hw.1 hw.2.1 hv
 unfold F_Opener_open_term;repeat' (first|((with_reducible refine' fnx c ?_);rfl)|((with_reducible refine' fnx pp ?_);rfl)|((with_reducible refine' fnx ww ?_);rfl)|(with_reducible refine' qJp lp ?_ ?_)|array_get_dec|exact vQu _|exact qQn (qVx (.rcd xs v.1)) rfl)
end

section
variable{hs:Hs}{h:Nat}
noncomputable def bindO(bs:List (Int×OT)):List O:=bs.map fun b=>.fz (.tup [.int b.1,b.2.d])
theorem zXt(own:Nm):fzO (.ow (.dct (qH Sum.inr own)) (own.map fun p=>.fz (nmv p)))=nmD own:=by
 have:=vY (k:=.dct (qH Sum.inr own)) (own.map nmv);rw[dP]at this;exact this
theorem zKw{own:Nm}{x:Str}{i:Int}{a:O}{x1 x2 x3:Slot}(e:getA own x=some i):oV (oIx (oN 4) (oN 6)) [.s io a,x1,x2,x3,.s false (.ow (.dct (qH Sum.inr own)) (own.map fun p=>.fz (nmv p))),x5,.s false (.fz (.str x)),x7,x8,x9,x10]=.ok (.int i,[.s io a,x1,x2,x3,.s false (.ow (.dct (qH Sum.inr own)) (own.map fun p=>.fz (nmv p))),x5,.s false (.fz (.str x)),x7,x8,x9,x10]):=by
 obtain⟨j,h1,_,h3⟩:=qWw inr_inj nmv e;refine zR (h1:=.d (.int i)) (e:=[.s io a,x1,x2,x3,.s false (.ow (.dct (qH Sum.inr own)) (own.map fun p=>.fz (nmv p))),x5,.s false (.fz (.str x)),x7,x8,x9,x10]) ?_ rfl;refine xX (h1:=.p 4 []) (h2:=.d (.str x)) rfl rfl rfl (y:=.str x) rfl ?_ rfl;show(((some (Sum.inr x:Key)).bind fun k=>kidx k (qH Sum.inr own)).bind fun j=>((own.map fun p=>O.fz (nmv p))[j]?).bind fun o=>some (hnO o 4 ([] ++ [j])))=_;rw[bH,h1,bH,h3];rfl
set_option maxHeartbeats 400000 in
theorem vY8(ih:yT hs h){own:Nm}{x:Str}{t:Tm}{s s1:Sd}{st:List O}{bs:List (Int×OT)}{k3:Slot}(hw:t.wf)(ho:own.length<=1000)(hb:bs.length<=1000)(e1:count s=.ok s1)(e2:qP hs h ν t s1=.ok q):
  zX (F_Opener_open_term h) [.s true (opO hs no st s),a,.s false (.fz (nmD ν)),k3,.s false (.ow (.dct (qH Sum.inr own)) (own.map fun p=>.fz (nmv p))),.s false (.ow .lst (bindO bs)),.s false (.fz (.str x)),.s false (.fz t.d),x8,x9,x10]=
   .ok (.nx [.s true (opO hs no st {q.2 with sl:=q.2.sl+1}),a,.s false (.fz (nmD ν)),k3,.s false (.ow (.dct (qH Sum.inr (putA own x q.2.sl))) ((putA own x q.2.sl).map fun p=>.fz (nmv p))),.s false (.ow .lst (bindO (bs ++ [(q.2.sl,q.1)]))),.s false (.fz (.str x)),.s false (.fz t.d),.s false (.fz q.1.d),x9,x10]):=by
 obtain⟨h1,rfl⟩:=zN e1;have c:=jT (hs:=hs) (no:=no) (st:=st) h1;have c1:=ih ν t _ no st q hw e2;have sl:=vQh (hs:=hs) (no:=no) (st:=st) (s:=q.2);have ap:apF (bindO bs) (.fz (.tup [.int q.2.sl,q.1.d]))=some (.fz .non,bindO (bs ++ [(q.2.sl,q.1)])):=by
  unfold apF;rw[decide_eq_true (show(bindO bs).length <=lim by unfold bindO;rw[aW];exact aM hb (show 1000<=1000000 by decide))];unfold bindO;rw[bG];rfl
 have dl:decide ((own.map fun p=>O.fz (nmv p)).length <=lim)=true:=decide_eq_true (by rw[aW];exact aM ho (show 1000<=1000000 by decide))
 have put:sPutA (pOf (oN 4)) (pOf (oN 6)) (jO 2 "new_slot" vF (.io 0) []) [.s true (opO hs no st q.2),a,.s false (.fz (nmD ν)),k3,.s false (.ow (.dct (qH Sum.inr own)) (own.map fun p=>.fz (nmv p))),.s false (.ow .lst (bindO bs)),.s false (.fz (.str x)),.s false (.fz t.d),.s false (.fz q.1.d),x9,x10]=
   .ok (.nx [.s true (opO hs no st {q.2 with sl:=q.2.sl+1}),a,.s false (.fz (nmD ν)),k3,.s false (.ow (.dct (qH Sum.inr (putA own x q.2.sl))) ((putA own x q.2.sl).map fun p=>.fz (nmv p))),.s false (.ow .lst (bindO bs)),.s false (.fz (.str x)),.s false (.fz t.d),.s false (.fz q.1.d),x9,x10]):=by
  rw[←qK7 inr_inj nmv];repeat' (first|((with_reducible refine' fnx sl ?_);rfl)|array_get_dec|exact dl)
 have gx:getA (putA own x q.2.sl) x=some q.2.sl:=by rw[jS,if_pos rfl]
 unfold zX;refine vT (o:=.fz .non) (e:=[.s true (opO hs no st {s with tm:=s.tm+1}),a,.s false (.fz (nmD ν)),k3,.s false (.ow (.dct (qH Sum.inr own)) (own.map fun p=>.fz (nmv p))),.s false (.ow .lst (bindO bs)),.s false (.fz (.str x)),.s false (.fz t.d),x8,x9,x10]) ?_ ?_
 ·repeat' (first|((with_reducible refine' fnx c ?_);rfl)|array_get_dec)
 refine qJ (o:=.fz q.1.d) (e:=[.s true (opO hs no st q.2),a,.s false (.fz (nmD ν)),k3,.s false (.ow (.dct (qH Sum.inr own)) (own.map fun p=>.fz (nmv p))),.s false (.ow .lst (bindO bs)),.s false (.fz (.str x)),.s false (.fz t.d),x8,x9,x10]) ?_ ?_
 ·repeat' (first|((with_reducible refine' fnx c1 ?_);rfl)|array_get_dec)
 refine qJk put rfl ?_
 refine wB (xF (i:=5) (π:=[]) (x:=.fz (.tup [.int q.2.sl,q.1.d])) rfl rfl (xU (qQr (qR (zKw gx) (qR rfl (zM rfl) rfl) rfl) rfl rfl) rfl) rfl rfl ap rfl) rfl
theorem call_loop(ih:yT hs h){no:O}{st:List O}{a k3 x9 x10:Slot}:∀(xs:List Str) (ts:List Tm) (s:Sd) (own:Nm) (bs:List (Int×OT)) (q:Nm×List (Int×OT)×Sd) (x6 x7 x8:Slot),Tm.wfs ts->own.length+ts.length<=1000->bs.length+ts.length<=1000->zD (qP hs h ν) xs ts s own bs=.ok q->
  ∃y6 y7 y8,forS (gT 2 (gCn (gN 6) (gCn (gN 7) gNl))) (zX (F_Opener_open_term h)) (zipD (xs.map .str) (Tm.ds ts)) [.s true (opO hs no st s),a,.s false (.fz (nmD ν)),k3,.s false (.ow (.dct (qH Sum.inr own)) (own.map fun p=>.fz (nmv p))),.s false (.ow .lst (bindO bs)),x6,x7,x8,x9,x10]=
   .ok (.nx [.s true (opO hs no st q.2.2),a,.s false (.fz (nmD ν)),k3,.s false (.ow (.dct (qH Sum.inr q.1)) (q.1.map fun p=>.fz (nmv p))),.s false (.ow .lst (bindO q.2.1)),y6,y7,y8,x9,x10])
 |[],ts,s,own,bs,q,x6,x7,x8,_,_,_,e=>by cases e;exact⟨x6,x7,x8,rfl⟩
 |x::xs,[],s,own,bs,q,x6,x7,x8,_,_,_,e=>by cases e;exact⟨x6,x7,x8,rfl⟩
 | x::xs,t::ts,s,own,bs,q,x6,x7,x8,hw,ho,hb,e=>by
   rw[aK]at ho hb;obtain⟨s1,e1,e⟩:=qM (show(count s).bind _=_ from e);obtain⟨v,e2,e⟩:=qM e;have hl:=wD (l:=own) (i:=x) (v:=v.2.sl);obtain⟨y6,y7,y8,hy⟩:=call_loop ih (x9:=x9) (x10:=x10) (a:=a) (k3:=k3) (no:=no) (st:=st) xs ts _ _ _ q (.s false (.fz (.str x))) (.s false (.fz t.d)) (.s false (.fz v.1.d)) hw.2 (by omega) (by rw[aU];simp;omega) e;refine⟨y6,y7,y8,?_⟩;exact vU rfl (vY8 ih hw.1 (by omega) (by omega) e1 e2) hy
theorem wrap_loop{R:Fn}{a0 a1 a2 a3 a4 a5 a6 a7:Slot}:∀(bs:List (Int×OT)) (w:OT) (x8 x10:Slot),∃y8 y10,forS (gT 2 (gCn (gN 10) (gCn (gN 8) gNl))) (xD R) (bs.map fun b=>.tup [.int b.1,b.2.d]) [a0,a1,a2,a3,a4,a5,a6,a7,x8,.s false (.fz w.d),x10]=
   .ok (.nx [a0,a1,a2,a3,a4,a5,a6,a7,y8,.s false (.fz (bs.foldl (fun w b=>OT.bind b.1 b.2 w) w).d),y10])
 |[],w,x8,x10=>⟨x8,x10,rfl⟩
 | b::bs,w,x8,x10=>by
   obtain⟨y8,y10,hy⟩:=wrap_loop (R:=R) (a0:=a0) (a1:=a1) (a2:=a2) (a3:=a3) (a4:=a4) (a5:=a5) (a6:=a6) (a7:=a7) bs (.bind b.1 b.2 w) (.s false (.fz b.2.d)) (.s false (.fz (.int b.1)));refine⟨y8,y10,?_⟩;refine vU rfl ?_ hy;exact qXc (o:=.fz (OT.bind b.1 b.2 w).d) (e:=[a0,a1,a2,a3,a4,a5,a6,a7,.s false (.fz b.2.d),.s false (.fz w.d),.s false (.fz (.int b.1))]) rfl rfl
noncomputable def okHs(hs:Hs):Prop:=∀p∈hs,p.2.2.wf
theorem okHs.get{p:List Str×Tm}(hw:okHs hs)(e:getA hs f=some p):p.2.wf:=by
 induction hs with
 |nil=>cases e
 | cons q r ih=>
   unfold getA at e;by_cases z:q.1=f
   ·rw[if_pos z]at e;cases e;exact hw q (by simp)
   ·rw[if_neg z]at e;exact ih (fun p hp=>hw p (aO _ hp)) e
end

section
variable{hs:Hs}{h:Nat}
theorem vYq{p:List Str×Tm}{st:List O}{s:Sd}{as:List Tm}{x2 x3 x4 x6:Slot}(e:getA hs f=some p):oV (oIx (oFld [2] "helpers" (oN 0)) (oIx (oN 1) (oC (.int 1)))) [.s true (opO hs no st s),.s false (.fz (Tm.call f as).d),x2,x3,x4,x5,x6,x7,x8,x9,x10]=.ok (rowD (f,p),[.s true (opO hs no st s),.s false (.fz (Tm.call f as).d),x2,x3,x4,x5,x6,x7,x8,x9,x10]):=by
 obtain⟨j,h1,_,h3⟩:=qWw inr_inj rowD e;refine zR (h1:=.d (rowD (f,p))) (e:=[.s true (opO hs no st s),.s false (.fz (Tm.call f as).d),x2,x3,x4,x5,x6,x7,x8,x9,x10]) ?_ rfl;refine xX (h1:=.p 0 [0]) (h2:=.d (.str f)) (e:=[.s true (opO hs no st s),.s false (.fz (Tm.call f as).d),x2,x3,x4,x5,x6,x7,x8,x9,x10]) (e1:=[.s true (opO hs no st s),.s false (.fz (Tm.call f as).d),x2,x3,x4,x5,x6,x7,x8,x9,x10]) (by kernel_rfl) (by kernel_rfl) rfl (y:=.str f) rfl ?_ rfl;show(((some (Sum.inr f:Key)).bind fun k=>kidx k (qH Sum.inr hs)).bind fun j=>((hs.map fun p=>O.fz (rowD p))[j]?).bind fun o=>some (hnO o 0 ([0] ++ [j])))=_;rw[bH,h1,bH,h3];rfl
theorem vQ9(hh:okHs hs)(ih:yT hs h)(ν:Nm)(f:Str)(as:List Tm)(s:Sd)(no:O)(st:List O)(p:List Str×Tm)(q:Nm×List (Int×OT)×Sd)(w:OT×Sd)(hw:(Tm.call f as).wf)(e0:getA hs f=some p)(e1:zD (qP hs h ν) p.1 as s [] []=.ok q)(e2:qP hs h q.1 p.2 q.2.2=.ok w):
  wQ (F_Opener_open_term h) [.s true (opO hs no st s),.s false (.fz (Tm.call f as).d),.s false (.fz (nmD ν))]=.ok (.fz (qKb q.2.1 w.1).d,[.s true (opO hs no st w.2),.un,.un]):=by
 rw[Tm.wf]at hw;obtain⟨y6,y7,y8,lp⟩:=call_loop ih (x9:=.un) (x10:=.un) (a:=.s false (.fz (Tm.call f as).d)) (k3:=.s false (.fz (rowD (f,p)))) (no:=no) (st:=st) p.1 as s [] [] q .un .un .un hw.2 (by simp;omega) (by simp;omega) e1;have c2:=ih q.1 p.2 q.2.2 no st w (hh.get e0) e2;have c2' :=c2;obtain⟨z8,z10,wl⟩:=wrap_loop (R:=F_Opener_open_term h) (a0:=.s true (opO hs no st w.2)) (a1:=.s false (.fz (Tm.call f as).d)) (a2:=.s false (.fz (nmD ν))) (a3:=.s false (.fz (rowD (f,p)))) (a4:=.s false (.fz (nmD q.1))) (a5:=.s false (.fz (fzO (.ow .lst (bindO q.2.1))))) (a6:=y6) (a7:=y7) q.2.1.reverse w.1 y8 .un;have bf:fzO (.ow .lst (bindO q.2.1))=.nd .lst (q.2.1.map fun b=>.tup [.int b.1,b.2.d]):=by
  have:=vY (k:=.lst) (q.2.1.map fun b=>D.tup [.int b.1,b.2.d]);rw[dP]at this;exact this
 have wr:(q.2.1.reverse.foldl (fun w b=>OT.bind b.1 b.2 w) w.1)=qKb q.2.1 w.1:=by
  unfold qKb;grind
 rw[wr]at wl;refine vW (o:=.rt (.fz (qKb q.2.1 w.1).d) [.s true (opO hs no st w.2),.s false (.fz (Tm.call f as).d),.s false (.fz (nmD ν)),.s false (.fz (rowD (f,p))),.s false (.fz (nmD q.1)),.s false (.fz (fzO (.ow .lst (bindO q.2.1)))),y6,y7,z8,.un,z10]) ?_ rfl;refine qJ (o:=.fz (rowD (f,p))) (xU (vYq e0) rfl) ?_
 refine qJ (o:=.ow (.dct []) []) rfl ?_
 refine qJ (o:=.ow .lst []) rfl ?_
 refine jV (zO (ds:=zipD (p.1.map .str) (Tm.ds as)) (qZu (xs:=[.tup (p.1.map .str),.tup (Tm.ds as)]) (qR rfl (qR rfl (zM rfl) rfl) rfl) rfl rfl) lp) ?_
 refine qJ (o:=.fz w.1.d) (e:=[.s true (opO hs no st w.2),.s false (.fz (Tm.call f as).d),.s false (.fz (nmD ν)),.s false (.fz (rowD (f,p))),.s false (.fz (nmD q.1)),.s false (.ow .lst (bindO q.2.1)),y6,y7,y8,.un,.un]) ?_ ?_
 ·refine qQu (h0:= .p 0 []) rfl (by kernel_rfl) (hs:=[.d p.2.d, .d (nmD q.1)]) (e1:=[.s true (opO hs no st q.2.2), .s false (.fz (Tm.call f as).d), .s false (.fz (nmD ν)), .s false (.fz (rowD (f,p))), .s false (.fz (nmD q.1)), .s false (.ow .lst (bindO q.2.1)),y6,y7,y8, .un, .un]) ?_ ?_
  ·refine vH (d:=p.2.d) rfl (vH (d:=nmD q.1) (e:=[.s true (opO hs no st q.2.2), .s false (.fz (Tm.call f as).d), .s false (.fz (nmD ν)), .s false (.fz (rowD (f,p))), .s false (.fz (nmD q.1)), .s false (.ow .lst (bindO q.2.1)),y6,y7,y8, .un, .un]) ?_ (vG rfl) rfl) rfl;have g:∀e:Ev,e=[.s true (opO hs no st q.2.2),.s false (.fz (Tm.call f as).d),.s false (.fz (nmD ν)),.s false (.fz (rowD (f,p))),.s false (.ow (.dct (qH Sum.inr q.1)) (q.1.map fun p=>.fz (nmv p))),.s false (.ow .lst (bindO q.2.1)),y6,y7,y8,.un,.un]->oV (oN 4) e=.ok (nmD q.1,[.s true (opO hs no st q.2.2),.s false (.fz (Tm.call f as).d),.s false (.fz (nmD ν)),.s false (.fz (rowD (f,p))),.s false (.fz (nmD q.1)),.s false (.ow .lst (bindO q.2.1)),y6,y7,y8,.un,.un]):=fun e he=>by
    rw[←zXt,he];rfl
   exact g _ rfl
  ·exact qO rfl rfl rfl c2 rfl rfl rfl
 have rv:rvL [.nd .lst (q.2.1.map fun b=>.tup [.int b.1,b.2.d])]=some (q.2.1.reverse.map fun b=>D.tup [.int b.1,b.2.d]):=by
  show some (List.reverse _)=_;simp_all
 refine jV (zO (ds:=q.2.1.reverse.map fun b=>D.tup [.int b.1,b.2.d]) (e:=[.s true (opO hs no st w.2),.s false (.fz (Tm.call f as).d),.s false (.fz (nmD ν)),.s false (.fz (rowD (f,p))),.s false (.fz (nmD q.1)),.s false (.fz (fzO (.ow .lst (bindO q.2.1)))),y6,y7,y8,.s false (.fz w.1.d),.un]) (qZu (xs:=[.nd .lst (q.2.1.map fun b=>.tup [.int b.1,b.2.d])]) ?_ rv rfl) wl) ?_
 ·rw[←bf];exact qR rfl (zM rfl) rfl
 ·exact qZ6 rfl rfl
theorem vW1(hh:okHs hs):∀h:Nat,yT hs h
 | 0=>fun ν t s no st q _ e=>by cases e
 | h + 1=>fun ν t s no st q hw e=>by
   have ih:=vW1 hh h;cases t with
   |num n=>exact qZm ν _ s no st q (.inl ⟨n,rfl⟩) e
   |name x=>exact qZm ν _ s no st q (.inr (.inl ⟨x,rfl⟩)) e
   |flip a b=>exact qZm ν _ s no st q (.inr (.inr (.inl ⟨a,b,rfl⟩))) e
   |pick ps=>exact qZm ν _ s no st q (.inr (.inr (.inr ⟨ps,rfl⟩))) e
   |op g x y=>exact zWf ih ν g x y s no st q hw e
   |rest x n=>exact vYe ih ν x n s no st q hw e
   |field x n=>exact vJo ih ν x n s no st q hw e
   |ite c x y=>exact zVw ih ν c x y s no st q hw e
   |rcd xs as=>exact zVv ih ν xs as s no st q hw e
   | call f as=>
     have e' :(match getA hs f with|none=>Res.no|some p=>(zD (qP hs h ν) p.1 as s [] []).bind fun q=>(qP hs h q.1 p.2 q.2.2).bind fun w=>.ok (qKb q.2.1 w.1,w.2))=.ok q:=e;cases e0:getA hs f with
     |none=>rw[e0]at e';cases e'
     | some p=>
       rw[e0]at e';obtain⟨r,e1,e'⟩:=qM e';obtain⟨w,e2,e'⟩:=qM e';cases e';have c:=vQ9 hh ih ν f as s no st p r w hw e0 e1 e2;unfold F_Opener_open_term;repeat' (first|((with_reducible refine' fnx c ?_);rfl)|array_get_dec)
end

noncomputable def Tm.parts:Tm->List Tm
 |.op _ a b=> [a,b]
 |.rest a _=> [a]
 |.field a _=> [a]
 |.ite c a b=> [c,a,b]
 |.rcd _ as=>as
 |.call _ as=>as
 |_=> []
theorem qKr(n:D):qI [.s false (.fz (.tup [.str "num",n]))]=.ok (.ow .lst [],[.un]):=by kernel_rfl
theorem vJk(n:D):qI [.s false (.fz (.tup [.str "name",n]))]=.ok (.ow .lst [],[.un]):=by kernel_rfl
theorem vJl(a b:D):qI [.s false (.fz (.tup [.str "flip",a,b]))]=.ok (.ow .lst [],[.un]):=by kernel_rfl
theorem vJj(a:D):qI [.s false (.fz (.tup [.str "pick",a]))]=.ok (.ow .lst [],[.un]):=by kernel_rfl
theorem vJn(f:D)(ds:List D):qI [.s false (.fz (.tup [.str "call",f,.tup ds]))]=.ok (.ow .lst (ds.map .fz),[.un]):=by kernel_rfl
theorem zVu(t:Tm)(hw:t.wf):qI [.s false (.fz t.d)]=.ok (.ow .lst ((Tm.ds t.parts).map .fz),[.un]):=by
 cases t with
 |num n=>exact qKr _
 |name x=>exact vJk _
 |flip a b=>exact vJl _ _
 |pick ps=>exact vJj _
 |op g a b=>exact qYa _ _ _
 |rest a n=>exact qJd _ _
 |field a x=>exact qV8 _ _
 |ite c a b=>exact qWj _ _ _
 |rcd xs as=>rw[Tm.wf]at hw;exact qYm xs as hw.1 hw.2.1
 |call f as=>exact vJn _ _
mutual
def Tm.h:Tm->Nat
 |.num _=>1
 |.name _=>1
 |.flip _ _=>1
 |.pick _=>1
 |.op _ a b=>max a.h b.h+1
 |.rest a _=>a.h+1
 |.field a _=>a.h+1
 |.ite c a b=>max c.h (max a.h b.h)+1
 |.rcd _ as=>Tm.hs as+1
 |.call _ as=>Tm.hs as+1
def Tm.hs:List Tm->Nat
 |[]=>0
 |a::r=>max a.h (Tm.hs r)
end
theorem zWd(t:Tm):Tm.hs t.parts+1<=t.h:=by
 cases t <;> simp only[Tm.parts,Tm.h,Tm.hs] <;> omega
theorem zVt(t:Tm)(h:t.wf):Tm.wfs t.parts:=by
 cases t <;> simp only[Tm.wf]at h⊢ <;> first|trivial|exact⟨h,trivial⟩|exact⟨h.1,h.2,trivial⟩|exact⟨h.1,h.2.1,h.2.2,trivial⟩|exact h.2.2|exact h.2
mutual
def chkT(kn:Str->Bool)(hl:Nm):Tm->Bool
 |.num _=>true
 |.name x=>kn x
 |.flip _ _=>true
 |.pick _=>true
 |.op _ a b=>chkT kn hl a && chkT kn hl b
 |.rest a _=>chkT kn hl a
 |.field a _=>chkT kn hl a
 |.ite c a b=>chkT kn hl c && (chkT kn hl a && chkT kn hl b)
 |.rcd _ as=>chkTs kn hl as
 |.call f as=>decide (getA hl f=some (as.length:Int)) && chkTs kn hl as
def chkTs(kn:Str->Bool)(hl:Nm):List Tm->Bool
 |[]=>true
 |a::r=>chkT kn hl a && chkTs kn hl r
end
theorem vY7{kn:Str->Bool}{hl:Nm}(t:Tm)(h:chkT kn hl t=true):chkTs kn hl t.parts=true:=by
 cases t <;> simp_all[Tm.parts,chkT,chkTs]
theorem zK8{hl:Nm}{n:Int}(h:getA hl f=some n):vJ9 e (Sum.inr f) (.d (nmD hl))=some (some (.int n)):=by
 obtain⟨j,h1,h2,_⟩:=qWw inr_inj nmv h;show(match kidx (Sum.inr f:Key) (qH Sum.inr hl) with|some j=>((hl.map nmv)[j]?).bind fun d=>some (some d)|none=>some none)=_;rw[h1];show((hl.map nmv)[j]?).bind _=_;rw[h2];rfl
section
variable{kn:Str->Bool}{hl:Nm}{nd r:D}
noncomputable def zX8(kn:Str->Bool)(hl:Nm)(nd r:D)(h:Nat):Prop:=∀t:Tm,t.h<=h->t.wf->chkT kn hl t=true->vE h [.s false (.fz r),.s false (.fz t.d),.s false (.fz nd),.s false (.fz (nmD hl))]=.ok (.fz .non,[.un,.un,.un,.un])
theorem chk_loop{h:Nat}(ih:zX8 kn hl nd r h){a k:Slot}:∀(ts:List Tm) (x5:Slot),Tm.hs ts<=h->Tm.wfs ts->chkTs kn hl ts=true->
  ∃y,forS (gN 5) (jP (vE h)) (Tm.ds ts) [.s false (.fz r),a,.s false (.fz nd),.s false (.fz (nmD hl)),k,x5]=.ok (.nx [.s false (.fz r),a,.s false (.fz nd),.s false (.fz (nmD hl)),k,y])
 |[],x5,_,_,_=>⟨x5,rfl⟩
 | t::ts,x5,lh,hw,hc=>by
   rw[Tm.hs]at lh;rw[Tm.wfs]at hw;rw[chkTs,aD]at hc;have c:=ih t (by omega) hw.1 hc.1;obtain⟨y,hy⟩:=chk_loop ih (a:=a) (k:=k) ts (.s false (.fz t.d)) (by omega) hw.2 hc.2;refine⟨y,?_⟩;rw[Tm.ds];refine vU rfl ?_ hy;unfold jP;repeat' (first|((with_reducible refine' fnx c ?_);rfl)|array_get_dec)
set_option maxHeartbeats 400000 in
theorem vZ6(hn:∀x,kn x=true->inB (.str x) nd=some true):∀h:Nat,zX8 kn hl nd r h
 | 0=>fun t lh _ _=>by
   exfalso
   cases t <;> simp only[Tm.h]at lh <;> omega
 | h + 1=>fun t lh hw hc=>by
   have ih:=vZ6 hn h
   have pp:=zVu t hw
   have ph:=zWd t
   have lpx:∀a k x5,∃y,forS (gN 5) (jP (vE h)) (Tm.ds t.parts) [.s false (.fz r),a,.s false (.fz nd),.s false (.fz (nmD hl)),k,x5]=.ok (.nx [.s false (.fz r),a,.s false (.fz nd),.s false (.fz (nmD hl)),k,y]):=fun a k x5=>chk_loop ih t.parts x5 (by omega) (zVt t hw) (vY7 t hc)
   have key:∀kd:Str,(sIf (bAnd (asB (o2 eqD (oN 4) (oC (.str "name")))) (asB (o2 niD (oIx (oN 1) (oC (.int 1))) (oN 2)))) sNo sNil) [fz r,fz t.d,fz nd,fz (nmD hl),fz (.str kd),.un]=.ok (.nx [fz r,fz t.d,fz nd,fz (nmD hl),fz (.str kd),.un])->
     (sIf (bAnd (asB (o2 eqD (oN 4) (oC (.str "call")))) (asB (o2 neF (.v (qK4 (pOf (oN 3)) (pOf (oIx (oN 1) (oC (.int 1)))))) (oL lenD [(oIx (oN 1) (oC (.int 2)))])))) sNo sNil) [fz r,fz t.d,fz nd,fz (nmD hl),fz (.str kd),.un]=.ok (.nx [fz r,fz t.d,fz nd,fz (nmD hl),fz (.str kd),.un])->
     oV (oIx (oN 0 |> fun _=>oN 1) (oC (.int 0))) [fz r,fz t.d,fz nd,fz (nmD hl),.un,.un]=.ok (.str kd,[fz r,fz t.d,fz nd,fz (nmD hl),.un,.un])->vE (h+1) [.s false (.fz r),.s false (.fz t.d),.s false (.fz nd),.s false (.fz (nmD hl))]=.ok (.fz .non,[.un,.un,.un,.un]):=fun kd k1 k2 k0=>by
    obtain⟨y,lp⟩:=lpx (fz t.d) (fz (.str kd)) .un
    have b:sFor (iV (fzS (qN qI [(.v (oV (oN 1)))]))) (gN 5) (jP (vE h)) [fz r,fz t.d,fz nd,fz (nmD hl),fz (.str kd),.un]=.ok (.nx [fz r,fz t.d,fz nd,fz (nmD hl),fz (.str kd),y]):=by
     refine zO (ds:=Tm.ds t.parts) (e:=[fz r,fz t.d,fz nd,fz (nmD hl),fz (.str kd),.un]) (qZt (d:=.nd .lst (Tm.ds t.parts)) (wV (o:=.ow .lst ((Tm.ds t.parts).map .fz)) (vK (vH rfl (vG rfl) rfl) (qO rfl rfl rfl pp rfl rfl rfl)) (by rw[vY];rfl)) rfl rfl) lp
    unfold vE
    exact vW (qJ (xU k0 rfl) (qJk k1 rfl (qJk k2 rfl (sAt b rfl)))) rfl
   cases t with
   |num n=>exact key "num" rfl rfl rfl
   |flip a b=>exact key "flip" rfl rfl rfl
   |pick ps=>exact key "pick" rfl rfl rfl
   |op g a b=>exact key "op" rfl rfl rfl
   |rest a n=>exact key "rest" rfl rfl rfl
   |field a x=>exact key "field" rfl rfl rfl
   |ite c a b=>exact key "if" rfl rfl rfl
   |rcd xs as=>exact key "record" rfl rfl rfl
   | name x=>
     rw[chkT]at hc
     have i:=hn x hc
     have ni:niD (.str x) nd=some (.bl false):=by unfold niD;rw[i];rfl
     refine key "name" ?_ rfl rfl
     repeat' (first|array_get_dec|exact ni)
   | call f as=>
     rw[chkT,aD]at hc
     have g:=of_decide_eq_true hc.1
     have ne:(!(((as.length:Nat):Int) == ((Tm.ds as).length :Nat)))=false:=by rw[qZf,aW];simp
     refine key "call" rfl ?_ rfl
     have gt:qK4 (pOf (oN 3)) (pOf (oIx (oN 1) (oC (.int 1)))) [fz r,fz (Tm.call f as).d,fz nd,fz (nmD hl),fz (.str "call"),.un]=.ok (.int (as.length:Nat),[fz r,fz (Tm.call f as).d,fz nd,fz (nmD hl),fz (.str "call"),.un]):=by
      have:=zK8 (e:=[fz r,fz (Tm.call f as).d,fz nd,fz (nmD hl),fz (.str "call"),.un]) g
      show(opt (vJ9 _ (Sum.inr f) (.d (nmD hl)))).bind _=_
      rw[this];rfl
     refine vR (q:=false) (e:=[fz r,fz (Tm.call f as).d,fz nd,fz (nmD hl),fz (.str "call"),.un]) (yJ (q:=true) (e:=[fz r,fz (Tm.call f as).d,fz nd,fz (nmD hl),fz (.str "call"),.un]) rfl ?_) rfl
     refine xG (d:=.bl (!(((as.length:Nat):Int) == ((Tm.ds as).length :Nat)))) (zR (zK (jG gt rfl) rfl rfl rfl rfl rfl rfl) rfl) rfl ?_
     rw[ne]
end

inductive Rw where
 |df (f:Str) (ps:List Str) (b:Tm)|lt (x:Str) (t:Tm)|ag (n:Int) (x:Str) (t:Tm)|see (t:Tm)|ask (t:Tm)
noncomputable def Rw.d:Rw->D
 |.df f ps b=>rowD (f,(ps,b))
 |.lt x t=>.tup [.str "let",.str x,t.d]
 |.ag n x t=>.tup [.str "again",.int n,.str x,t.d]
 |.see t=>.tup [.str "see",t.d]
 |.ask t=>.tup [.str "ask",t.d]
noncomputable def Rw.t:Rw->Tm
 |.df _ _ b=>b
 |.lt _ t=>t
 |.ag _ _ t=>t
 |.see t=>t
 |.ask t=>t
noncomputable abbrev Kn:=List (Str×Unit)
noncomputable abbrev knv:Str×Unit->D:=fun _=>.bl true
noncomputable def knD(kn:Kn):D:=.nd (.dct (qH Sum.inr kn)) (kn.map knv)
noncomputable def knO(kn:Kn):O:=.ow (.dct (qH Sum.inr kn)) (kn.map fun p=>.fz (knv p))
noncomputable def nmO(ν:Nm):O:=.ow (.dct (qH Sum.inr ν)) (ν.map fun p=>.fz (nmv p))
theorem jVi(kn:Kn):fzO (knO kn)=knD kn:=by
 have:=vY (k:=.dct (qH Sum.inr kn)) (kn.map knv);rw[dP]at this;exact this
theorem vZ2(ν:Nm):fzO (nmO ν)=nmD ν:=zXt ν
noncomputable def qQj(kn:Kn)(x:Str):Bool:=(getA kn x).isSome
theorem zK4{l:List (Str×α)}{ds:List D}{x:Str}:inB (.str x) (.nd (.dct (qH Sum.inr l)) ds)=some (getA l x).isSome :=by
 show some (kidx (Sum.inr x:Key) (qH Sum.inr l)).isSome =_;cases e:getA l x with
 |none=>rw[qJe inr_inj e];rfl
 | some v=>
   obtain⟨j,h1,_⟩:=qWw inr_inj (fun _=>D.non) e;rw[h1];rfl
theorem qYk:∀ps:List Str,allV (ps.map .str)=some (ps.map V.str)
 |[]=>rfl
 | p::ps=>by
   show((some (V.str p)).bind fun v=>(allV (ps.map .str)).bind fun vs=>some (v::vs))=_;rw[qYk ps];rfl
theorem vW4(x:Str):∀ps:List Str,x∈ps->inV (.str x) (ps.map V.str)=true
 |[],h=>by cases h
 | p::ps,h=>by
   unfold inV;simp only[aS,dC,Bool.or_eq_true];rcases aG.mp h with rfl|h
   ·left;show(x == x)=true;simp
   ·right;have:=vW4 x ps h;unfold inV at this;exact this
theorem zWx{x:Str}{ps:List Str}(h:x∈ps):inB (.str x) (.tup (ps.map .str))=some true:=by
 show((some (V.str x)).bind fun v=>(allV (ps.map .str)).bind fun vs=>some (inV v vs))=_;rw[qYk];show some (inV (.str x) (ps.map V.str))=_;rw[vW4 x ps h]
theorem putG{κ:Type}[DecidableEq κ]{kx:κ->Key}(inj:∀a b,kx a=kx b->a=b){i:Nat}{k:SP}{a:SE}{x:κ}{y:D}{l:List (κ×α)}{v:α}{dv:κ×α->D}(h1:a env=.ok (.fz (dv (x,v)),e))(hs:e[i]?=some (.s io (.ow (.dct (qH kx l)) (l.map fun p=>.fz (dv p)))))(h2:k e=some hk)(h3:rsv e hk=some y)(h4:qVl y=some (kx x))(hl:l.length<=1000):
  sPutA (pOf (oN i)) k a env=.ok (.nx (e.set i (.s io (.ow (.dct (qH kx (putA l x v))) ((putA l x v).map fun p=>.fz (dv p)))))):=by
 have dl:decide ((l.map fun p=>O.fz (dv p)).length <=lim)=true:=decide_eq_true (by rw[aW];exact aM hl (show 1000<=1000000 by decide));have g:getE e i []=some (.ow (.dct (qH kx l)) (l.map fun p=>.fz (dv p))):=by unfold getE;rw[hs];rfl
 refine qK8 (o:=.nx (setE e i [] (putO (qH kx l) (l.map fun p=>.fz (dv p)) (kx x) (.fz (dv (x,v)))))) (qXe (i:=i) (π:=[]) (q:=(qH kx l,l.map fun p=>.fz (dv p))) (key:=kx x) h1 ?_ h2 h3 h4 ?_ dl rfl) ?_
 ·show vJ4 i e=_;unfold vJ4;rw[hs];rfl
 ·unfold qXt;rw[g]
 ·rw [qK7 inj dv];unfold setE;rw[hs];rfl
theorem qKq{i:Nat}{k:SP}{a:SE}{x:Str}{l:List (Str×α)}{v:α}{dv:Str×α->D}(h1:a env=.ok (.fz (dv (x,v)),e))(hs:e[i]?=some (.s io (.ow (.dct (qH Sum.inr l)) (l.map fun p=>.fz (dv p)))))(h2:k e=some hk)(h3:rsv e hk=some (.str x))(hl:l.length<=1000):
  sPutA (pOf (oN i)) k a env=.ok (.nx (e.set i (.s io (.ow (.dct (qH Sum.inr (putA l x v))) ((putA l x v).map fun p=>.fz (dv p)))))):=putG inr_inj h1 hs h2 h3 rfl hl
noncomputable def qXz(kn:Kn)(hl:Nm):Rw->Bool
 |.df f ps b=>(getA hl f).isNone && chkT (fun x=>decide (x∈ps)) hl b
 |.ag _ x t=>qQj kn x && chkT (qQj kn) hl t
 |.lt _ t=>chkT (qQj kn) hl t
 |.see t=>chkT (qQj kn) hl t
 |.ask t=>chkT (qQj kn) hl t
noncomputable def yQ(kn:Kn):Rw->Kn
 |.lt x _=>putA kn x ()
 |_=>kn
noncomputable def yR(hl:Nm):Rw->Nm
 |.df f ps _=>putA hl f ((ps.map D.str).length :Nat)
 |_=>hl
noncomputable def wC:List Rw->Kn->Nm->Bool
 |[],_,_=>true
 |r::rs,kn,hl=>qXz kn hl r && wC rs (yQ kn r) (yR hl r)
section
variable{kn:Kn}{hl:Nm}{p:Slot}{i:Nat}
theorem zXv(x:Str)(h:qQj kn x=true):inB (.str x) (knD kn)=some true:=by
 unfold knD;rw[zK4];unfold qQj at h;rw[h]
noncomputable abbrev cE(p:Slot)(kn:Kn)(hl:Nm)(i:Nat)(d:D)(x5:Slot):Ev:=[p,.s false (knO kn),.s false (nmO hl),fz (.int (i:Nat)),fz d,x5]
end
theorem names_loop{p:Slot}:∀(rows:List Rw) (kn:Kn) (hl:Nm) (i:Nat) (x3 x4 x5:Slot),(∀r∈rows,r.t.wf/\r.t.h<=30)->kn.length+rows.length<=1000->hl.length+rows.length<=1000->wC rows kn hl=true->
  ∃e,forS (gT 2 (gCn (gN 3) (gCn (gN 4) gNl))) xH (wZ i (rows.map Rw.d)) [p,.s false (knO kn),.s false (nmO hl),x3,x4,x5]=.ok (.nx (p::e))/\e.length=5
 |[],kn,hl,i,x3,x4,x5,_,_,_,_=>⟨_,rfl,rfl⟩
 | r::rs,kn,hl,i,x3,x4,x5,hw,h1,h2,hc=>by
   change (qXz kn hl r && wC rs (yQ kn r) (yR hl r))=true at hc;rw[aD]at hc;rw[aK]at h1 h2;obtain⟨w1,w2⟩:=hw r (by simp);have l1:(yQ kn r).length <=kn.length+1:=by cases r <;> first|exact wD|(show kn.length<=_;omega)
   have l2:(yR hl r).length <=hl.length+1:=by cases r <;> first|exact wD|(show hl.length<=_;omega)
   have c0:=fun {t:Tm} {d:D} {u:Str} (hw:t.wf) (hb:t.h<=30) (hc:chkT (qQj kn) hl t=true) (el:oV (oIx (oN 4) (o1 negD (oC (.int 1)))) (cE p kn hl i d (fz (.str u)))=.ok (t.d,cE p kn hl i d (fz (.str u))))=>by
    have c:=vZ6 (kn:=qQj kn) (hl:=hl) (nd:=knD kn) (r:=.int (i:Nat)) zXv 30 t hb hw hc;rw[←vZ2,←jVi]at c;exact vK (F:=vE 30) (env:=cE p kn hl i d (fz (.str u))) (as:=[(.v (oV (oN 3))),(.v (oV (oIx (oN 4) (o1 negD (oC (.int 1)))))),(.b (pOf (oN 1))),(.b (pOf (oN 2)))]) (hs:=[.d (.int (i:Nat)),.d t.d,.p 1 [],.p 2 []]) (vH (d:=.int (i:Nat)) rfl (vH el rfl rfl) rfl) (qO rfl rfl rfl c rfl rfl rfl)
   have step:∃y5,xH (cE p kn hl i r.d x5)=.ok (.nx (cE p (yQ kn r) (yR hl r) i r.d y5)):=by
    cases r with
    | df f ps b=>
      have h:=hc.1;change ((getA hl f).isNone && chkT (fun x=>decide (x∈ps)) hl b)=true at h;rw[aD]at h;have gn:getA hl f=none:=by simpa using h.1
      have hk:(kidx (Sum.inr f:Key) (qH Sum.inr hl)).isSome =false:=by rw[qJe inr_inj gn];rfl
      have c:=vZ6 (kn:=fun x=>decide (x∈ps)) (hl:=hl) (nd:=.tup (ps.map .str)) (r:=.int (i:Nat)) (fun x hx=>zWx (of_decide_eq_true hx)) 30 b w2 w1 h.2;rw[←vZ2]at c;exact⟨fz (.str "def"),qJ (o:=.fz (.str "def")) rfl (vR (q:=true) rfl (qD (q:=(kidx (Sum.inr f:Key) (qH Sum.inr hl)).isSome) rfl (zQ hk (qF (vT (e:=cE p kn hl i (Rw.df f ps b).d (fz (.str "def"))) (vK (hs:=[.d (.int (i:Nat)),.d b.d,.d (.tup (ps.map .str)),.p 2 []]) rfl (qO rfl rfl rfl c rfl rfl rfl)) (qKq (α:=Int) (i:=2) (io:=false) (e:=cE p kn hl i (Rw.df f ps b).d (fz (.str "def"))) (l:=hl) (v:=((ps.map D.str).length :Nat)) (dv:=nmv) (hk:=.d (.str f)) rfl rfl rfl rfl (by omega)))))))⟩
    |lt x t=>exact⟨fz (.str "let"),qJ (o:=.fz (.str "let")) rfl (vR (q:=false) rfl (qD (q:=false) rfl (qF (vT (c0 w1 w2 hc.1 rfl) (vR (q:=true) rfl (jL rfl (qKq (α:=Unit) (i:=1) (io:=false) (e:=cE p kn hl i (Rw.lt x t).d (fz (.str "let"))) (l:=kn) (v:=()) (dv:=knv) (hk:=.d (.str x)) rfl rfl rfl rfl (by omega))))))))⟩
    | ag n x t=>
      have h:=hc.1;change (qQj kn x && chkT (qQj kn) hl t)=true at h;rw[aD]at h;have hk:(!(kidx (Sum.inr x:Key) (qH Sum.inr kn)).isSome)=false:=by
       have:=zXv x h.1;change some (kidx (Sum.inr x:Key) (qH Sum.inr kn)).isSome =some true at this;rw[Option.some.inj this];rfl
      exact⟨_,qJ (o:=.fz (.str "again")) rfl (vR (q:=false) rfl (qD (q:= !(kidx (Sum.inr x:Key) (qH Sum.inr kn)).isSome) rfl (zQ hk (qF (vT (c0 w1 w2 h.2 rfl) rfl)))))⟩
    |see t=>exact⟨_,qJ (o:=.fz (.str "see")) rfl (vR (q:=false) rfl (qD (q:=false) rfl (qF (vT (c0 w1 w2 hc.1 rfl) rfl))))⟩
    |ask t=>exact⟨_,qJ (o:=.fz (.str "ask")) rfl (vR (q:=false) rfl (qD (q:=false) rfl (qF (vT (c0 w1 w2 hc.1 rfl) rfl))))⟩
   obtain⟨y5,hs⟩:=step;obtain⟨e,he,le⟩:=names_loop (p:=p) rs (yQ kn r) (yR hl r) (i+1) (fz (.int (i:Nat))) (fz r.d) y5 (fun q hq=>hw q (aO _ hq)) (by omega) (by omega) hc.2;exact⟨e,vU rfl hs he,le⟩
theorem zV1(rows:List Rw)(hw:∀r∈rows,r.t.wf/\r.t.h<=30)(hl:rows.length<=1000)(hc:wC rows [] []=true):xP [fz (.nd .lst (rows.map Rw.d))]=.ok (.fz .non,[.un]):=by
 obtain⟨e,he,le⟩:=names_loop (p:=fz (.nd .lst (rows.map Rw.d))) rows [] [] 0 .un .un .un hw (by simpa using hl) (by simpa using hl) hc;unfold xP;refine vW (o:=.nx (fz (.nd .lst (rows.map Rw.d))::e)) (qJ (o:=.ow (.dct []) []) rfl (qJ (o:=.ow (.dct []) []) rfl (zO (ds:=wZ 0 (rows.map Rw.d)) (qZu (xs:=[.nd .lst (rows.map Rw.d)]) (qR rfl (zM rfl) rfl) rfl rfl) he))) rfl
noncomputable def isDf:Rw->Bool
 |.df _ _ _=>true
 |_=>false
noncomputable def dfP:D->Option D
 |.nd .tup (.str k::r)=>if k="def" then some (.nd .tup (.str k::r)) else none
 |_=>none
theorem jVv(r:Rw):dfP r.d=if isDf r=true then some r.d else none:=by cases r <;> kernel_rfl
theorem zXa(rows:List Rw)(hl:rows.length<=1000)(h3:(rows.filter isDf).length <=3):xR [fz (.nd .lst (rows.map Rw.d))]=.ok (.fz .non,[.un]):=by
 obtain⟨e',a,b⟩:=compL_ok (g:=gN 0) (t:=asB (o2 eqD (oIx (oN 0) (oC (.int 0))) (oC (.str "def")))) (el:=oV (oN 0)) (fun e=>∃u,e=[u]) dfP (ds:=rows.map Rw.d) (env:=[.un]) (fun d e hd he=>by
  obtain⟨u,rfl⟩:=he;obtain⟨r,_,rfl⟩:=dH.mp hd;refine⟨[fz r.d],rfl,?_⟩;cases r with
  |df f ps b=>exact .inl ⟨[fz (Rw.df f ps b).d],_,[fz (Rw.df f ps b).d],by kernel_rfl,rfl,rfl,_,rfl⟩
  |lt x t=>exact .inr ⟨[fz (Rw.lt x t).d],by kernel_rfl,rfl,_,rfl⟩
  |ag n x t=>exact .inr ⟨[fz (Rw.ag n x t).d],by kernel_rfl,rfl,_,rfl⟩
  |see t=>exact .inr ⟨[fz (Rw.see t).d],by kernel_rfl,rfl,_,rfl⟩
  |ask t=>exact .inr ⟨[fz (Rw.ask t).d],by kernel_rfl,rfl,_,rfl⟩) ⟨_,rfl⟩
 obtain⟨u,rfl⟩:=b;have ln:((rows.map Rw.d).filterMap dfP).length =(rows.filter isDf).length :=by
  clear a h3 hl;induction rows with
  |nil=>rfl
  | cons r rs ih=>
    rw[aS,dF,jVv,List.filter_cons];cases q:isDf r with
    |true=>rw[if_pos rfl,if_pos rfl];show _+1=_+1;rw[ih]
    |false=>rw[if_neg (by simp),if_neg (by simp)];exact ih
 have cl:decide ((rows.map Rw.d).length <=lim)=true:=decide_eq_true (by rw[aW];exact aM hl (show 1000<=1000000 by decide));generalize ((rows.map Rw.d).filterMap dfP)=fs at *;have h' :decide ((3:Int)<(fs.length:Nat))=false:=decide_eq_false (by omega);unfold xR;generalize rows.map Rw.d=ds at *;repeat' (first|array_get_dec|exact a|(show(true && decide (ds.length<=lim))=true;rw[cl];rfl))

mutual
theorem qQv:∀{d:D},vB d=true->ndD d=true
 |.non,_=>rfl
 |.int _,_=>rfl
 |.str _,_=>rfl
 |.bl _,_=>rfl
 |.fn _,_=>rfl
 | .nd .tup ds,h=>by
   rw[ndD]
   ·exact flats_nd h
   ·intro _ z;cases z
   ·intro _ z;cases z
 |.nd .lst ds,h=>by cases h
 |.nd (.dct _) ds,h=>by cases h
 |.nd (.dcT _) ds,h=>by cases h
 |.nd (.obj _ _) ds,h=>by cases h
 |.nd (.exc _ _) ds,h=>by cases h
theorem flats_nd:∀{ds:List D},flatDs ds=true->ndDs ds=true
 |[],_=>rfl
 | d::ds,h=>by
   change (vB d && flatDs ds)=true at h;rw[aD]at h;show(ndD d && ndDs ds)=true;rw[qQv h.1,flats_nd h.2];rfl
end
theorem qWp:∀ps:List (Int×Int),flatDs (ps.map prI)=true
 |[]=>rfl
 |p::ps=>by show(vB (prI p) && flatDs (ps.map prI))=true;rw[qWp ps];rfl
theorem qKw:∀ps:List Str,flatDs (ps.map .str)=true
 |[]=>rfl
 |p::ps=>by show(true && flatDs (ps.map .str))=true;rw[qKw ps];rfl
mutual
theorem zH:∀t:Tm,vB t.d=true
 |.num n=>by rw[Tm.d];rfl
 |.name x=>by rw[Tm.d];rfl
 |.flip a b=>by rw[Tm.d];rfl
 |.pick ps=>by rw[Tm.d];show(true && (flatDs (ps.map prI) && true))=true;rw[qWp];rfl
 |.op g a b=>by rw[Tm.d];show(true && (true && (vB a.d && (vB b.d && true))))=true;rw[zH a,zH b];rfl
 |.rest a n=>by rw[Tm.d];show(true && (vB a.d && (true && true)))=true;rw[zH a];rfl
 |.field a x=>by rw[Tm.d];show(true && (vB a.d && (true && true)))=true;rw[zH a];rfl
 |.ite c a b=>by rw[Tm.d];show(true && (vB c.d && (vB a.d && (vB b.d && true))))=true;rw[zH c,zH a,zH b];rfl
 |.rcd xs as=>by rw[Tm.d];show(true && (flatDs (zipD (xs.map .str) (Tm.ds as)) && true))=true;rw[flat_tmz xs as];rfl
 |.call f as=>by rw[Tm.d];show(true && (true && (flatDs (Tm.ds as) && true)))=true;rw[flat_tms as];rfl
theorem flat_tms:∀as:List Tm,flatDs (Tm.ds as)=true
 |[]=>by rw[Tm.ds];rfl
 |a::as=>by rw[Tm.ds];show(vB a.d && flatDs (Tm.ds as))=true;rw[zH a,flat_tms as];rfl
theorem flat_tmz:∀(xs:List Str) (as:List Tm),flatDs (zipD (xs.map .str) (Tm.ds as))=true
 |[],_=>rfl
 |x::xs,[]=>by rw[Tm.ds];rfl
 | x::xs,a::as=>by
   rw[Tm.ds];show((true && (vB a.d && true)) && flatDs (zipD (xs.map .str) (Tm.ds as)))=true;rw[zH a,flat_tmz xs as];rfl
end
theorem vZi(p:Str×(List Str×Tm)):vB (rowD p)=true:=by
 show(true && (true && (flatDs (p.2.1.map .str) && (vB p.2.2.d && true))))=true;rw[qKw,zH];rfl
theorem qVt{f:α->D}(h:∀a,ndD (f a)=true):∀l:List α,ndOs (l.map fun a=>.fz (f a))=true
 |[]=>rfl
 | a::l=>by
   show(ndD (f a) && ndOs (l.map fun a=>.fz (f a)))=true;rw[h,qVt h l];rfl
theorem jVg(w:List (Int×Int)):ndD (drD w)=true:=by
 unfold drD;rw[ndD]
 ·exact flats_nd (qWp w)
 ·grind
 ·grind
theorem jVf{hs:Hs}{st:List (Int×OT)}{s:Sd}:ndO (opO hs (nmO ν) (bindO st) s)=true:=by
 show(ndOs (hs.map fun p=>.fz (rowD p)) && (ndOs (ν.map fun p=>.fz (nmv p)) && (ndOs (bindO st) && (ndOs (s.dr.map fun w=>.fz (drD w)) && (true && (true && true))))))=true;rw[qVt (f:=rowD) fun p=>qQv (vZi p),qVt (f:=nmv) fun _=>rfl,qVt (f:=drD) jVg];unfold bindO;rw[qVt (f:=fun b:Int×OT=>D.tup [.int b.1,b.2.d]) fun b=>qQv (by show(true && (vB b.2.d && true))=true;rw[jB];rfl)];rfl
theorem jVw(ν:Nm):dcFz (nmO ν)=true:=by
 unfold nmO dcFz;grind
structure Os where
 hs:Hs
 ν:Nm
 st:List (Int×OT)
 s:Sd
noncomputable def Os.o(o:Os):O:=opO o.hs (nmO o.ν) (bindO o.st) o.s
noncomputable def xN(o:Os)(x:Str)(t:Tm):Res Os:=(qP o.hs 30 o.ν t o.s).bind fun q=>.ok {o with ν:=putA o.ν x q.2.sl,st:=o.st ++ [(q.2.sl,q.1)],s:={q.2 with sl:=q.2.sl+1}}
noncomputable def jC(x:Str)(t:Tm):Nat->Os->Res Os
 | 0,o=>.ok o
 |n+1,o=>(xN o x t).bind (jC x t n)
noncomputable def wU(o:Os):Rw->Res Os
 |.df f ps b=>.ok {o with hs:=putA o.hs f (ps,b)}
 |.lt x t=>xN o x t
 |.ag n x t=>jC x t n.toNat o
 |.see t=>(qP o.hs 30 o.ν t o.s).bind fun q=>.ok {o with st:=o.st ++ [(-1,q.1)],s:=q.2}
 |.ask t=>(qP o.hs 30 o.ν t o.s).bind fun q=>.ok {o with st:=o.st ++ [(q.2.sl,q.1)],s:={q.2 with sl:=q.2.sl+1}}
noncomputable def v4:List Rw->Os->Res Os
 |[],o=>.ok o
 |r::rs,o=>(wU o r).bind (v4 rs)
theorem qYj{st:List (Int×OT)}{i:Int}{t:OT}(h:st.length<=1000):apF (bindO st) (.fz (.tup [.int i,t.d]))=some (.fz .non,bindO (st ++ [(i,t)])):=by
 unfold apF;rw[decide_eq_true (show(bindO st).length <=lim by unfold bindO;rw[aW];exact aM h (show 1000<=1000000 by decide))];unfold bindO;rw[bG];rfl
section
variable{o:Os}
theorem qYb(hh:okHs o.hs){t:Tm}(hw:t.wf)(e:qP o.hs 30 o.ν t o.s=.ok q){as:List Am}{rest:Ev}(hr:rest.all ndS=true){a:SV}(ha:a (.s true o.o::rest)=.ok (t.d,.s true o.o::rest)):
  qWu 2 "open_term" (F_Opener_open_term 30) (.io 0) [.v a,(.b (pOf (oFld [2] "names" (oN 0))))] (.s true o.o::rest)=.ok (.fz q.1.d,.s true (opO o.hs (nmO o.ν) (bindO o.st) q.2)::rest):=by
 have c:=vW1 hh 30 o.ν t o.s (.fz (fzO (nmO o.ν))) (bindO o.st) q hw e;rw[←vZ2]at c;refine zV4 (h0:=.p 0 []) (e:=.s true o.o::rest) (by kernel_rfl) (by kernel_rfl) (hs:=[.d t.d,.p 0 [1]]) (e1:=.s true o.o::rest) ?_ (i:=0) (j:=1) (by kernel_rfl) ?_
 ·exact vH ha (vVs (h1:=.p 0 [1]) (by kernel_rfl) (by kernel_rfl) (vG rfl) rfl) rfl
 ·refine zV6 (o:=nmO o.ν) (q:=(.fz q.1.d, .s true (opO o.hs (.fz (fzO (nmO o.ν))) (bindO o.st) q.2)::rest)) (by kernel_rfl) ?_ ?_ (by kernel_rfl)
  ·exact qO rfl rfl rfl c rfl rfl rfl
  ·have b1:stab (.s true o.o::rest) (.s true (opO o.hs (.fz (fzO (nmO o.ν))) (bindO o.st) q.2)::rest) 0 [1]=true:=by kernel_rfl
   have b2:ndO (.fz q.1.d)=true:=qQv (jB q.1);have b3:setE (.s true (opO o.hs (.fz (fzO (nmO o.ν))) (bindO o.st) q.2)::rest) 0 [1] (nmO o.ν)=.s true (opO o.hs (nmO o.ν) (bindO o.st) q.2)::rest:=by kernel_rfl
   have b4:isFz (getE (.s true (opO o.hs (.fz (fzO (nmO o.ν))) (bindO o.st) q.2)::rest) 0 [1])=true:=by kernel_rfl
   dsimp only;rw[b1,b2,b3,b4,jVw,dR,hr];show(true && true && (ndO (opO o.hs (nmO o.ν) (bindO o.st) q.2) && true) && true && true)=true;rw[jVf];rfl
theorem zZb{hs:Hs}{st:List O}{s:Sd}{x:Str}{i:Int}{x2 x3:Slot}(e:getA ν x=some i):oV (oIx (oFld [2] "names" (oN 0)) (oN 1)) [.s true (opO hs (nmO ν) st s),fz (.str x),x2,x3]=.ok (.int i,[.s true (opO hs (nmO ν) st s),fz (.str x),x2,x3]):=by
 obtain⟨j,h1,_,h3⟩:=qWw inr_inj nmv e;refine zR (h1:=.d (.int i)) (e:=[.s true (opO hs (nmO ν) st s),fz (.str x),x2,x3]) ?_ rfl;refine xX (h1:=.p 0 [1]) (h2:=.d (.str x)) (e:=[.s true (opO hs (nmO ν) st s),fz (.str x),x2,x3]) (e1:=[.s true (opO hs (nmO ν) st s),fz (.str x),x2,x3]) (by kernel_rfl) (by kernel_rfl) rfl (y:=.str x) rfl ?_ rfl;show(((some (Sum.inr x:Key)).bind fun k=>kidx k (qH Sum.inr ν)).bind fun j=>((ν.map fun p=>O.fz (nmv p))[j]?).bind fun o=>some (hnO o 0 ([1] ++ [j])))=_;rw[bH,h1,bH,h3];rfl
theorem zQl(hh:okHs o.hs){x:Str}{t:Tm}(hw:t.wf)(hn:o.ν.length<=1000)(hs:o.st.length<=1000)(e:xN o x t=.ok o'):jQ [.s true o.o,fz (.str x),fz t.d]=.ok (.fz .non,[.s true o'.o,.un,.un]):=by
 obtain⟨q,e1,e⟩:=qM e;cases e;have dl:decide ((o.ν.map fun p=>O.fz (nmv p)).length <=lim)=true:=decide_eq_true (by rw[aW];exact aM hn (show 1000<=1000000 by decide));have sl:=vQh (hs:=o.hs) (no:=nmO o.ν) (st:=bindO o.st) (s:=q.2);refine vW (o:=.nx [.s true (opO o.hs (nmO (putA o.ν x q.2.sl)) (bindO (o.st ++ [(q.2.sl,q.1)])) {q.2 with sl:=q.2.sl+1}),fz (.str x),fz t.d,fz q.1.d]) ?_ rfl;refine qJ (qYb hh hw e1 (rest:=[fz (.str x),fz t.d,.un]) (as:=[]) (by show(true && (ndD t.d && (true && true)))=true;rw[qQv (zH t)];rfl) rfl) ?_
 refine jV (e:=[.s true (opO o.hs (nmO (putA o.ν x q.2.sl)) (bindO o.st) {q.2 with sl:=q.2.sl+1}),fz (.str x),fz t.d,fz q.1.d]) ?_ ?_
 ·refine qK8 (qXe (x:= .fz (.int q.2.sl)) (e:=[.s true (opO o.hs (nmO o.ν) (bindO o.st) {q.2 with sl:=q.2.sl + 1}),fz (.str x),fz t.d,fz q.1.d]) (i:=0) (π:=[1]) (hk:= .d (.str x)) (y:= .str x) (key:=Sum.inr x) (q:=(qH Sum.inr o.ν,o.ν.map fun p=> .fz (nmv p))) ?_ (by kernel_rfl) (by kernel_rfl) rfl rfl (by kernel_rfl) dl rfl) ?_
  ·refine qQu (h0:= .p 0 []) (e:=[.s true (opO o.hs (nmO o.ν) (bindO o.st) q.2),fz (.str x),fz t.d,fz q.1.d]) (by kernel_rfl) (by kernel_rfl) (hs:=[]) (e1:=[.s true (opO o.hs (nmO o.ν) (bindO o.st) q.2),fz (.str x),fz t.d,fz q.1.d]) rfl ?_
   exact qO rfl rfl rfl sl rfl rfl rfl
  ·dsimp only;rw[qK7 inr_inj nmv (v:=q.2.sl)];rfl
 ·refine wB (xF (i:=0) (π:=[2]) (os0:=bindO o.st) (os:=bindO o.st) (x:= .fz (.tup [.int q.2.sl,q.1.d])) (e:=[.s true (opO o.hs (nmO (putA o.ν x q.2.sl)) (bindO o.st) {q.2 with sl:=q.2.sl + 1}),fz (.str x),fz t.d,fz q.1.d]) (by kernel_rfl) (by kernel_rfl) ?_ (by kernel_rfl) (by kernel_rfl) (qYj hs) rfl) rfl;exact xU (qQr (qR (zZb (by rw[jS,if_pos rfl])) (qR rfl (zM rfl) rfl) rfl) rfl rfl) rfl
end

theorem vXe(r:Rw):vB r.d=true:=by
 cases r with
 |df f ps b=>exact vZi _
 |lt x t=>show(true && (true && (vB t.d && true)))=true;rw[zH];rfl
 |ag n x t=>show(true && (true && (true && (vB t.d && true))))=true;rw[zH];rfl
 |see t=>show(true && (vB t.d && true))=true;rw[zH];rfl
 |ask t=>show(true && (vB t.d && true))=true;rw[zH];rfl
section
variable{o:Os}
theorem xC{x:Str}{t:Tm}(e:xN o x t=.ok o'):o'.hs=o.hs/\o'.ν.length<=o.ν.length+1/\o'.st.length=o.st.length+1:=by
 obtain⟨q,e1,e⟩:=qM e;cases e;exact⟨rfl,wD,by simp⟩
theorem times_ok{x:Str}{t:Tm}{n:Int}{k:Slot}(hw:t.wf):∀(ds:List D) (o o' :Os) (x3 x4:Slot),okHs o.hs->o.ν.length+ds.length<=1000->o.st.length+ds.length<=1000->jC x t ds.length o=.ok o' ->
  ∃y3,forS (gN 3) xM ds [.s true o.o,fz (Rw.ag n x t).d,k,x3,x4]=.ok (.nx [.s true o'.o,fz (Rw.ag n x t).d,k,y3,x4])
 |[],o,o',x3,x4,_,_,_,e=>by cases e;exact⟨x3,rfl⟩
 | d::ds,o,o',x3,x4,hh,h1,h2,e=>by
   obtain⟨o1,e1,e⟩:=qM (show(xN o x t).bind _=_ from e);obtain⟨i1,i2,i3⟩:=xC e1;rw[aK]at h1 h2;have c:=zQl hh hw (by omega) (by omega) e1;obtain⟨y3,hy⟩:=times_ok (n:=n) (k:=k) hw ds o1 o' (fz d) x4 (by rw[i1];exact hh) (by omega) (by omega) e;refine⟨y3,vU (e1:=[.s true o.o,fz (Rw.ag n x t).d,k,fz d,x4]) (e2:=[.s true o1.o,fz (Rw.ag n x t).d,k,fz d,x4]) rfl ?_ hy⟩;refine wB (o:=.fz .non) (qQu (h0:=.p 0 []) (e:=[.s true o.o,fz (Rw.ag n x t).d,k,fz d,x4]) (by kernel_rfl) (by kernel_rfl) (hs:=[.d (.str x),.d t.d]) (e1:=[.s true o.o,fz (Rw.ag n x t).d,k,fz d,x4]) (by kernel_rfl) ?_) rfl;exact qO rfl rfl rfl c rfl rfl rfl
noncomputable def qKh(r:Rw):Prop:=r.t.wf/\r.t.h<=30/\∀n x t,r=.ag n x t->0<=n/\n<=100
theorem qVv(r:Rw)(kd:Str)(x2 x3 x4:Slot)(a:O)(hk:∃l,r.d=.tup (.str kd::l)):(sSet 2 (owS (oV (oIx (oN 1) (oC (.int 0)))))) [.s true a,fz r.d,x2,x3,x4]=.ok (.nx [.s true a,fz r.d,fz (.str kd),x3,x4]):=by
 obtain⟨l,e⟩:=hk;rw[e];have i:ixN ((.str kd::l:List D).length) 0=some 0:=by unfold ixN;simp
 refine qXc (o:=.fz (.str kd)) (xU (zR (xX (h1:=.d (.tup (.str kd::l))) (h2:=.d (.int 0)) rfl rfl rfl rfl ?_ rfl) rfl) rfl) rfl;show(((xT (.int 0)).bind fun i=>ixN ((.str kd::l:List D).length) i).bind fun j=>(.str kd::l:List D)[j]?).map Hn.d=_;show((ixN ((.str kd::l:List D).length) 0).bind fun j=>(.str kd::l:List D)[j]?).map Hn.d=_;rw[i];rfl
noncomputable abbrev wE(o:Os)(r:Rw)(k:Str):Ev:=[.s true o.o,fz r.d,fz (.str k),.un,.un]
theorem zYi(hh:okHs o.hs)(r:Rw)(hw:qKh r)(hn:o.ν.length<=900)(hs:o.st.length<=900)(hd:o.hs.length<=900)(e:wU o r=.ok o'):zT [.s true o.o,fz r.d]=.ok (.fz .non,[.s true o'.o,.un]):=by
 obtain⟨w1,w2,w3⟩:=hw;unfold zT;cases r with
 | df f ps b=>
   cases e;have dl:decide ((o.hs.map fun p=>O.fz (rowD p)).length <=lim)=true:=decide_eq_true (by rw[aW];exact aM hd (show 900<=1000000 by decide));refine vW (o:=.nx [.s true (opO (putA o.hs f (ps,b)) (nmO o.ν) (bindO o.st) o.s),fz (Rw.df f ps b).d,fz (.str "def"),.un,.un]) (qJk (qVv (.df f ps b) "def" .un .un .un o.o ⟨_,rfl⟩) rfl ?_) rfl;refine vR (q:=true) (e:=(wE o (.df f ps b) "def")) (by kernel_rfl) (jL rfl ?_);refine qK8 (qXe (x:=.fz (rowD (f,(ps,b)))) (e:=(wE o (.df f ps b) "def")) (i:=0) (π:=[0]) (hk:=.d (.str f)) (y:=.str f) (key:=Sum.inr f) (q:=(qH Sum.inr o.hs,o.hs.map fun p=>.fz (rowD p))) (by kernel_rfl) (by kernel_rfl) (by kernel_rfl) rfl rfl (by kernel_rfl) dl rfl) ?_
   dsimp only;rw[qK7 inr_inj rowD (v:=(ps,b))];rfl
 | lt x t=>
   have c:=zQl hh w1 (by omega) (by omega) e;refine vW (o:=.nx [.s true o'.o,fz (Rw.lt x t).d,fz (.str "let"),.un,.un]) (qJk (qVv (.lt x t) "let" .un .un .un o.o ⟨_,rfl⟩) rfl ?_) rfl;refine vR (q:=false) (e:=(wE o (.lt x t) "let")) (by kernel_rfl) (zQ rfl ?_);refine vR (q:=true) (e:=(wE o (.lt x t) "let")) (by kernel_rfl) (jL rfl ?_);refine wB (o:=.fz .non) (qQu (h0:=.p 0 []) (e:=(wE o (.lt x t) "let")) (by kernel_rfl) (by kernel_rfl) (hs:=[.d (.str x),.d t.d]) (e1:=(wE o (.lt x t) "let")) (by kernel_rfl) ?_) rfl;exact qO rfl rfl rfl c rfl rfl rfl
 | ag n x t=>
   obtain⟨n0,n1⟩:=w3 n x t rfl;have rg:rg1 [.int n]=some (rngD 0 n.toNat):=by
    show cond (in62 n) _ _=_;have:in62 n=true:=by
     unfold in62;rw[decide_eq_true (by omega),decide_eq_true (by omega)];rfl
    rw[this];rfl
   have ln:(rngD 0 n.toNat).length =n.toNat:=by unfold rngD;simp
   have e' :jC x t (rngD 0 n.toNat).length o=.ok o' :=by rw[ln];exact e
   obtain⟨y3,lp⟩:=times_ok (n:=n) (k:=fz (.str "again")) w1 (rngD 0 n.toNat) o o' .un .un hh (by rw[ln];omega) (by rw[ln];omega) e';refine vW (o:=.nx [.s true o'.o,fz (Rw.ag n x t).d,fz (.str "again"),y3,.un]) (qJk (qVv (.ag n x t) "again" .un .un .un o.o ⟨_,rfl⟩) rfl ?_) rfl;refine vR (q:=false) (e:=(wE o (.ag n x t) "again")) (by kernel_rfl) (zQ rfl ?_);refine vR (q:=false) (e:=(wE o (.ag n x t) "again")) (by kernel_rfl) (zQ rfl ?_);refine vR (q:=true) (e:=(wE o (.ag n x t) "again")) (by kernel_rfl) (jL rfl ?_);exact zO (qZu (xs:=[.int n]) (e:=(wE o (.ag n x t) "again")) (by kernel_rfl) rg rfl) lp
 | see t=>
   obtain⟨q,e1,e⟩:=qM (show(qP o.hs 30 o.ν t o.s).bind _=_ from e);cases e;refine vW (o:=.nx [.s true (opO o.hs (nmO o.ν) (bindO (o.st ++ [(-1,q.1)])) q.2),fz (Rw.see t).d,fz (.str "see"),.un,.un]) (qJk (qVv (.see t) "see" .un .un .un o.o ⟨_,rfl⟩) rfl ?_) rfl;refine vR (q:=false) (e:=(wE o (.see t) "see")) (by kernel_rfl) (zQ rfl ?_);refine vR (q:=false) (e:=(wE o (.see t) "see")) (by kernel_rfl) (zQ rfl ?_);refine vR (q:=false) (e:=(wE o (.see t) "see")) (by kernel_rfl) (zQ rfl ?_);refine vR (q:=true) (e:=(wE o (.see t) "see")) (by kernel_rfl) (jL rfl ?_);refine wB (xF (i:=0) (π:=[2]) (os0:=bindO o.st) (os:=bindO o.st) (x:=.fz (.tup [.int (-1),q.1.d])) (e:=[.s true (opO o.hs (nmO o.ν) (bindO o.st) q.2),fz (Rw.see t).d,fz (.str "see"),.un,.un]) (by kernel_rfl) (by kernel_rfl) ?_ (by kernel_rfl) (by kernel_rfl) (qYj (by omega)) rfl) rfl;exact xU (qQr (qR (d:=.int (-1)) (e:=(wE o (.see t) "see")) (by kernel_rfl) (qR (wV (qYb hh w1 e1 (as:=[]) (rest:=[fz (Rw.see t).d,fz (.str "see"),.un,.un]) (by show(ndD (Rw.see t).d && (true && (true && (true && true))))=true;rw[qQv (vXe (.see t))];rfl) (by kernel_rfl)) rfl) (zM rfl) rfl) rfl) rfl rfl) rfl
 | ask t=>
   obtain⟨q,e1,e⟩:=qM (show(qP o.hs 30 o.ν t o.s).bind _=_ from e);cases e;have sl:=vQh (hs:=o.hs) (no:=nmO o.ν) (st:=bindO o.st) (s:=q.2);refine vW (o:=.nx [.s true (opO o.hs (nmO o.ν) (bindO (o.st ++ [(q.2.sl,q.1)])) {q.2 with sl:=q.2.sl+1}),fz (Rw.ask t).d,fz (.str "ask"),.un,fz q.1.d]) (qJk (qVv (.ask t) "ask" .un .un .un o.o ⟨_,rfl⟩) rfl ?_) rfl;refine vR (q:=false) (e:=(wE o (.ask t) "ask")) (by kernel_rfl) (zQ rfl ?_);refine vR (q:=false) (e:=(wE o (.ask t) "ask")) (by kernel_rfl) (zQ rfl ?_);refine vR (q:=false) (e:=(wE o (.ask t) "ask")) (by kernel_rfl) (zQ rfl ?_);refine vR (q:=false) (e:=(wE o (.ask t) "ask")) (by kernel_rfl) (zQ rfl ?_);refine qJ (qYb hh w1 e1 (as:=[]) (rest:=[fz (Rw.ask t).d,fz (.str "ask"),.un,.un]) (by show(ndD (Rw.ask t).d && (true && (true && (true && true))))=true;rw[qQv (vXe (.ask t))];rfl) (by kernel_rfl)) ?_
   refine wB (xF (i:=0) (π:=[2]) (os0:=bindO o.st) (os:=bindO o.st) (x:=.fz (.tup [.int q.2.sl,q.1.d])) (e:=[.s true (opO o.hs (nmO o.ν) (bindO o.st) {q.2 with sl:=q.2.sl+1}),fz (Rw.ask t).d,fz (.str "ask"),.un,fz q.1.d]) (by kernel_rfl) (by kernel_rfl) ?_ (by kernel_rfl) (by kernel_rfl) (qYj (by omega)) rfl) rfl;refine xU (qQr (qR (d:=.int q.2.sl) (e:=[.s true (opO o.hs (nmO o.ν) (bindO o.st) {q.2 with sl:=q.2.sl+1}),fz (Rw.ask t).d,fz (.str "ask"),.un,fz q.1.d]) (wV (o:=.fz (.int q.2.sl)) (e:=[.s true (opO o.hs (nmO o.ν) (bindO o.st) {q.2 with sl:=q.2.sl+1}),fz (Rw.ask t).d,fz (.str "ask"),.un,fz q.1.d]) (qQu (h0:=.p 0 []) (e:=[.s true (opO o.hs (nmO o.ν) (bindO o.st) q.2),fz (Rw.ask t).d,fz (.str "ask"),.un,fz q.1.d]) (by kernel_rfl) (by kernel_rfl) (hs:=[]) (e1:=[.s true (opO o.hs (nmO o.ν) (bindO o.st) q.2),fz (Rw.ask t).d,fz (.str "ask"),.un,fz q.1.d]) rfl ?_) rfl) (qR rfl (zM rfl) rfl) rfl) rfl rfl) rfl;exact qO rfl rfl rfl sl rfl rfl rfl
end

noncomputable def vJ(st:List (Int×OT)):List D:=st.map fun b=>.tup [.int b.1,b.2.d]
theorem zZ4(st:List (Int×OT)):bindO st=(vJ st).map .fz :=by unfold bindO vJ;rw[dP];rfl
noncomputable def oneO(st:List (Int×OT))(dd:Dw)(n:Int):O:=.ow (.obj 1 ["steps","draws","slots"]) [.ow .lst ((vJ st).map .fz),.ow .lst ((dd.map drD).map .fz),.fz (.int n)]
noncomputable def oneD(st:List (Int×OT))(dd:Dw)(n:Int):D:=.nd (.obj 1 ["steps","draws","slots"]) [.nd .lst (vJ st),drsD dd,.int n]
theorem zWi(st:List (Int×OT))(dd:Dw)(n:Int):fzO (oneO st dd n)=oneD st dd n:=by
 show D.nd _ [fzO (.ow .lst ((vJ st).map .fz)),fzO (.ow .lst ((dd.map drD).map .fz)),.int n]=_;rw[vY,vY];rfl
theorem zWw(st:List (Int×OT))(dd:Dw)(n:Int)(hd:dd.length<=1000):yB [.s true (.ow (.obj 1 []) []),fz (.nd .lst (vJ st)),fz (drsD dd),fz (.int n)]=.ok (.fz .non,[.s true (oneO st dd n),.un,.un,.un]):=by
 obtain⟨e',a,b⟩:=compL_map (g:=gN 0) (el:=fzS (eF listD [oN 0])) (fun e=>∃u,e=[u]) (fun d=>d) (ds:=dd.map drD) (env:=[.un]) (fun d e hd he=>by
  obtain⟨u,rfl⟩:=he;obtain⟨w,_,rfl⟩:=dH.mp hd;refine⟨[fz (drD w)],[fz (drD w)],rfl,?_,_,rfl⟩;exact vXa (hs:=[.d (drD w)]) (e:=[fz (drD w)]) rfl (xs:=[drD w]) rfl (ds:=w.map prI) rfl rfl) ⟨_,rfl⟩
 obtain⟨u,rfl⟩:=b;rw[List.map_id']at a;have cl:decide ((dd.map drD).length <=lim)=true:=decide_eq_true (by rw[aW];exact aM hd (show 1000<=1000000 by decide));refine vW (o:=.nx [.s true (oneO st dd n),fz (.nd .lst (vJ st)),fz (drsD dd),fz (.int n)]) ?_ rfl;refine jV (e:=[.s true (.ow (.obj 1 ["steps"]) [.ow .lst ((vJ st).map .fz)]),fz (.nd .lst (vJ st)),fz (drsD dd),fz (.int n)]) (by kernel_rfl) ?_
 refine jV (e:=[.s true (.ow (.obj 1 ["steps","draws"]) [.ow .lst ((vJ st).map .fz),.ow .lst ((dd.map drD).map .fz)]),fz (.nd .lst (vJ st)),fz (drsD dd),fz (.int n)]) ?_ (by kernel_rfl)
 refine vWp (x:=.ow .lst ((dd.map drD).map .fz)) (e:=[.s true (.ow (.obj 1 ["steps"]) [.ow .lst ((vJ st).map .fz)]),fz (.nd .lst (vJ st)),fz (drsD dd),fz (.int n)]) ?_ (i:=0) (π:=[]) (by kernel_rfl) (q:=(1,["steps"],[.ow .lst ((vJ st).map .fz)])) (by kernel_rfl) (by kernel_rfl) (o' :=.ow (.obj 1 ["steps","draws"]) [.ow .lst ((vJ st).map .fz),.ow .lst ((dd.map drD).map .fz)]) (by kernel_rfl) (by kernel_rfl)
 refine qJq (ds:=dd.map drD) (vs:=dd.map drD) (e:=[.s true (.ow (.obj 1 ["steps"]) [.ow .lst ((vJ st).map .fz)]),fz (.nd .lst (vJ st)),fz (drsD dd),fz (.int n)]) (by kernel_rfl) ?_ a (by kernel_rfl);rw[cl];rfl
theorem vZo{o:Os}{r:Rw}(hr:qKh r)(e:wU o r=.ok o')(hh:okHs o.hs):okHs o'.hs/\o'.ν.length<=o.ν.length+101/\o'.st.length<=o.st.length+101/\o'.hs.length<=o.hs.length+1:=by
 have tm:∀(x:Str) (t:Tm) (n:Nat) (o o' :Os),jC x t n o=.ok o' ->o'.hs=o.hs/\o'.ν.length<=o.ν.length+n/\o'.st.length<=o.st.length+n:=fun x t n=>by
  induction n with
  |zero=>intro o o' e;cases e;exact⟨rfl,by omega,by omega⟩
  | succ n ih=>
    intro o o' e;obtain⟨o1,e1,e⟩:=qM (show(xN o x t).bind _=_ from e);obtain⟨a,b,c⟩:=xC e1;grind
 cases r with
 | df f ps b=>
   cases e;refine⟨?_,by show o.ν.length<=_;omega,by show o.st.length<=_;omega,wD⟩;have hb:b.wf:=hr.1;have:∀l:Hs,okHs l->okHs (putA l f (ps,b)):=fun l=>by
    induction l with
    |nil=>intro _ p hp;cases bJ.mp hp;exact hb
    | cons q r ih=>
      intro hl;unfold putA;by_cases z:q.1=f
      ·rw [if_pos z];intro p hp;rcases aG.mp hp with rfl|hp
       ·exact hb
       ·exact hl p (aO _ hp)
      ·rw [if_neg z];intro p hp;rcases aG.mp hp with rfl|hp
       ·exact hl _ (by simp)
       ·exact ih (fun p hp=>hl p (aO _ hp)) p hp
   grind
 |lt x t=>obtain⟨a,b,c⟩:=xC e;exact⟨by rw[a];exact hh,by omega,by omega,by rw[a];omega⟩
 | ag n x t=>
   obtain⟨n0,n1⟩:=hr.2.2 n x t rfl;obtain⟨a,b,c⟩:=tm x t n.toNat o o' e;grind
 | see t=>
   obtain⟨q,e1,e⟩:=qM (show(qP o.hs 30 o.ν t o.s).bind _=_ from e);grind
 | ask t=>
   obtain⟨q,e1,e⟩:=qM (show(qP o.hs 30 o.ν t o.s).bind _=_ from e);grind
noncomputable def room(o:Os)(rows:List Rw):Prop:=(∀rs1 rs2 o1,rows=rs1 ++ rs2->v4 rs1 o=.ok o1->o1.ν.length<=900/\o1.st.length<=900/\o1.hs.length<=900)
theorem rows_ok{p:Slot}:∀(rows:List Rw) (o o' :Os) (x2:Slot),okHs o.hs->(∀r∈rows,qKh r)->room o rows->v4 rows o=.ok o' ->
  ∃y2,forS (gN 2) qYv (rows.map Rw.d) [p,.s false o.o,x2]=.ok (.nx [p,.s false o'.o,y2])
 |[],o,o',x2,_,_,_,e=>by cases e;exact⟨x2,rfl⟩
 | r::rs,o,o',x2,hh,hw,hm,e=>by
   obtain⟨o1,e1,e⟩:=qM (show(wU o r).bind _=_ from e);obtain⟨m1,m2,m3⟩:=hm [] (r::rs) o rfl rfl;have hr:=hw r (by simp);obtain⟨i1,_⟩:=vZo hr e1 hh;have c:=zYi hh r hr m1 m2 m3 e1;obtain⟨y2,hy⟩:=rows_ok (p:=p) rs o1 o' (fz r.d) i1 (fun q hq=>hw q (aO _ hq)) (fun rs1 rs2 o2 q1 q2=>hm (r::rs1) rs2 o2 (by rw[q1];rfl) (by show(wU o r).bind _=_;rw[e1];exact q2)) e;refine⟨y2,vU (e1:=[p,.s false o.o,fz r.d]) (e2:=[p,.s false o1.o,fz r.d]) rfl ?_ hy⟩;refine wB (o:=.fz .non) (qQu (h0:=.p 1 []) (e:=[p,.s false o.o,fz r.d]) (by kernel_rfl) (by kernel_rfl) (hs:=[.d r.d]) (e1:=[p,.s false o.o,fz r.d]) (by kernel_rfl) ?_) rfl;exact qO rfl rfl rfl c rfl rfl rfl
noncomputable def os0:Os:=⟨[],[],[],⟨[],0,0⟩⟩
theorem zWe:qWv 2 yU [] [p,.un,.un]=.ok (os0.o,[p,.un,.un]):=by kernel_rfl
theorem vYd(rows:List Rw)(o:Os)(hw:∀r∈rows,qKh r)(hl:rows.length<=1000)(hc:wC rows [] []=true)(h3:(rows.filter isDf).length <=3)(hm:room os0 rows)(hd:o.s.dr.length<=1000)(e:v4 rows os0=.ok o):qVz [fz (.nd .lst (rows.map Rw.d))]=.ok (oneO o.st o.s.dr o.s.sl,[.un]):=by
 have c1:=zV1 rows (fun r hr=>⟨(hw r hr).1,(hw r hr).2.1⟩) hl hc;have c2:=zXa rows hl h3;obtain⟨y2,lp⟩:=rows_ok (p:=fz (.nd .lst (rows.map Rw.d))) rows os0 o .un (fun p hp=>nomatch hp) hw hm e;have ci:=zWw o.st o.s.dr o.s.sl hd;have s1:fzO (.ow .lst (bindO o.st))=.nd .lst (vJ o.st):=by rw[zZ4,vY]
 have s2:fzO (.ow .lst (o.s.dr.map fun w=>.fz (drD w)))=drsD o.s.dr:=by
  have:=vY (k:=.lst) (o.s.dr.map drD);rw[dP]at this;exact this
 refine vW (o:=.rt (oneO o.st o.s.dr o.s.sl) [fz (.nd .lst (rows.map Rw.d)),.s false (.ow (.obj 2 ["helpers","names","steps","draws","slots","terms"]) [.ow (.dct (qH Sum.inr o.hs)) (o.hs.map fun p=>.fz (rowD p)),nmO o.ν,.fz (.nd .lst (vJ o.st)),.fz (drsD o.s.dr),.fz (.int o.s.sl),.fz (.int o.s.tm)]),y2]) ?_ rfl;refine vT (o:=.fz .non) (e:=[fz (.nd .lst (rows.map Rw.d)),.un,.un]) (vK (vH rfl (vG rfl) rfl) (qO rfl rfl rfl c1 rfl rfl rfl)) ?_
 refine vT (o:=.fz .non) (e:=[fz (.nd .lst (rows.map Rw.d)),.un,.un]) (vK (vH rfl (vG rfl) rfl) (qO rfl rfl rfl c2 rfl rfl rfl)) ?_
 refine qJ zWe ?_
 refine jV (zO (ds:=rows.map Rw.d) (e:=[fz (.nd .lst (rows.map Rw.d)),.s false os0.o,.un]) rfl lp) ?_
 refine qZ6 (vW3 (q:=(.fz .non,[])) (hs:=[.d (.nd .lst (vJ o.st)),.d (drsD o.s.dr),.d (.int o.s.sl)]) (e:=[fz (.nd .lst (rows.map Rw.d)),.s false (.ow (.obj 2 ["helpers","names","steps","draws","slots","terms"]) [.ow (.dct (qH Sum.inr o.hs)) (o.hs.map fun p=>.fz (rowD p)),nmO o.ν,.fz (.nd .lst (vJ o.st)),.fz (drsD o.s.dr),.fz (.int o.s.sl),.fz (.int o.s.tm)]),y2]) ?_ (qO rfl rfl rfl ci rfl rfl rfl) rfl rfl) rfl;rw[←s1,←s2];kernel_rfl
mutual
def OT.sl:OT->List Int
 |.slot i=> [i]
 |.num _=> []
 |.draw _=> []
 |.op _ a b=>a.sl ++ (b.sl ++ [])
 |.rest a _=>a.sl ++ []
 |.field a _=>a.sl ++ []
 |.ite c a b=>c.sl ++ (a.sl ++ (b.sl ++ []))
 |.rcd _ as=>OT.sls as
 |.bind i a b=>a.sl ++ b.sl.filter fun j=>!(j == i)
def OT.sls:List OT->List Int
 |[]=> []
 |a::r=>a.sl ++ OT.sls r
end
mutual
def OT.sc:OT->Nat
 |.slot _=>1
 |.num _=>0
 |.draw _=>0
 |.op _ a b=>a.sc+(b.sc+0)
 |.rest a _=>a.sc+0
 |.field a _=>a.sc+0
 |.ite c a b=>c.sc+(a.sc+(b.sc+0))
 |.rcd _ as=>OT.scs as
 |.bind _ a b=>a.sc+b.sc
def OT.scs:List OT->Nat
 |[]=>0
 |a::r=>a.sc+OT.scs r
end
mutual
theorem yD:∀t:OT,t.sl.length<=t.sc
 |.slot _=>by rw[OT.sl,OT.sc];exact aB 1
 |.num _=>by rw[OT.sl];exact bO _
 |.draw _=>by rw[OT.sl];exact bO _
 |.op _ a b=>by have:=yD a;have:=yD b;rw[OT.sl,OT.sc];simp only[aU,List.length_nil];omega
 |.rest a _=>by have:=yD a;rw[OT.sl,OT.sc];simp only[aU,List.length_nil];omega
 |.field a _=>by have:=yD a;rw[OT.sl,OT.sc];simp only[aU,List.length_nil];omega
 |.ite c a b=>by have:=yD c;have:=yD a;have:=yD b;rw[OT.sl,OT.sc];simp only[aU,List.length_nil];omega
 |.rcd _ as=>by rw[OT.sl,OT.sc];exact sls_le as
 |.bind i a b=>by have:=yD a;have:=yD b;have:=List.length_filter_le (fun j=>!(j == i)) b.sl;rw[OT.sl,OT.sc,aU];omega
theorem sls_le:∀as:List OT,(OT.sls as).length <=OT.scs as
 |[]=>by rw[OT.sls];exact bO _
 |a::r=>by have:=yD a;have:=sls_le r;rw[OT.sls,OT.scs,aU];omega
end
section
variable{F:Fn}{x y:Slot}
noncomputable abbrev flI(l:List Int):Slot:=.s false (.ow .lst ((l.map D.int).map .fz))
theorem sr_loop:∀(as:List OT) (acc:List Int) (z:Slot),(∀a∈as,F [.s false (.fz a.d)]=.ok (.ow .lst ((a.sl.map .int).map .fz),[.un]))->acc.length+OT.scs as<=1000->∃z',forS (gN 3) (wI F) (OT.ds as) [x,y,flI acc,z]=.ok (.nx [x,y,flI (acc ++ OT.sls as),z'])
 |[],acc,z,_,_=>⟨z,by rw[OT.sls,bL];rfl⟩
 | a::as,acc,z,h,hl=>by
   rw[OT.scs]at hl;have h1:=yD a;have ca:qN F [(.v (oV (oN 3)))] [x,y,flI acc,.s false (.fz a.d)]=.ok (.ow .lst ((a.sl.map .int).map .fz),[x,y,flI acc,.s false (.fz a.d)]):=by
    unfold qN;show(F [.s false (.fz a.d)]).bind _=_;rw[h a (by simp)];rfl
   have hb:wI F [x,y,flI acc,.s false (.fz a.d)]=.ok (.nx [x,y,flI (acc ++ a.sl),.s false (.fz a.d)]):=by
    unfold wI;refine wB (xF (i:=2) (π:=[]) (os0:=(acc.map D.int).map .fz) (os:=(acc.map D.int).map .fz) rfl rfl ca rfl rfl (z:=(.fz .non,((acc ++ a.sl).map D.int).map .fz)) ?_ rfl) rfl;show cond (decide (((acc.map D.int).map O.fz).length+((a.sl.map D.int).map O.fz).length <=lim)) (some (O.fz .non,(acc.map D.int).map O.fz ++ (a.sl.map D.int).map O.fz)) none=_;rw[decide_eq_true (by simp only[aW];exact aM (show _<=1000 by omega) (by decide)),bG,bG];rfl
   obtain⟨z',ih⟩:=sr_loop as (acc ++ a.sl) (.s false (.fz a.d)) (fun b hb=>h b (aO _ hb)) (by rw[aU];omega);exact⟨z',vU (e1:=[x,y,flI acc,.s false (.fz a.d)]) rfl hb (by rw[ih,OT.sls,List.append_assoc])⟩
theorem i0{t:OT}{r:List D}(e:t.d=.tup (.str w::r)){b c:Slot}:oV (oIx (oN 0) (oC (.int 0))) [.s false (.fz t.d),a,b,c]=.ok (.str w,[.s false (.fz t.d),a,b,c]):=by
 rw[e];refine zR (h1:=.d (.str w)) (xX (h1:=.d (.tup (.str w::r))) (h2:=.d (.int ((0:Nat):Int))) rfl rfl rfl rfl ?_ rfl) rfl;show(atI (.str w::r) ((0:Nat):Int)).map Hn.d=_;rw[vXs (show(D.str w::r)[0]?=some (.str w) from rfl)];rfl
end
theorem cat2{oa ob:Oe}{e1:Ev}{xs ys:List D}(h1:evO oa env=.ok (.d (.nd .lst xs),e))(h2:evO ob e=.ok (.d (.nd .lst ys),e1))(c:xs.length+ys.length<=1000):eCat oa ob env=.ok (.ow .lst ((xs ++ ys).map .fz),e1):=by
 show(evO oa env).bind _=_;rw[h1];show(evO ob e).bind _=_;rw[h2];show cond (decide (xs.length+ys.length<=lim)) (Res.ok (O.ow .lst ((xs ++ ys).map O.fz),e1)) Res.no=_;rw[decide_eq_true (aM c (by decide))];rfl
section
variable{g:SG}{t:ST}{el:SV}{d v:D}{ds:List D}{env e1 e2 e3:Ev}
theorem vXp(h1:g d env=some e1)(h2:t e1=.ok (false,e2)):wT g t el (d::ds) env=wT g t el ds e2:=by
 show(opt (g d env)).bind _=_;rw[h1];show((t e1).ne).bind _=_;rw[h2];rfl
theorem vQx(h1:g d env=some e1)(h2:t e1=.ok (true,e2))(h3:el e2=.ok (v,e3)):wT g t el (d::ds) env=(wT g t el ds e3).bind fun q=>.ok (v::q.1,q.2):=by
 show(opt (g d env)).bind _=_;rw[h1];show((t e1).ne).bind _=_;rw[h2];show((el e2).ne).bind _=_;rw[h3];rfl
end
noncomputable abbrev sF(d:D):Slot:=.s false (.fz d)
theorem fl_comp{i:Int}{w:Str}{d2 d3:D}:∀(l:List Int) (y:Slot),∃y',wT (gN 0) (asB (o2 neF (oN 0) (oIx (oN 1) (oC (.int 1))))) (oV (oN 0)) (l.map D.int) [y,sF (.tup [.str w,.int i,d2,d3])]=.ok ((l.filter fun j=>!(j == i)).map D.int,[y',sF (.tup [.str w,.int i,d2,d3])])
 |[],y=>⟨y,rfl⟩
 | j::l,y=>by
   have t:asB (o2 neF (oN 0) (oIx (oN 1) (oC (.int 1)))) [sF (.int j),sF (.tup [.str w,.int i,d2,d3])]=.ok (!(j == i),[sF (.int j),sF (.tup [.str w,.int i,d2,d3])]):=rfl;obtain⟨y',ih⟩:=fl_comp (i:=i) (w:=w) (d2:=d2) (d3:=d3) l (sF (.int j));refine⟨y',?_⟩;rw[aS];cases q:(!(j == i)) with
   | true=>
     rw[q]at t;rw[vQx (e1:=[sF (.int j),sF (.tup [.str w,.int i,d2,d3])]) (v:=.int j) rfl t rfl,ih,List.filter_cons_of_pos (by simpa using q)];rfl
   | false=>
     rw[q]at t;rw[vXp (e1:=[sF (.int j),sF (.tup [.str w,.int i,d2,d3])]) rfl t,ih,List.filter_cons_of_neg (by simpa using q)]
section
variable{h:Nat}
theorem yW{t:OT}{r:List D}{ps:List OT}(e:t.d=.tup (.str w::r))(h1:decide (w="slot")=false)(h2:decide (w="bind")=false)(hp:qI [sF t.d]=.ok (.ow .lst ((OT.ds ps).map .fz),[.un]))(ih:∀a∈ps,F_slots_read h [sF a.d]=.ok (.ow .lst ((a.sl.map .int).map .fz),[.un]))(hl:OT.scs ps<=1000):F_slots_read (h+1) [sF t.d]=.ok (.ow .lst (((OT.sls ps).map .int).map .fz),[.un]):=by
 have t1:∀{x:Str} {b:Bool} {p q:Slot},decide (w=x)=b->asB (o2 eqD (oN 1) (oC (.str x))) [sF t.d,sF (.str w),p,q]=.ok (b,[sF t.d,sF (.str w),p,q]):=fun {x b p q} e=>by
  rw[←e];exact xG (d:=.bl (decide (w=x))) (zR (h1:=.d (.bl (decide (w=x)))) (zK (h1:=.d (.str w)) (h2:=.d (.str x)) rfl rfl rfl rfl rfl rfl rfl) rfl) rfl rfl
 obtain⟨z',lp⟩:=sr_loop (F:=F_slots_read h) (x:=sF t.d) (y:=sF (.str w)) ps [] .un ih (by show 0+_<=_;omega);have it:iV (fzS (qN qI [(.v (oV (oN 0)))])) [sF t.d,sF (.str w),flI [],.un]=.ok (OT.ds ps,[sF t.d,sF (.str w),flI [],.un]):=by
  refine qZt (d:=.nd .lst (OT.ds ps)) (wV (o:=.ow .lst ((OT.ds ps).map .fz)) ?_ (by rw[vY])) rfl rfl;show(qI [sF t.d]).bind _=_;rw[hp];rfl
 exact vW (qJ (xU (i0 e) rfl) (qD (t1 h1) (qF (qD (t1 h2) (qF (qJ (o:=.ow .lst []) (e:=[sF t.d,sF (.str w),.un,.un]) rfl (jV (zO it lp) rfl))))))) rfl
end
theorem zJa{h:Nat}{i:Int}{a b:OT}(ia:F_slots_read h [sF a.d]=.ok (.ow .lst ((a.sl.map .int).map .fz),[.un]))(ib:F_slots_read h [sF b.d]=.ok (.ow .lst ((b.sl.map .int).map .fz),[.un]))(hl:a.sc+b.sc<=1000):F_slots_read (h+1) [sF (OT.bind i a b).d]=.ok (.ow .lst (((OT.bind i a b).sl.map .int).map .fz),[.un]):=by
 have e:(OT.bind i a b).d =.tup [.str "bind",.int i,a.d,b.d]:=by rw[OT.d]
 rw[e,OT.sl];have la:=yD a;have lb:=yD b;have lf:=List.length_filter_le (fun j=>!(j == i)) b.sl;generalize ha:a.d=da at *;generalize hb:b.d=db at *;have c:∀{k:Int} {z:D} {d:D} {l:List Int},F_slots_read h [sF z]=.ok (.ow .lst ((l.map .int).map .fz),[.un])->oV (oIx (oN 0) (oC (.int k))) [sF (.tup [.str "bind",.int i,da,db]),sF (.str "bind"),.un,.un]=.ok (z,[sF (.tup [.str "bind",.int i,da,db]),sF (.str "bind"),.un,.un])->fzS (qN (F_slots_read h) [(.v (oV (oIx (oN 0) (oC (.int k)))))]) [sF (.tup [.str "bind",.int i,da,db]),sF (.str "bind"),.un,.un]=.ok (.nd .lst (l.map .int),[sF (.tup [.str "bind",.int i,da,db]),sF (.str "bind"),.un,.un]):=fun {k z d l} hF hv=>by
  refine wV (o:=.ow .lst ((l.map .int).map .fz)) (vK (vH hv (vG rfl) rfl) ?_) (by rw[vY]);show(F_slots_read h [sF z]).bind _=_;rw[hF];rfl
 have ca:=c (k:=2) (d:=.non) ia rfl;have cb:=c (k:=3) (d:=.non) ib rfl;obtain⟨y',cl⟩:=fl_comp (i:=i) (w:="bind") (d2:=da) (d3:=db) b.sl .un;have cf:fzS (compS 2 [(1,0)] [0] (iV (fzS (qN (F_slots_read h) [(.v (oV (oIx (oN 0) (oC (.int 3)))))]))) (gN 0) (asB (o2 neF (oN 0) (oIx (oN 1) (oC (.int 1))))) (oV (oN 0))) [sF (.tup [.str "bind",.int i,da,db]),sF (.str "bind"),.un,.un]=.ok (.nd .lst ((b.sl.filter fun j=>!(j == i)).map .int),[sF (.tup [.str "bind",.int i,da,db]),sF (.str "bind"),.un,.un]):=by
  refine qQo (qZt cb rfl rfl) ?_ cl rfl;rw[aW,decide_eq_true (aM (show b.sl.length<=1000 by omega) (by decide))];rfl
 have ct:=cat2 (jG ca rfl) (jG cf rfl) (by rw[aW,aW];omega);rw[←bG]at ct;show fnS 1 3 _ _=_;exact vW (qJ (o:=.fz (.str "bind")) (e:=[sF (.tup [.str "bind",.int i,da,db]),.un,.un,.un]) rfl (qD (q:=false) (e:=[sF (.tup [.str "bind",.int i,da,db]),sF (.str "bind"),.un,.un]) rfl (qF (qD (q:=true) (e:=[sF (.tup [.str "bind",.int i,da,db]),sF (.str "bind"),.un,.un]) rfl (qZh ct rfl))))) rfl
theorem vJm(n:D):qI [sF (.tup [.str "draw",n])]=.ok (.ow .lst [],[.un]):=by kernel_rfl
theorem vK9:∀{as:List OT} {a:OT},a∈as->a.sc<=OT.scs as
 |[],_,h=>by cases h
 | b::as,a,h=>by
   rw[OT.scs];rcases aG.mp h with q|q
   ·rw[q];omega
   ·have:=vK9 q;omega
theorem zX4:∀{as:List OT} {a:OT},a∈as->a.h<=OT.hs as
 |[],_,h=>by cases h
 | b::as,a,h=>by
   rw[OT.hs];rcases aG.mp h with q|q
   ·rw[q];omega
   ·have:=zX4 q;omega
theorem zQh:∀{as:List OT} {a:OT},OT.oks as->a∈as->a.ok
 |[],_,_,h=>by cases h
 | b::as,a,o,h=>by
   rcases aG.mp h with q|q
   ·rw[q];exact o.1
   ·exact zQh o.2 q
theorem jW:∀(h:Nat) (t:OT),t.ok->t.h<=h->t.sc<=1000->F_slots_read h [sF t.d]=.ok (.ow .lst ((t.sl.map .int).map .fz),[.un])
 | 0,t,_,hh,_=>by cases t <;> rw[OT.h]at hh <;> omega
 |h+1,.slot i,_,_,_=>by rw[OT.d,OT.sl];kernel_rfl
 | h + 1, .num n,_,_,_=>by
   have:=yW (h:=h) (t:=.num n) (ps:=[]) (by rw[OT.d]) (by decide +kernel) (by decide +kernel) (by rw[OT.d];exact qKr _) (fun a ha=>by cases ha) (by rw[OT.scs];omega);rw[OT.sl];exact this
 | h + 1, .draw n,_,_,_=>by
   have:=yW (h:=h) (t:=.draw n) (ps:=[]) (by rw[OT.d]) (by decide +kernel) (by decide +kernel) (by rw[OT.d];exact vJm _) (fun a ha=>by cases ha) (by rw[OT.scs];omega);rw[OT.sl];exact this
 | h + 1, .op s a b,o,hh,hs=>by
   rw[OT.h]at hh;rw[OT.sc]at hs;have:=yW (h:=h) (t:=.op s a b) (ps:=[a,b]) (by rw[OT.d]) (by decide +kernel) (by decide +kernel) (by rw[OT.d];exact qYa _ _ _) (fun x hx=>by rcases aG.mp hx with q|q;rw[q];exact jW h a o.1 (by omega) (by omega);rw[bJ.mp q];exact jW h b o.2 (by omega) (by omega)) (by rw[OT.scs,OT.scs,OT.scs];omega);rw[OT.sl];exact this
 | h + 1, .rest a n,o,hh,hs=>by
   rw[OT.h]at hh;rw[OT.sc]at hs;have:=yW (h:=h) (t:=.rest a n) (ps:=[a]) (by rw[OT.d]) (by decide +kernel) (by decide +kernel) (by rw[OT.d];exact qJd _ _) (fun x hx=>by rw[bJ.mp hx];exact jW h a o.1 (by omega) (by omega)) (by rw[OT.scs,OT.scs];omega);rw[OT.sl];exact this
 | h + 1, .field a n,o,hh,hs=>by
   rw[OT.h]at hh;rw[OT.sc]at hs;have:=yW (h:=h) (t:=.field a n) (ps:=[a]) (by rw[OT.d]) (by decide +kernel) (by decide +kernel) (by rw[OT.d];exact qV8 _ _) (fun x hx=>by rw[bJ.mp hx];exact jW h a o (by omega) (by omega)) (by rw[OT.scs,OT.scs];omega);rw[OT.sl];exact this
 | h + 1, .ite c a b,o,hh,hs=>by
   rw[OT.h]at hh;rw[OT.sc]at hs;have:=yW (h:=h) (t:=.ite c a b) (ps:=[c,a,b]) (by rw[OT.d]) (by decide +kernel) (by decide +kernel) (by rw[OT.d];exact qWj _ _ _) (fun x hx=>by rcases aG.mp hx with q|q;rw[q];exact jW h c o.1 (by omega) (by omega);rcases aG.mp q with q|q;rw[q];exact jW h a o.2.1 (by omega) (by omega);rw[bJ.mp q];exact jW h b o.2.2 (by omega) (by omega)) (by rw[OT.scs,OT.scs,OT.scs,OT.scs];omega);rw[OT.sl];exact this
 | h + 1, .rcd xs as,o,hh,hs=>by
   rw[OT.h]at hh;rw[OT.sc]at hs;have:=yW (h:=h) (t:=.rcd xs as) (ps:=as) (by rw[OT.d]) (by decide +kernel) (by decide +kernel) (vYc xs as o.1 o.2.1) (fun x hx=>jW h x (zQh o.2.2 hx) (by have:=zX4 hx;omega) (by have:=vK9 hx;omega)) hs;exact this
 | h + 1, .bind i a b,o,hh,hs=>by
   rw[OT.h]at hh;rw[OT.sc]at hs;exact zJa (jW h a o.1 (by omega) (by omega)) (jW h b o.2 (by omega) (by omega)) hs
end FM
namespace LG
open PySem L2 DX FP LWF FM PyProof.Rows
variable{p:Int}{l:List Int}{kn ns:List Str}{x8 x7 x9 x10:Slot}{R:List Rw}{env e e1 e2:Ev}{κ:Type}{g:SG}{body:SS}{c dp:Bool}{o':Os}
inductive Lf(c:Bool):Tm->Nat->Prop
 |num {n:Int} (h:okI n):Lf c (.num n) 0
 |flip (h:c=true) (a b:Int):Lf c (.flip a b) 1
 |pick (h:c=true) (ps:List (Int×Int)):Lf c (.pick ps) 1
inductive GT(kn:List Str)(c dp:Bool):Tm->List Str->Nat->Prop
 |leaf {d:Tm} {k:Nat} (l:Lf c d k):GT kn c dp d [] k
 |plus {x:Str} {d:Tm} {k:Nat} (h:x∈kn) (l:Lf c d k):GT kn c dp (.op .add (.name x) d) [x] k
 |ite {x y:Str} {d:Tm} {k:Nat} (h:x∈kn) (h' :y∈kn) (l:Lf c d k):GT kn c dp (.ite (.name x) d (.name y)) [x,y] k
 |op2 (s:Sg) {x y:Str} (h:x∈kn) (h' :y∈kn):GT kn c dp (.op s (.name x) (.name y)) [x,y] 0
 |rest {x:Str} {n m:Int} (h:x∈kn) (hn:okI n) (hm:0<m):GT kn c dp (.rest (.op .add (.name x) (.num n)) m) [x] 0
 |fld {x:Str} {d:Tm} {k:Nat} (f:Str) (h:x∈kn) (l:Lf c d k):GT kn c dp (.field (.rcd ["q","p"] [.name x,d]) f) [x] k
 |g {x:Str} (h:x∈kn) (hd:dp=true):GT kn c dp (.call "g" [.name x]) [x] 0
 |f {x:Str} {d:Tm} {k:Nat} (h:x∈kn) (l:Lf c d k):GT kn c dp (.call "f" [.name x,d]) [x] k
section
variable{kn:List Str}{c dp:Bool}{t:Tm}{ns:List Str}{k:Nat}
theorem zZz(g:GT kn c dp t ns k):wK 30 [sF t.d]=.ok (.fz (.int (k:Nat)),[.un]):=by
 cases g with
 |leaf l=>cases l <;> (simp only[Tm.d];kernel_rfl)
 |plus h l=>cases l <;> (simp only[Tm.d];kernel_rfl)
 |ite h h' l=>cases l <;> (simp only[Tm.d];kernel_rfl)
 |op2 s h h' =>simp only[Tm.d];kernel_rfl
 |rest h hn hm=>simp only[Tm.d];kernel_rfl
 |fld f h l=>cases l <;> (simp only[Tm.d];kernel_rfl)
 |g h hd=>simp only[Tm.d];kernel_rfl
 |f h l=>cases l <;> (simp only[Tm.d];kernel_rfl)
theorem zV2(g:GT kn c dp t ns k):jK 30 [sF t.d]=.ok (.ow .lst ((ns.map D.str).map .fz),[.un]):=by
 cases g with
 |leaf l=>cases l <;> (simp only[Tm.d];kernel_rfl)
 |plus h l=>cases l <;> (simp only[Tm.d];kernel_rfl)
 |ite h h' l=>cases l <;> (simp only[Tm.d];kernel_rfl)
 |op2 s h h' =>simp only[Tm.d];kernel_rfl
 |rest h hn hm=>simp only[Tm.d];kernel_rfl
 |fld f h l=>cases l <;> (simp only[Tm.d];kernel_rfl)
 |g h hd=>simp only[Tm.d];kernel_rfl
 |f h l=>cases l <;> (simp only[Tm.d];kernel_rfl)
theorem zQr(g:GT kn c dp t ns k):∀x∈ns,x∈kn:=by
 cases g <;> intro z hz <;> simp at hz
 all_goals (try rcases hz with rfl|rfl)
 all_goals assumption
theorem qXx(g:GT kn c dp t ns k):ns.length<=2/\k<=1/\(k=1->c=true):=by
 cases g with
 |leaf l|plus _ l|ite _ _ l|fld _ _ l|f _ l=>cases l <;> simp_all
 |op2|rest|g=>simp
theorem zX5(g:GT kn c dp t ns k):t.wf/\t.h<=4:=by
 cases g with
 |leaf l|plus _ l|ite _ _ l|fld _ _ l|f _ l=>cases l <;> simp[Tm.wf,Tm.wfs,Tm.h,Tm.hs]
 |op2|rest|g=>simp[Tm.wf,Tm.wfs,Tm.h,Tm.hs]
end
noncomputable def qWz:Tm:=.op .add (.name "y") (.name "y")
noncomputable def qVf:Tm:=.call "f" [.name "x",.call "f" [.name "x",.name "x"]]
noncomputable def hsFG:Hs:=[("f",(["x","y"],qWz)),("g",(["x"],qVf))]
theorem cnt{s:Sd}(h:s.tm<600):count s=.ok {s with tm:=s.tm+1}:=by unfold count;rw[if_pos h]
theorem drw{s:Sd}{w:List (Int×Int)}(h:s.dr.length<60):qZi w s=.ok (.draw s.dr.length,{s with dr:=s.dr ++ [w]}):=by unfold qZi;rw[if_pos h]
structure Opd(ν:Nm)(s:Sd)(ns:List Str)(k m:Nat)(o:OT)(s' :Sd):Prop where
 dr:s'.dr.length=s.dr.length+k
 tm:s'.tm<=s.tm+(m:Nat)
 sl:s.sl<=s'.sl
 rd:o.sl=ns.map fun x=>(getA ν x).getD 0
 ok:o.ok
 hh:o.h<=7
 sc:o.sc<=30
section
variable{kn:List Str}{c dp:Bool}{t d:Tm}{ns:List Str}{k:Nat}{ν:Nm}{s:Sd}{x y:Str}{i j:Int}{h:Nat}
theorem leaf_o(l:Lf c d k)(h1:s.tm<600)(h2:s.dr.length+k<=60):∃o w,qP hsFG (h+1) ν d s=.ok (o,{s with tm:=s.tm+1,dr:=s.dr ++ w})/\w.length=k/\o.sl=[]/\o.ok/\o.h=1/\o.sc=0:=by
 cases l with
 |num hn=>exact⟨.num _,[],by rw[qP,cnt h1,bL];rfl,rfl,by rw[OT.sl],by rw[OT.ok];exact hn,by rw[OT.h],by rw[OT.sc]⟩
 |flip hc a b=>exact⟨.draw s.dr.length,[_],by rw[qP,cnt h1];exact drw (by show s.dr.length<60;omega),rfl,by rw[OT.sl],by rw[OT.ok];trivial,by rw[OT.h],by rw[OT.sc]⟩
 |pick hc ps=>exact⟨.draw s.dr.length,[_],by rw[qP,cnt h1];exact drw (by show s.dr.length<60;omega),rfl,by rw[OT.sl],by rw[OT.ok];trivial,by rw[OT.h],by rw[OT.sc]⟩
theorem wP(e:getA ν x=some i)(h1:s.tm<600):qP hsFG (h+1) ν (.name x) s=.ok (.slot i,{s with tm:=s.tm+1}):=by
 rw[qP,cnt h1];show(match getA ν x with|none=>Res.no|some i=>Res.ok (OT.slot i,_))=_;rw[e]
end
section
variable{kn:List Str}{c dp:Bool}{t d a b:Tm}{ns:List Str}{k:Nat}{ν:Nm}{s s1 s2:Sd}{x y:Str}{i j:Int}{h:Nat}{oa ob:OT}
noncomputable abbrev fOT(p q:Int)(oa ob:OT):OT:=.bind p oa (.bind q ob (.op .add (.slot q) (.slot q)))
theorem vZ7(h0:s.tm<600)(ea:qP hsFG (h+2) ν a {s with tm:=s.tm+1}=.ok (oa,s1))(h1:s1.tm<600)(eb:qP hsFG (h+2) ν b {s1 with sl:=s1.sl+1,tm:=s1.tm+1}=.ok (ob,s2))(h2:s2.tm+3<=600):
  qP hsFG (h+3) ν (.call "f" [a,b]) s=.ok (fOT s1.sl s2.sl oa ob,{s2 with sl:=s2.sl+1,tm:=s2.tm+1+1+1}):=by
 show(zD (qP hsFG (h+2) ν) ["x","y"] [a,b] s [] []).bind _=_;have e:zD (qP hsFG (h+2) ν) ["x","y"] [a,b] s [] []=.ok ([("x",s1.sl),("y",s2.sl)],[(s1.sl,oa),(s2.sl,ob)],{s2 with sl:=s2.sl+1}):=by
  rw[zD,cnt h0];show(qP hsFG (h+2) ν a {s with tm:=s.tm+1}).bind _=_;rw[ea];show zD (qP hsFG (h+2) ν) ["y"] [b] {s1 with sl:=s1.sl+1} [("x",s1.sl)] [(s1.sl,oa)]=_;rw[zD,cnt (by exact h1)];show(qP hsFG (h+2) ν b {s1 with sl:=s1.sl+1,tm:=s1.tm+1}).bind _=_;rw[eb];rfl
 rw[e];show(qP hsFG (h+2) [("x",s1.sl),("y",s2.sl)] qWz {s2 with sl:=s2.sl+1}).bind _=_;have n:getA [(("x":Str),s1.sl),("y",s2.sl)] "y"=some s2.sl:=rfl;unfold qWz;rw[qP,cnt (by show s2.tm<600;omega)];show((qP hsFG (h+1) _ (.name "y") {s2 with sl:=s2.sl+1,tm:=s2.tm+1}).bind _).bind _=_;rw[wP n (by show s2.tm+1<600;omega)];show((qP hsFG (h+1) _ (.name "y") {s2 with sl:=s2.sl+1,tm:=s2.tm+1+1}).bind _).bind _=_;rw[wP n (by show s2.tm+1+1<600;omega)];rfl
theorem flt(h:∀q∈l,q<p):(l.filter fun j=>!(j == p))=l:=List.filter_eq_self.mpr fun q hq=>by have:=h q hq;simp;omega
theorem sl_f{q:Int}(h:∀z∈ob.sl,z<p):(fOT p q oa ob).sl =oa.sl ++ ob.sl:=by
 simp only[OT.sl,List.filter_append];rw[flt h];simp
theorem jQj(e:getA ν x=some i)(h0:s.tm+15<=600):∃o,qP hsFG 30 ν (.call "g" [.name x]) s=.ok (o,{s with sl:=s.sl+5,tm:=s.tm+15})/\o.sl=[i]/\o.ok/\o.h<=7/\o.sc<=30:=by
 refine⟨.bind s.sl (.slot i) (fOT (s.sl+1) (s.sl+4) (.slot s.sl) (fOT (s.sl+2) (s.sl+3) (.slot s.sl) (.slot s.sl))),?_,?_,?_,?_,?_⟩
 ·rw [qP];show(zD (qP hsFG 29 ν) ["x"] [.name x] s [] []).bind _=_;have e:zD (qP hsFG 29 ν) ["x"] [.name x] s [] []=.ok ([("x",s.sl)],[(s.sl,.slot i)],{s with sl:=s.sl+1,tm:=s.tm+1+1}):=by
   rw[zD,cnt (by omega)];show(qP hsFG 29 ν (.name x) {s with tm:=s.tm+1}).bind _=_;rw[wP e (by show s.tm+1<600;omega)];rfl
  rw[e];show(qP hsFG 29 [("x",s.sl)] qVf {s with sl:=s.sl+1,tm:=s.tm+1+1}).bind _=_;have n:getA [(("x":Str),s.sl)] "x"=some s.sl:=rfl;unfold qVf;rw[vZ7 (h:=26) (by show s.tm+1+1<600;omega) (wP n (by show s.tm+1+1+1<600;omega)) (by show s.tm+1+1+1+1<600;omega) (vZ7 (h:=25) (by show s.tm+1+1+1+1+1<600;omega) (wP n (by show s.tm+1+1+1+1+1+1<600;omega)) (by show s.tm+1+1+1+1+1+1+1<600;omega) (wP n (by show s.tm+1+1+1+1+1+1+1+1<600;omega)) (by show s.tm+1+1+1+1+1+1+1+1+1+3<=600;omega)) (by show s.tm+1+1+1+1+1+1+1+1+1+1+1+1+3<=600;omega)];show Res.ok _=Res.ok _;congr 1;simp only[Int.add_assoc];rfl
 ·rw [OT.sl,OT.sl,sl_f,sl_f]
  ·simp[OT.sl]
  ·intro z hz;simp[OT.sl]at hz;omega
  ·intro z hz;rw[sl_f (by intro z hz;simp[OT.sl]at hz;omega)]at hz;simp[OT.sl]at hz;omega
 ·simp[OT.ok]
 ·simp[OT.h]
 ·simp[OT.sc]
end
section
variable{kn:List Str}{c dp:Bool}{t d a b:Tm}{ns:List Str}{k:Nat}{ν:Nm}{s:Sd}
theorem op1(g:GT kn c dp t ns k)(hk:∀x∈kn,∃i,getA ν x=some i/\i<s.sl)(l1:s.dr.length+k<=60)(l2:s.tm+15<=600):∃o s',qP hsFG 30 ν t s=.ok (o,s')/\Opd ν s ns k (cond dp 15 7) o s' :=by
 have m7:7<=cond dp 15 7:=by cases dp <;> decide
 cases g with
 | leaf l=>
   obtain⟨o,w,e,hw,q1,q2,q3,q4⟩:=leaf_o (h:=29) (ν:=ν) (s:=s) l (by omega) l1;exact⟨o,_,e,by simp[hw],by dsimp only;omega,eY _,q1,q2,by omega,by omega⟩
 | @plus x d k h l=>
   obtain⟨i,e,hi⟩:=hk x h;obtain⟨o,w,e2,hw,q1,q2,q3,q4⟩:=leaf_o (h:=28) (ν:=ν) (s:={s with tm:=s.tm+1+1}) l (by dsimp only;omega) l1;refine⟨.op .add (.slot i) o,{s with tm:=s.tm+1+1+1,dr:=s.dr ++ w},?_,by simp[hw],by dsimp only;omega,eY _,by simp[OT.sl,q1,e],by simp[OT.ok,q2],by simp[OT.h,q3],by simp[OT.sc,q4]⟩;rw[qP,cnt (by omega)];show(qP hsFG 29 ν (.name x) {s with tm:=s.tm+1}).bind _=_;rw[wP e (by show s.tm+1<600;omega)];show(qP hsFG 29 ν d {s with tm:=s.tm+1+1}).bind _=_;rw[e2];rfl
 | @ite x y d k h h' l=>
   obtain⟨i,e,hi⟩:=hk x h;obtain⟨j,e',hj⟩:=hk y h';obtain⟨o,w,e2,hw,q1,q2,q3,q4⟩:=leaf_o (h:=28) (ν:=ν) (s:={s with tm:=s.tm+1+1}) l (by dsimp only;omega) l1;refine⟨.ite (.slot i) o (.slot j),{s with tm:=s.tm+1+1+1+1,dr:=s.dr ++ w},?_,by simp[hw],by dsimp only;omega,eY _,by simp[OT.sl,q1,e,e'],by simp[OT.ok,q2],by simp[OT.h,q3],by simp[OT.sc,q4]⟩;rw[qP,cnt (by omega)];show(qP hsFG 29 ν (.name x) {s with tm:=s.tm+1}).bind _=_;rw[wP e (by show s.tm+1<600;omega)];show(qP hsFG 29 ν d {s with tm:=s.tm+1+1}).bind _=_;rw[e2];show(qP hsFG 29 ν (.name y) {s with tm:=s.tm+1+1+1,dr:=s.dr ++ w}).bind _=_;rw[wP e' (by show s.tm+1+1+1<600;omega)];rfl
 | @op2 sg x y h h' =>
   obtain⟨i,e,hi⟩:=hk x h;obtain⟨j,e',hj⟩:=hk y h';refine⟨.op sg (.slot i) (.slot j),{s with tm:=s.tm+1+1+1},?_,rfl,by dsimp only;omega,eY _,by simp[OT.sl,e,e'],by simp[OT.ok],by simp[OT.h],by simp[OT.sc]⟩;rw[qP,cnt (by omega)];show(qP hsFG 29 ν (.name x) {s with tm:=s.tm+1}).bind _=_;rw[wP e (by show s.tm+1<600;omega)];show(qP hsFG 29 ν (.name y) {s with tm:=s.tm+1+1}).bind _=_;rw[wP e' (by show s.tm+1+1<600;omega)];rfl
 | @rest x n m h hn hm=>
   obtain⟨i,e,hi⟩:=hk x h;refine⟨.rest (.op .add (.slot i) (.num n)) m,{s with tm:=s.tm+1+1+1+1},?_,rfl,by dsimp only;omega,eY _,by simp[OT.sl,e],by simp[OT.ok,hn,hm],by simp[OT.h],by simp[OT.sc]⟩;rw[qP,cnt (by omega)];show(qP hsFG 29 ν (.op .add (.name x) (.num n)) {s with tm:=s.tm+1}).bind _=_;rw[qP,cnt (by show s.tm+1<600;omega)];show((qP hsFG 28 ν (.name x) {s with tm:=s.tm+1+1}).bind _).bind _=_;rw[wP e (by show s.tm+1+1<600;omega)];show((qP hsFG 28 ν (.num n) {s with tm:=s.tm+1+1+1}).bind _).bind _=_;rw[qP,cnt (by show s.tm+1+1+1<600;omega)];rfl
 | @fld x d k f h l=>
   obtain⟨i,e,hi⟩:=hk x h;obtain⟨o,w,e2,hw,q1,q2,q3,q4⟩:=leaf_o (h:=27) (ν:=ν) (s:={s with tm:=s.tm+1+1+1}) l (by dsimp only;omega) l1;refine⟨.field (.rcd ["q","p"] [.slot i,o]) f,{s with tm:=s.tm+1+1+1+1,dr:=s.dr ++ w},?_,by simp[hw],by dsimp only;omega,eY _,by simp[OT.sl,OT.sls,q1,e],by simp[OT.ok,OT.oks,q2],by simp[OT.h,OT.hs,q3],by simp[OT.sc,OT.scs,q4]⟩;rw[qP,cnt (by omega)];show(qP hsFG 29 ν (.rcd ["q","p"] [.name x,d]) {s with tm:=s.tm+1}).bind _=_;rw[qP,cnt (by show s.tm+1<600;omega)];show((qVe (qP hsFG 28 ν) [.name x,d] {s with tm:=s.tm+1+1}).bind _).bind _=_;rw[qVe,wP e (by show s.tm+1+1<600;omega)];show(((qVe (qP hsFG 28 ν) [d] {s with tm:=s.tm+1+1+1}).bind _).bind _).bind _=_;rw[qVe,e2];rfl
 | @g x h hd=>
   obtain⟨i,e,hi⟩:=hk x h;obtain⟨o,e1,q1,q2,q3,q4⟩:=jQj e l2;subst hd;exact⟨o,_,e1,rfl,by show s.tm+15<=_;exact eY _,by dsimp only;omega,by simp[q1,e],q2,q3,q4⟩
 | @f x d k h l=>
   obtain⟨i,e,hi⟩:=hk x h;obtain⟨o,w,e2,hw,q1,q2,q3,q4⟩:=leaf_o (h:=28) (ν:=ν) (s:={s with sl:=s.sl+1,tm:=s.tm+1+1+1}) l (by dsimp only;omega) l1;refine⟨_,_,vZ7 (h:=27) (by omega) (wP e (by show s.tm+1<600;omega)) (by show s.tm+1+1<600;omega) e2 (by show s.tm+1+1+1+1+3<=600;omega),by simp[hw],by dsimp only;omega,by dsimp only;omega,?_,by simp[OT.ok,q2],by simp[OT.h,q3],by simp[OT.sc,q4]⟩;rw[sl_f (by rw[q1];intro z hz;cases hz)];simp[OT.sl,q1,e]
end
noncomputable abbrev fzI(n:Int):Slot:=sF (.int n)
noncomputable abbrev fzB(b:Bool):Slot:=sF (.bl b)
theorem zZt(m:Int)(c:Bool):∃d k,Lf c d k/\yN [fzI m,fzB c]=.ok (.fz d.d,[.un,.un]):=by
 cases c with
 |false=>exact⟨.num (m % 5),0,.num ⟨by omega,by omega⟩,by rw[Tm.d];kernel_rfl⟩
 | true=>
   have t:∀{x y:Slot},asB (o2 eqD (oMod (oN 0) (oC (.int 3))) (oC (.int 0))) [fzI m,fzB true,x,y]=.ok (m % 3 == 0,[fzI m,fzB true,x,y]):=by intros;kernel_rfl
   cases q:m % 3 == 0 with
   | false=>
     rw[q]at t;refine⟨.flip (1+m / 3 % 7) (1+m / 3 % 7+1+m / 21 % 9),1,.flip rfl _ _,?_⟩;exact vW (qD (q:=false) (e:=[fzI m,fzB true,.un,.un]) rfl (qF (qD t (qF rfl)))) rfl
   | true=>
     rw[q]at t;have rg:∀{l:List D},rg1 [.int (1+m / 3 % 2)]=some l->iL rg1 [(oV (oAdd (oC (.int 1)) (oMod (oDiv (oN 0) (oC (.int 3))) (oC (.int 2)))))] [fzI m,fzB true,.un,.un]=.ok (l,[fzI m,fzB true,.un,.un]):=fun h=>qZu (xs:=[.int (1+m / 3 % 2)]) rfl h rfl
     rcases(by omega:m / 3 % 2=0\/m / 3 % 2=1) with w|w
     ·have rg:=rg (l:=[.int 0]) (by rw [w];rfl);refine⟨.pick [(m / 3 % 4+5 * 0,1+m / (0+4) % 999)],1,.pick rfl _,?_⟩;exact vW (qD (q:=false) (e:=[fzI m,fzB true,.un,.un]) rfl (qF (qD t (qWg (qJ (qJq rg rfl rfl rfl) rfl))))) rfl
     ·have rg:=rg (l:=[.int 0, .int 1]) (by rw [w];rfl);refine⟨.pick [(m / 3 % 4+5 * 0,1+m / (0+4) % 999),(m / 3 % 4+5 * 1,1+m / (1+4) % 999)],1,.pick rfl _,?_⟩;exact vW (qD (q:=false) (e:=[fzI m,fzB true,.un,.un]) rfl (qF (qD t (qWg (qJ (qJq rg rfl rfl rfl) rfl))))) rfl
noncomputable abbrev lsD(kn:List Str):D:=.nd .lst (kn.map .str)
theorem md{m r n:Int}(hn:0<n)(h:m % n=r):i2g (fun _ j=>0<j) (fun i j=>i % j) (.int m) (.int n)=some (.int r):=by
 show(if 0<n then some (D.int (m % n)) else none)=_;rw[if_pos hn,h]
theorem zXx(hk:kn≠ [])(m:Int):∃x∈kn,ixD (lsD kn) (.int (m % (kn.length:Nat)))=some (.str x):=by
 have h0:0<kn.length:=List.length_pos_iff.mpr hk;have h1:=Int.emod_nonneg m (show((kn.length:Nat):Int)≠0 by omega);have h2:=Int.emod_lt_of_pos m (show(0:Int)<(kn.length:Nat) by omega);obtain⟨j,hj⟩:=Int.eq_ofNat_of_zero_le h1;rw[hj]at h2⊢;have hl:j<kn.length:=by omega
 refine⟨kn[j],List.getElem_mem hl,?_⟩;exact vXs (show(kn.map D.str)[j]?=some (.str kn[j]) by rw[List.getElem?_map,aF hl];rfl)
section
variable{kn:List Str}{x y:Str}{c dp:Bool}{n m j:Int}{d:D}{x0 x2 x3 x4 x6 x7 x8:Slot}
noncomputable abbrev tE(x0:Slot)(kn:List Str)(x2 x3:Slot)(j m:Int)(d:D)(x y:Str):Ev:=[x0,sF (lsD kn),x2,x3,fzI j,fzI m,sF d,sF (.tup [.str "name",.str x]),sF (.tup [.str "name",.str y])]
theorem qZ9{s c:Str}{n r:Int}(hn:0<n)(h:m / 56 % n=r)(hc:ixD (.str s) (.int r)=some (.str c)):oV (oIx (oC (.str s)) (oMod (oDiv (oN 5) (oC (.int 56))) (oC (.int n)))) (tE x0 kn x2 x3 j m d x y)=.ok (.str c,tE x0 kn x2 x3 j m d x y):=by
 refine zR (xX (h1:=.d (.str s)) (h2:=.d (.int r)) rfl (zK (h1:=.d (.int (m / 56))) (h2:=.d (.int n)) rfl rfl rfl rfl rfl (md hn h) rfl) rfl rfl ?_ rfl) rfl;show(ixD (.str s) (.int r)).map Hn.d=_;rw[hc];rfl
theorem sg_ix:∃s:Sg,oV (oIx (oC (.str "*=<-")) (oMod (oDiv (oN 5) (oC (.int 56))) (oC (.int 4)))) (tE x0 kn x2 x3 j m d x y)=.ok (.str s.s,tE x0 kn x2 x3 j m d x y):=by
 rcases(by omega:m / 56 % 4=0\/m / 56 % 4=1\/m / 56 % 4=2\/m / 56 % 4=3) with w|w|w|w
 ·exact⟨.mul,qZ9 (by decide) w (by kernel_rfl)⟩
 ·exact⟨.eq,qZ9 (by decide) w (by kernel_rfl)⟩
 ·exact⟨.lt,qZ9 (by decide) w (by kernel_rfl)⟩
 ·exact⟨.sub,qZ9 (by decide) w (by kernel_rfl)⟩
theorem fn_ix:∃s:Str,oV (oIx (oC (.str "pqr")) (oMod (oDiv (oN 5) (oC (.int 56))) (oC (.int 3)))) (tE x0 kn x2 x3 j m d x y)=.ok (.str s,tE x0 kn x2 x3 j m d x y):=by
 rcases(by omega:m / 56 % 3=0\/m / 56 % 3=1\/m / 56 % 3=2) with w|w|w
 ·exact⟨"p",qZ9 (by decide) w (by kernel_rfl)⟩
 ·exact⟨"q",qZ9 (by decide) w (by kernel_rfl)⟩
 ·exact⟨"r",qZ9 (by decide) w (by kernel_rfl)⟩
end
theorem dts_of{f:Str->D}(hf:∀x,f x=.str x):∀kn:List Str,∃a,dtsOf (kn.map f)=some a/\Dt.hgts a=0/\a.length=kn.length
 |[]=>⟨[],by rw[List.map_nil,dtsOf],by rw[Dt.hgts],rfl⟩
 | x::kn=>by
   obtain⟨a,e,h,l⟩:=dts_of hf kn;exact⟨.str x::a,by rw[aS,hf,dtsOf,e,dtOf],by rw[Dt.hgts,h];rfl,by simp[l]⟩
section
variable{kn:List Str}{c dp:Bool}{n:Int}
set_option maxHeartbeats 4000000 in
theorem vWf(n:Int)(kn:List Str)(c dp:Bool):∃t ns k,GT kn c dp t ns k/\xJ [fzI n,sF (lsD kn),fzB c,fzB dp]=.ok (.fz t.d,[.un,.un,.un,.un]):=by
 obtain⟨d,k,l,hd⟩:=zZt (n / 8 / 56) c;have ca:∀{j:Int} {x6 x7 x8:Slot},qN yN [(.v (oV (oDiv (oN 5) (oC (.int 56))))),(.v (oV (oN 2)))] [fzI n,sF (lsD kn),fzB c,fzB dp,fzI j,fzI (n / 8),x6,x7,x8]=.ok (.fz d.d,[fzI n,sF (lsD kn),fzB c,fzB dp,fzI j,fzI (n / 8),x6,x7,x8]):=by
  intros;exact vK (vH (d:=.int (n / 8 / 56)) rfl (vH (d:=.bl c) rfl (vG rfl) rfl) rfl) (qO rfl rfl rfl hd rfl rfl rfl)
 by_cases hk:kn=[]
 ·subst hk;exact⟨d,[],k,.leaf l,vW (qJ (o:=.fz (.int (n % 8))) rfl (qJ (o:=.fz (.int (n / 8))) rfl (qJ ca (qD (q:=true) rfl (qZh rfl rfl))))) rfl⟩
 ·have hp:(0:Int) < ((kn.map D.str).length :Nat):=by rw [aW];have:=List.length_pos_iff.mpr hk;omega
  obtain⟨x,hx,ex⟩:=zXx hk (n / 8);obtain⟨y,hy,ey⟩:=zXx hk (n / 8 / 7);have kd:∀{j:Int},n % 8=j->owS (oV (oMod (oN 0) (oC (.int 8)))) [fzI n,sF (lsD kn),fzB c,fzB dp,.un,.un,.un,.un,.un]=.ok (.fz (.int j),[fzI n,sF (lsD kn),fzB c,fzB dp,.un,.un,.un,.un,.un]):=fun h=>by rw[←h];rfl
  have kn0:∀{e:Ev},asB (o2 eqD (oN 1) (.v (fzS (eLst [])))) (fzI n::sF (lsD kn)::e)=.ok (false,fzI n::sF (lsD kn)::e):=by
   intro e;refine xG (d:=.bl false) (zR (zK (h1:=.d (lsD kn)) (h2:=.d (.nd .lst [])) rfl rfl rfl rfl rfl ?_ rfl) rfl) rfl rfl;obtain⟨a,e,h,l⟩:=dts_of (f:=D.str) (fun _=>rfl) kn;show((dtsOf (kn.map D.str)).bind fun a=>(dtsOf []).bind fun b=>if Dt.hgts a<=30 then some (Dt.beqs a b) else none).map D.bl=_;rw[e,dtsOf,bH,bH,if_pos (by omega)];cases a with
   |nil=>exact absurd (List.length_eq_zero_iff.mp l.symm) hk
   |cons=>rw[Dt.beqs];rfl;simp;simp
  have nx:∀{e:Ev} {a b j:Slot} {oa:Oe} {z:Str} {w:Int},evO oa (fzI n::sF (lsD kn)::a::b::j::fzI (n / 8)::e)=.ok (.d (.int w),fzI n::sF (lsD kn)::a::b::j::fzI (n / 8)::e)->oa.isP=true->ixD (lsD kn) (.int (w % (kn.length:Nat)))=some (.str z)->owS (svTup [(oV (oC (.str "name"))),(oV (oIx (oN 1) (oMod oa (oL lenD [(oN 1)]))))]) (fzI n::sF (lsD kn)::a::b::j::fzI (n / 8)::e)=.ok (.fz (.tup [.str "name",.str z]),fzI n::sF (lsD kn)::a::b::j::fzI (n / 8)::e):=by
   intro e a b j oa z w ho hP hz;refine xU (qQr (qR (d:=.str "name") rfl (qR (zR (xX (h1:=.d (lsD kn)) (h2:=.d (.int (w % ((kn.map D.str).length :Nat)))) rfl (zK (h1:=.d (.int w)) (h2:=.d (.int ((kn.map D.str).length :Nat))) ho rfl rfl rfl rfl (md hp rfl) rfl) rfl rfl ?_ rfl) rfl) (zM rfl) rfl) rfl) rfl rfl) rfl;show(ixD (lsD kn) _).map Hn.d=_;rw[aW,hz];rfl
  have n1:=fun {e:Ev} {a b j:Slot}=>nx (e:=e) (a:=a) (b:=b) (j:=j) (oa:=oN 5) (w:=n / 8) rfl rfl ex
  have n2:=fun {e:Ev} {a b j:Slot}=>nx (e:=e) (a:=a) (b:=b) (j:=j) (oa:=oDiv (oN 5) (oC (.int 7))) (w:=n / 8 / 7) rfl rfl ey
  have s2:∀{j:Int},owS (oV (oDiv (oN 0) (oC (.int 8)))) [fzI n,sF (lsD kn),fzB c,fzB dp,fzI j,.un,.un,.un,.un]=.ok (.fz (.int (n / 8)),[fzI n,sF (lsD kn),fzB c,fzB dp,fzI j,.un,.un,.un,.un]):=rfl;obtain⟨sg,hs⟩:=sg_ix (x0:=fzI n) (kn:=kn) (x2:=fzB c) (x3:=fzB dp) (j:=3) (m:=n / 8) (d:=d.d) (x:=x) (y:=y);obtain⟨f,hf⟩:=fn_ix (x0:=fzI n) (kn:=kn) (x2:=fzB c) (x3:=fzB dp) (j:=5) (m:=n / 8) (d:=d.d) (x:=x) (y:=y);rcases(by omega:n % 8=0\/n % 8=1\/n % 8=2\/n % 8=3\/n % 8=4\/n % 8=5\/n % 8=6\/n % 8=7) with h|h|h|h|h|h|h|h
  ·exact⟨d,[],k,.leaf l,vW (qJ (kd h) (qJ s2 (qJ ca (qD kn0 (qF (qJ n1 (qJ n2 rfl))))))) rfl⟩
  ·exact⟨_,_,k,.plus hx l,vW (qJ (kd h) (qJ s2 (qJ ca (qD kn0 (qF (qJ n1 (qJ n2 rfl))))))) (by rw[Tm.d,Tm.d];rfl)⟩
  ·exact⟨_,_,k,.ite hx hy l,vW (qJ (kd h) (qJ s2 (qJ ca (qD kn0 (qF (qJ n1 (qJ n2 rfl))))))) (by rw[Tm.d,Tm.d,Tm.d];rfl)⟩
  ·exact⟨_,_,0,.op2 sg hx hy,vW (qJ (kd h) (qJ s2 (qJ ca (qD kn0 (qF (qJ n1 (qJ n2 (qD (q:=false) rfl (qF (qD (q:=false) rfl (qF (qD (q:=true) rfl (qZh (xU (qQr (qR (d:=.str "op") rfl (qR hs (qR rfl (qR rfl (zM rfl) rfl) rfl) rfl) rfl) rfl rfl) rfl) rfl))))))))))))) (by rw[Tm.d,Tm.d,Tm.d];rfl)⟩
  ·exact⟨_,_,0,.rest hx (n:=n / 8 % 7) (m:=2+n / 8 % 3) ⟨by omega,by omega⟩ (by omega),vW (qJ (kd h) (qJ s2 (qJ ca (qD kn0 (qF (qJ n1 (qJ n2 rfl))))))) (by rw[Tm.d,Tm.d,Tm.d,Tm.d];rfl)⟩
  ·exact⟨_,_,k,.fld f hx l,vW (qJ (kd h) (qJ s2 (qJ ca (qD kn0 (qF (qJ n1 (qJ n2 (qD (q:=false) rfl (qF (qD (q:=false) rfl (qF (qD (q:=false) rfl (qF (qD (q:=false) rfl (qF (qD (q:=true) rfl (qZh (xU (qQr (qR (d:=.str "field") rfl (qR (d:=.tup [.str "record",.tup [.tup [.str "q",.tup [.str "name",.str x]],.tup [.str "p",d.d]]]) rfl (qR hf (zM rfl) rfl) rfl) rfl) rfl rfl) rfl) rfl))))))))))))))))) (by rw[Tm.d,Tm.d,Tm.ds,Tm.ds,Tm.ds,Tm.d];rfl)⟩
  ·have cn:∀{q:Bool},(n / 8 / 56 % 2 == 1)=q->bAnd (asB (o2 eqD (oN 4) (oC (.int 6)))) (bAnd (asB (oN 3)) (asB (o2 eqD (oMod (oDiv (oN 5) (oC (.int 56))) (oC (.int 2))) (oC (.int 1))))) (tE (fzI n) kn (fzB c) (fzB dp) 6 (n / 8) d.d x y)=.ok (dp && q,tE (fzI n) kn (fzB c) (fzB dp) 6 (n / 8) d.d x y):=fun e=>by
    rw[←e];cases dp <;> rfl
   cases hd:dp && (n / 8 / 56 % 2 == 1) with
   | true=>
     have cn:=cn rfl;rw[hd]at cn;exact⟨_,_,0,.g hx (by cases dp;cases hd;rfl),vW (qJ (kd h) <| qJ s2 <| qJ ca <| qD kn0 <| qF <| qJ n1 <| qJ n2 <| qD (q:=false) rfl <| qF <| qD (q:=false) rfl <| qF <| qD (q:=false) rfl <| qF <| qD (q:=false) rfl <| qF <| qD (q:=false) rfl <| qF <| qD cn <| qZh rfl rfl) (by rw[Tm.d,Tm.ds,Tm.ds,Tm.d];rfl)⟩
   | false=>
     have cn:=cn rfl;rw[hd]at cn;exact⟨_,_,k,.f hx l,vW (qJ (kd h) <| qJ s2 <| qJ ca <| qD kn0 <| qF <| qJ n1 <| qJ n2 <| qD (q:=false) rfl <| qF <| qD (q:=false) rfl <| qF <| qD (q:=false) rfl <| qF <| qD (q:=false) rfl <| qF <| qD (q:=false) rfl <| qF <| qD cn <| qF rfl) (by rw[Tm.d,Tm.ds,Tm.ds,Tm.ds,Tm.d];rfl)⟩
  ·exact⟨d,[],k,.leaf l,vW (qJ (kd h) (qJ s2 (qJ ca (qD kn0 (qF (qJ n1 (qJ n2 rfl))))))) rfl⟩
end
theorem ml{a b:Int}(h:IntMulOk a b):i2g IntMulOk (fun i j=>i * j) (.int a) (.int b)=some (.int (a * b)):=if_pos h
theorem bits:∀k:Nat,k<=40->Builtin.Int.intBits (k:Int)<=64:=by decide +kernel
noncomputable def xE:List Str:=["a","b","c","d","e","f","g","h"]
noncomputable abbrev rO(R:List Rw):Slot:=.s false (.ow .lst ((R.map Rw.d).map .fz))
noncomputable abbrev rE(x0:Slot)(room:Int)(R:List Rw)(x4:Slot)(k:Nat)(cell:Int)(x7 x8 x9 x10:Slot):Ev:=[x0,fzI room,sF (.str ""),rO R,x4,fzI (k:Nat),fzI cell,x7,x8,x9,x10]
section
variable{x0 x4 x7 x8 x9 x10:Slot}{room cell N:Int}{R:List Rw}{k:Nat}{w:Str}
theorem num_ok(hk:k<=40):∃N:Int,oV (oMod (oMul (oAdd (oAdd (oMod (oN 6) (oPow (oC (.int 10)) (oC (.int 15)))) (oMul (oMul (oC (.int 104729)) (oN 5)) (oN 5))) (oC (.int 11))) (oC (.int 48271))) (oC (.int 2147483647))) (rE x0 room R x4 k cell x7 x8 x9 x10)=.ok (.int N,rE x0 room R x4 k cell x7 x8 x9 x10):=by
 have m1:evO (oMul (oC (.int 104729)) (oN 5)) (rE x0 room R x4 k cell x7 x8 x9 x10)=.ok (.d (.int (104729 * (k:Nat))),rE x0 room R x4 k cell x7 x8 x9 x10):=zK (h1:=.d (.int 104729)) (h2:=.d (.int (k:Nat))) rfl rfl rfl rfl rfl (ml (.of_left (by decide +kernel))) rfl;have m2:evO (oMul (oMul (oC (.int 104729)) (oN 5)) (oN 5)) (rE x0 room R x4 k cell x7 x8 x9 x10)=.ok (.d (.int (104729 * (k:Nat) * (k:Nat))),rE x0 room R x4 k cell x7 x8 x9 x10):=zK m1 (h2:=.d (.int (k:Nat))) rfl rfl rfl rfl (ml (.of_right (bits k hk))) rfl;have m3:evO (oMod (oN 6) (oPow (oC (.int 10)) (oC (.int 15)))) (rE x0 room R x4 k cell x7 x8 x9 x10)=.ok (.d (.int (cell % 10 ^ 15)),rE x0 room R x4 k cell x7 x8 x9 x10):=by kernel_rfl
 exact⟨_,zR (zK (zK (zK (h2:=.d (.int 11)) (zK m3 m2 rfl rfl rfl rfl rfl) rfl rfl rfl rfl rfl rfl) (h2:=.d (.int 48271)) rfl rfl rfl rfl (ml (.of_right (by decide +kernel))) rfl) (h2:=.d (.int 2147483647)) rfl rfl rfl rfl (md (by decide) rfl) rfl) rfl⟩
theorem ix8:∀j:Nat,j<8->∃w∈xE,ixD (.str "abcdefgh") (.int (j:Nat))=some (.str w):=by
 intro j hj;match j,hj with
 | 0,_=>exact⟨"a",by simp[xE],by kernel_rfl⟩
 | 1,_=>exact⟨"b",by simp[xE],by kernel_rfl⟩
 | 2,_=>exact⟨"c",by simp[xE],by kernel_rfl⟩
 | 3,_=>exact⟨"d",by simp[xE],by kernel_rfl⟩
 | 4,_=>exact⟨"e",by simp[xE],by kernel_rfl⟩
 | 5,_=>exact⟨"f",by simp[xE],by kernel_rfl⟩
 | 6,_=>exact⟨"g",by simp[xE],by kernel_rfl⟩
 | 7,_=>exact⟨"h",by simp[xE],by kernel_rfl⟩
theorem add0:∀w∈xE,addS (.str w) (.str "")=some (.str w):=by
 intro w hw;simp only[xE,aG,List.not_mem_nil,or_false]at hw;rcases hw with rfl|rfl|rfl|rfl|rfl|rfl|rfl|rfl <;> kernel_rfl
theorem word_ok:∃w∈xE,oV (o2 addS (oIx (oC (.str "abcdefgh")) (oMod (oDiv (oN 7) (oC (.int 8))) (oC (.int 8)))) (oN 2)) (rE x0 room R x4 k cell (fzI N) x8 x9 x10)=.ok (.str w,rE x0 room R x4 k cell (fzI N) x8 x9 x10):=by
 obtain⟨j,hj⟩:=Int.eq_ofNat_of_zero_le (show 0<=N / 8 % 8 by omega);obtain⟨w,hw,e⟩:=ix8 j (by omega);refine⟨w,hw,zR (zK (h1:=.d (.str w)) (h2:=.d (.str "")) (xX (h1:=.d (.str "abcdefgh")) (h2:=.d (.int (N / 8 % 8))) rfl rfl rfl rfl ?_ rfl) rfl rfl rfl rfl (add0 w hw) rfl) rfl⟩;show(ixD (.str "abcdefgh") (.int (N / 8 % 8))).map Hn.d=_;grind
end
theorem vW5(x:Str):∀ps:List Str,inV (.str x) (ps.map V.str)=decide (x∈ps)
 |[]=>rfl
 | p::ps=>by
   have:=vW5 x ps;unfold inV at this⊢;rw[aS,dC,this];show((p == x) || _)=_;grind
theorem zK3{x:Str}{ps:List Str}:inB (.str x) (lsD ps)=some (decide (x∈ps)):=by
 show((some (V.str x)).bind fun v=>(allV (ps.map .str)).bind fun vs=>some (inV v vs))=_;rw[qYk];show some (inV (.str x) (ps.map V.str))=_;rw[vW5]
noncomputable abbrev kO(b:Bool)(kn:List Str):Slot:=.s false (cond b (.ow .lst ((kn.map D.str).map .fz)) (.fz (lsD kn)))
inductive Stp(k:Nat)(kn:List Str)(room:Int):Rw->List Str->Int->Prop
 |see {t:Tm} {ns:List Str} {d:Nat} {dp:Bool} (hd:dp=true->k<13) (g:GT kn (decide (1<=room)) dp t ns d):Stp k kn room (.see t) kn (room - d)
 |ag {m:Nat} {x:Str} {t:Tm} {ns:List Str} {d:Nat} {dp:Bool} (hx:x∈kn) (hm:m=1\/k<13/\m<=3) (hd:dp=true->k<13/\m=1) (g:GT kn (decide ((m:Int)<=room)) dp t ns d):Stp k kn room (.ag m x t) kn (room - m * d)
 |lt {x:Str} {t:Tm} {ns:List Str} {d:Nat} {dp:Bool} (hd:dp=true->k<13) (g:GT kn (decide (1<=room)) dp t ns d):Stp k kn room (.lt x t) (kn.filter (fun y=>!(y == x)) ++ [x]) (room - d)
section
variable{x0 x4 x7 x8 x9 x10:Slot}{room cell N:Int}{R:List Rw}{k:Nat}{w:Str}{b:Bool}{kn:List Str}{m:Int}
theorem zX0:asB (o2 inD (oN 8) (oN 4)) (rE x0 room R (kO b kn) k cell (fzI N) (sF (.str w)) x9 x10)=.ok (decide (w∈kn),rE x0 room R (kO b kn) k cell (fzI N) (sF (.str w)) x9 x10):=by
 have e:inD (.str w) (lsD kn)=some (.bl (decide (w∈kn))):=by unfold inD;rw[zK3];rfl
 cases b with
 |false=>exact xG (zR (zK (h1:=.d (.str w)) (h2:=.d (lsD kn)) rfl rfl rfl rfl rfl e rfl) rfl) rfl rfl
 |true=>exact xG (zR (zK (h1:=.d (.str w)) (h2:=.p 4 []) (y:=lsD kn) rfl rfl rfl rfl (by rw[show lsD kn=fzO (.ow .lst ((kn.map D.str).map .fz)) from(vY _).symm];rfl) e rfl) rfl) rfl rfl
theorem jVp:oV (oN 4) (rE x0 room R (kO b kn) k cell x7 x8 x9 x10)=.ok (lsD kn,rE x0 room R (kO false kn) k cell x7 x8 x9 x10):=by
 cases b with
 |false=>rfl
 | true=>
   show _=Res.ok (D.nd .lst (kn.map D.str),[x0,fzI room,sF (.str ""),rO R,.s false (.fz (.nd .lst (kn.map D.str))),fzI (k:Nat),fzI cell,x7,x8,x9,x10]);rw[←vY (k:=.lst) (kn.map D.str)];rfl
theorem term_s(m:Int):∃t ns d dp,(dp=true->k<13/\m=1)/\GT kn (decide (m<=room)) dp t ns d/\qN xJ [(.v (oV (oDiv (oN 7) (oC (.int 256))))),(.v (oV (oN 4))),(.v (oV (oLe (oN 9) (oN 1)))),(.v (oV (oAnd (oLt (oN 5) (oC (.int 13))) (o2 eqD (oN 9) (oC (.int 1))))))] (rE x0 room R (kO b kn) k cell (fzI N) x8 (fzI m) x10)=.ok (.fz t.d,rE x0 room R (kO false kn) k cell (fzI N) x8 (fzI m) x10):=by
 have h4:∃dp,(dp=true->k<13/\m=1)/\oV (oAnd (oLt (oN 5) (oC (.int 13))) (o2 eqD (oN 9) (oC (.int 1)))) (rE x0 room R (kO false kn) k cell (fzI N) x8 (fzI m) x10)=.ok (.bl dp,rE x0 room R (kO false kn) k cell (fzI N) x8 (fzI m) x10):=by
  have l:asB (oLt (oN 5) (oC (.int 13))) (rE x0 room R (kO false kn) k cell (fzI N) x8 (fzI m) x10)=.ok (decide (((k:Nat):Int)<13),rE x0 room R (kO false kn) k cell (fzI N) x8 (fzI m) x10):=rfl;by_cases h:k<13
  ·rw [decide_eq_true (by omega)] at l;refine⟨m == 1,fun e=>⟨h,by simpa using e⟩,zR (h1:=.d (.bl (m == 1))) (jG (d:=.bl (m == 1)) ?_ rfl) rfl⟩;exact vXr l rfl
  ·rw [decide_eq_false (by omega)] at l;exact⟨false,fun e=>(by cases e),zR (h1:=.d (.bl false)) (jG (d:=.bl false) (vXr l rfl) rfl) rfl⟩
 obtain⟨dp,hd,h4⟩:=h4;obtain⟨t,ns,d,g,ht⟩:=vWf (N / 256) kn (decide (m<=room)) dp;exact⟨t,ns,d,dp,hd,g,vK (vH (d:=.int (N / 256)) rfl (vH jVp (vH (d:=.bl (decide (m<=room))) rfl (vH h4 (vG rfl) rfl) rfl) rfl) rfl) (qO rfl rfl rfl ht rfl rfl rfl)⟩
end
section
variable{x0 x4 x7 x8 x9 x10:Slot}{room cell N:Int}{R:List Rw}{k:Nat}{w:Str}{b:Bool}{kn:List Str}
theorem vKw{r:Rw}{v:SV}(h:v (rE x0 room R (kO false kn) k cell x7 x8 x9 x10)=.ok (r.d,rE x0 room R (kO false kn) k cell x7 x8 x9 x10))(hl:R.length<=1000):eMu1 (pOf (oN 3)) (owS v) apF (rE x0 room R (kO false kn) k cell x7 x8 x9 x10)=.ok (.fz .non,rE x0 room (R ++ [r]) (kO false kn) k cell x7 x8 x9 x10):=by
 have ap:apF ((R.map Rw.d).map .fz) (.fz r.d)=some (.fz .non,((R ++ [r]).map Rw.d).map .fz):=by
  unfold apF;grind
 exact xF (i:=3) (π:=[]) (os0:=(R.map Rw.d).map .fz) (os:=(R.map Rw.d).map .fz) rfl rfl (xU h rfl) rfl rfl ap rfl
theorem rnd_ok:∃m:Nat,(m=1\/k<13/\N % 8=1/\w∈kn/\m<=3)/\∀{t:SS} {X:Res Out},t (rE x0 room R (kO b kn) k cell (fzI N) (sF (.str w)) (fzI (m:Nat)) x10)=X->sSeq (sIf (bAnd (asB (o2 eqD (oMod (oN 7) (oC (.int 8))) (oC (.int 1)))) (bAnd (asB (oLt (oN 5) (oC (.int 13)))) (asB (o2 inD (oN 8) (oN 4))))) (sSet 9 (owS (oV (oMod (oDiv (oN 7) (oC (.int 64))) (oC (.int 4)))))) sNil) t (rE x0 room R (kO b kn) k cell (fzI N) (sF (.str w)) (fzI 1) x10)=X:=by
 have c1:asB (o2 eqD (oMod (oN 7) (oC (.int 8))) (oC (.int 1))) (rE x0 room R (kO b kn) k cell (fzI N) (sF (.str w)) (fzI 1) x10)=.ok (N % 8 == 1,rE x0 room R (kO b kn) k cell (fzI N) (sF (.str w)) (fzI 1) x10):=rfl;have c2:asB (oLt (oN 5) (oC (.int 13))) (rE x0 room R (kO b kn) k cell (fzI N) (sF (.str w)) (fzI 1) x10)=.ok (decide (((k:Nat):Int)<13),rE x0 room R (kO b kn) k cell (fzI N) (sF (.str w)) (fzI 1) x10):=rfl;have c3:=zX0 (x0:=x0) (room:=room) (R:=R) (b:=b) (kn:=kn) (k:=k) (cell:=cell) (N:=N) (w:=w) (x9:=fzI 1) (x10:=x10);by_cases h:N % 8=1/\k<13/\w∈kn
 ·obtain⟨j,hj⟩:=Int.eq_ofNat_of_zero_le (show 0<=N / 64 % 4 by omega);refine⟨j,.inr ⟨h.2.1,h.1,h.2.2,by omega⟩,fun {t X} e=>?_⟩;have s:(owS (oV (oMod (oDiv (oN 7) (oC (.int 64))) (oC (.int 4))))) (rE x0 room R (kO b kn) k cell (fzI N) (sF (.str w)) (fzI 1) x10)=.ok (.fz (.int (N / 64 % 4)),rE x0 room R (kO b kn) k cell (fzI N) (sF (.str w)) (fzI 1) x10):=rfl;rw[hj]at s;rw[beq_iff_eq.mpr h.1]at c1;rw[decide_eq_true (by omega)]at c2;rw[decide_eq_true h.2.2]at c3;exact qD (yJ c1 (jL rfl (yJ c2 (jL rfl c3)))) (qJ s e)
 ·refine⟨1, .inl rfl,fun {t X} e=>?_⟩;refine qD (q:=false) (e:=rE x0 room R (kO b kn) k cell (fzI N) (sF (.str w)) (fzI 1) x10) ?_ e;by_cases h1:N % 8=1
  ·rw [beq_iff_eq.mpr h1] at c1;refine yJ c1 (jL rfl ?_);by_cases h2:k<13
   ·rw [decide_eq_true (by omega)] at c2;rw[decide_eq_false (fun z=>h ⟨h1,h2,z⟩)]at c3;exact yJ c2 (jL rfl c3)
   ·rw [decide_eq_false (by omega)] at c2;exact yJ c2 (zQ rfl rfl)
  ·rw [show(N % 8 == 1)=false by simpa using h1] at c1;exact yJ c1 (zQ rfl rfl)
theorem kn_flt:∀(ks:List Str) (y:Slot),∃y',wT (gN 0) (asB (o2 neF (oN 0) (oN 1))) (oV (oN 0)) (ks.map D.str) [y,sF (.str w)]=.ok ((ks.filter fun y=>!(y == w)).map D.str,[y',sF (.str w)])
 |[],y=>⟨y,rfl⟩
 | j::l,y=>by
   have t:asB (o2 neF (oN 0) (oN 1)) [sF (.str j),sF (.str w)]=.ok (!(j == w),[sF (.str j),sF (.str w)]):=rfl;obtain⟨y',ih⟩:=kn_flt l (sF (.str j));refine⟨y',?_⟩;rw[aS];cases q:(!(j == w)) with
   | true=>
     rw[q]at t;rw[vQx (e1:=[sF (.str j),sF (.str w)]) (v:=.str j) rfl t rfl,ih,List.filter_cons_of_pos (by simpa using q)];rfl
   | false=>
     rw[q]at t;rw[vXp (e1:=[sF (.str j),sF (.str w)]) rfl t,ih,List.filter_cons_of_neg (by simpa using q)]
end
section
variable{x0 x4 x7 x8 x9 x10:Slot}{room cell N:Int}{R:List Rw}{k:Nat}{w:Str}{b:Bool}{kn:List Str}
theorem jV0(hl:kn.length<=900):eCat (.v (fzS (compS 2 [(1,8)] [0] (iV (oV (oN 4))) (gN 0) (asB (o2 neF (oN 0) (oN 1))) (oV (oN 0))))) (.v (fzS (eLst [(oV (oN 8))]))) (rE x0 room R (kO false kn) k cell x7 (sF (.str w)) x9 x10)=.ok (.ow .lst (((kn.filter (fun y=>!(y == w)) ++ [w]).map D.str).map .fz),rE x0 room R (kO false kn) k cell x7 (sF (.str w)) x9 x10):=by
 obtain⟨y',hy⟩:=kn_flt (w:=w) kn .un;have lf:=List.length_filter_le (fun y=>!(y == w)) kn;have c1:fzS (compS 2 [(1,8)] [0] (iV (oV (oN 4))) (gN 0) (asB (o2 neF (oN 0) (oN 1))) (oV (oN 0))) (rE x0 room R (kO false kn) k cell x7 (sF (.str w)) x9 x10)=.ok (.nd .lst ((kn.filter (fun y=>!(y == w))).map D.str),rE x0 room R (kO false kn) k cell x7 (sF (.str w)) x9 x10):=by
  refine qQo (qZt (d:=lsD kn) rfl rfl rfl) ?_ hy rfl;rw[aW,decide_eq_true (aM (show kn.length<=1000 by omega) (by decide))];rfl
 have ct:=cat2 (jG c1 rfl) (jG (v:=fzS (eLst [(oV (oN 8))])) (d:=.nd .lst [.str w]) rfl rfl) (by rw[aW];show _+1<=1000;omega);rw[bG];exact ct
theorem step_ok(hk:k<=40)(hR:R.length<=900)(hn:kn.length<=900):∃r kn' room' b' y7 y8 y9 y10,Stp k kn room r kn' room' /\xS (rE x0 room R (kO b kn) k cell x7 x8 x9 x10)=.ok (.nx (rE x0 room' (R ++ [r]) (kO b' kn') k cell y7 y8 y9 y10)):=by
 obtain⟨N,hN⟩:=num_ok (x0:=x0) (room:=room) (R:=R) (x4:=kO b kn) (cell:=cell) (x7:=x7) (x8:=x8) (x9:=x9) (x10:=x10) hk;obtain⟨w,_,hW⟩:=word_ok (x0:=x0) (room:=room) (R:=R) (x4:=kO b kn) (k:=k) (cell:=cell) (N:=N) (x8:=x8) (x9:=x9) (x10:=x10);obtain⟨m,hm,hr⟩:=rnd_ok (x0:=x0) (room:=room) (R:=R) (b:=b) (kn:=kn) (k:=k) (cell:=cell) (N:=N) (w:=w) (x10:=x10);obtain⟨t,ns,d,dp,hd,g,ht⟩:=term_s (x0:=x0) (room:=room) (R:=R) (b:=b) (kn:=kn) (k:=k) (cell:=cell) (N:=N) (x8:=sF (.str w)) (x10:=x10) (m:Nat);have ct:fzS (qN (wK 30) [(.v (oV (oN 10)))]) (rE x0 room R (kO false kn) k cell (fzI N) (sF (.str w)) (fzI (m:Nat)) (sF t.d))=.ok (.int (d:Nat),rE x0 room R (kO false kn) k cell (fzI N) (sF (.str w)) (fzI (m:Nat)) (sF t.d)):=wV (vK (vH (d:=t.d) rfl (vG rfl) rfl) (qO rfl rfl rfl (zZz g) rfl rfl rfl)) rfl;have m3:m<=3:=by omega
 have hs:owS (oV (oSub (oN 1) (oMul (oN 9) (.v (fzS (qN (wK 30) [(.v (oV (oN 10)))])))))) (rE x0 room R (kO false kn) k cell (fzI N) (sF (.str w)) (fzI (m:Nat)) (sF t.d))=.ok (.fz (.int (room - (m:Nat) * (d:Nat))),rE x0 room R (kO false kn) k cell (fzI N) (sF (.str w)) (fzI (m:Nat)) (sF t.d)):=
  xU (zR (zK (h1:=.d (.int room)) (h2:=.d (.int ((m:Nat) * (d:Nat)))) rfl (zK (h1:=.d (.int (m:Nat))) (h2:=.d (.int (d:Nat))) rfl (jG ct rfl) rfl rfl rfl (ml (.of_left (bits m (by omega)))) rfl) rfl rfl rfl rfl rfl) rfl) rfl
 have c0:∀{room:Int},asB (o2 eqD (oMod (oN 7) (oC (.int 8))) (oC (.int 0))) (rE x0 room R (kO false kn) k cell (fzI N) (sF (.str w)) (fzI (m:Nat)) (sF t.d))=.ok (N % 8 == 0,rE x0 room R (kO false kn) k cell (fzI N) (sF (.str w)) (fzI (m:Nat)) (sF t.d)):=rfl;have c1:∀{room:Int},asB (o2 eqD (oMod (oN 7) (oC (.int 8))) (oC (.int 1))) (rE x0 room R (kO false kn) k cell (fzI N) (sF (.str w)) (fzI (m:Nat)) (sF t.d))=.ok (N % 8 == 1,rE x0 room R (kO false kn) k cell (fzI N) (sF (.str w)) (fzI (m:Nat)) (sF t.d)):=rfl;have c2:=fun {room:Int}=>zX0 (x0:=x0) (room:=room) (R:=R) (b:=false) (kn:=kn) (k:=k) (cell:=cell) (N:=N) (w:=w) (x9:=fzI (m:Nat)) (x10:=sF t.d)
 have go:∀{X:Res Out} {room' :Int},room - (m:Nat) * (d:Nat)=room' ->(sIf (asB (o2 eqD (oMod (oN 7) (oC (.int 8))) (oC (.int 0)))) (vO (eMu1 (pOf (oN 3)) (owS (svTup [(oV (oC (.str "see"))),(oV (oN 10))])) apF)) (sIf (bAnd (asB (o2 eqD (oMod (oN 7) (oC (.int 8))) (oC (.int 1)))) (asB (o2 inD (oN 8) (oN 4)))) (vO (eMu1 (pOf (oN 3)) (owS (svTup [(oV (oC (.str "again"))),(oV (oN 9)),(oV (oN 8)),(oV (oN 10))])) apF)) (sSeq (vO (eMu1 (pOf (oN 3)) (owS (svTup [(oV (oC (.str "let"))),(oV (oN 8)),(oV (oN 10))])) apF))
  (sSet 4 (eCat (.v (fzS (compS 2 [(1,8)] [0] (iV (oV (oN 4))) (gN 0) (asB (o2 neF (oN 0) (oN 1))) (oV (oN 0))))) (.v (fzS (eLst [(oV (oN 8))])))))))) (rE x0 room' R (kO false kn) k cell (fzI N) (sF (.str w)) (fzI (m:Nat)) (sF t.d))=X->xS (rE x0 room R (kO b kn) k cell x7 x8 x9 x10)=X:=by
  intro X room' e h;subst e;exact qJ (xU hN rfl) (qJ (xU hW rfl) (qJ (o:=.fz (.int 1)) rfl (hr (qJ ht (qJ hs h)))))
 by_cases h0:N % 8=0
 ·have m1:m=1:=by omega
  subst m1;have c0:=fun {room:Int}=>c0 (room:=room)
  rw[beq_iff_eq.mpr h0]at c0;exact⟨.see t,kn,room - d,false,_,_,_,_,.see (fun z=>(hd z).1) g,go (by omega) (vR c0 (jL rfl (wB (vKw (r:=.see t) rfl (by omega)) rfl)))⟩
 ·rw [show(N % 8 == 0)=false by simpa using h0] at c0;by_cases h1:N % 8=1/\w∈kn
  ·rw [beq_iff_eq.mpr h1.1] at c1;rw[decide_eq_true h1.2]at c2;refine⟨.ag m w t,kn,room - m * d,false,_,_,_,_,.ag h1.2 (by omega) (fun z=>⟨(hd z).1,by have:=(hd z).2;omega⟩) g,go rfl (vR c0 (zQ rfl (vR (yJ c1 (jL rfl c2)) (jL rfl (wB (vKw (r:=.ag m w t) rfl (by omega)) rfl)))))⟩
  ·have m1:m=1:=by
    rcases hm with h|h
    ·exact h
    ·exact absurd ⟨h.2.1,h.2.2.1⟩ h1
   subst m1;refine⟨.lt w t,_,room - d,true,_,_,_,_,.lt (fun z=>(hd z).1) g,go (room' :=room - d) (by omega) (vR c0 (zQ rfl (vR (q:=false) (e:=rE x0 (room - d) R (kO false kn) k cell (fzI N) (sF (.str w)) (fzI (1:Nat)) (sF t.d)) ?_ (zQ rfl (vT (vKw (r:=.lt w t) (x7:=fzI N) (x8:=sF (.str w)) (x9:=fzI (1:Nat)) (x10:=sF t.d) rfl (by omega)) (qXc (jV0 (by omega)) rfl))))))⟩;by_cases h2:N % 8=1
   ·rw [beq_iff_eq.mpr h2] at c1;rw[decide_eq_false (fun z=>h1 ⟨h2,z⟩)]at c2;exact yJ c1 (jL rfl c2)
   ·rw [show(N % 8 == 1)=false by simpa using h2] at c1;exact yJ c1 (zQ rfl rfl)
end
inductive Gen:Nat->List Rw->List Str->Int->Prop
 |nil:Gen 0 [] [] 50
 |snoc {k:Nat} {R:List Rw} {kn kn' :List Str} {room room' :Int} {r:Rw} (g:Gen k R kn room) (s:Stp k kn room r kn' room'):Gen (k+1) (R ++ [r]) kn' room'
theorem qXj{k:Nat}{room:Int}(g:Gen k R kn room):R.length=k/\kn.length<=k:=by
 induction g with
 |nil=>exact⟨rfl,aB _⟩
 | snoc g s ih=>
   refine⟨by rw[aU,ih.1];rfl,?_⟩;cases s with
   |see|ag=>omega
   |@lt x t ns d dp _ _=>rw[aU];exact Nat.add_le_add_right (aM (List.length_filter_le _ _) ih.2) 1
theorem catO{oa ob:Oe}{h1 h2:Hn}{xs ys:List D}(a:evO oa env=.ok (h1,e))(b:evO ob e=.ok (h2,e1))(c:(h1.st || ob.isP)=true)(r:qQg [h1,h2] e1=.ok ([.nd .lst xs,.nd .lst ys],e2))(l:xs.length+ys.length<=9000):eCat oa ob env=.ok (.ow .lst ((xs ++ ys).map .fz),e2):=by
 show(evO oa env).bind _=_;rw[a];show(evO ob e).bind _=_;rw[b];show cond (h1.st || ob.isP) ((qQg [h1,h2] e1).bind _) _=_;rw[c,r];show cond (decide (xs.length+ys.length<=lim)) (Res.ok (O.ow .lst ((xs ++ ys).map O.fz),e2)) Res.no=_;rw[decide_eq_true (aM l (by decide))];rfl
section
variable{x0:Slot}
theorem rows_loop:∀(cs:List Int) (k:Nat) (R:List Rw) (kn:List Str) (room:Int) (b:Bool) (x5 x6 x7 x8 x9 x10:Slot),Gen k R kn room->k+cs.length<=40->∃R' kn' room' b' y5 y6 y7 y8 y9 y10,Gen (k+cs.length) R' kn' room' /\forS (gT 2 (gCn (gN 5) (gCn (gN 6) gNl))) xS (wZ k (cs.map D.int)) [x0,fzI room,sF (.str ""),rO R,kO b kn,x5,x6,x7,x8,x9,x10]=.ok (.nx [x0,fzI room',sF (.str ""),rO R',kO b' kn',y5,y6,y7,y8,y9,y10])
 |[],k,R,kn,room,b,_,_,_,_,_,_,g,_=>⟨R,kn,room,b,_,_,_,_,_,_,g,rfl⟩
 | c::cs,k,R,kn,room,b,x5,x6,x7,x8,x9,x10,g,h=>by
   obtain⟨l1,l2⟩:=qXj g;rw[aK]at h;obtain⟨r,kn1,room1,b1,y7,y8,y9,y10,s,hs⟩:=step_ok (x0:=x0) (room:=room) (cell:=c) (R:=R) (k:=k) (b:=b) (kn:=kn) (x7:=x7) (x8:=x8) (x9:=x9) (x10:=x10) (by omega) (by omega) (by omega);obtain⟨R',kn',room',b',z5,z6,z7,z8,z9,z10,g',e'⟩:=rows_loop cs (k+1) (R ++ [r]) kn1 room1 b1 (fzI (k:Nat)) (fzI c) y7 y8 y9 y10 (.snoc g s) (by omega);refine⟨R',kn',room',b',z5,z6,z7,z8,z9,z10,by rw[aK];rw[show k+(cs.length+1)=k+1+cs.length by omega];exact g',?_⟩;exact vU (e1:=rE x0 room R (kO b kn) k c x7 x8 x9 x10) rfl hs e'
noncomputable def jH:List Rw:=[.df "f" ["x","y"] qWz,.df "g" ["x"] qVf]
theorem vJw:xK []=.ok (.ow .lst ((jH.map Rw.d).map .fz),[]):=by kernel_rfl
theorem zJl(cs:List Int)(hc:cs.length<=40):∃R kn room t ns d,Gen cs.length R kn room/\GT kn (decide (0<room)) false t ns d/\qQ3 [sF (.nd .lst (cs.map D.int)),fzI 50,sF (.str "")]=.ok (.ow .lst (((R ++ [Rw.ask t]).map Rw.d).map .fz),[.un,.un,.un]):=by
 obtain⟨R,kn,room,b,y5,y6,y7,y8,y9,y10,g,e⟩:=rows_loop (x0:=sF (.nd .lst (cs.map D.int))) cs 0 [] [] 50 true .un .un .un .un .un .un .nil (by omega);rw[Nat.zero_add]at g;obtain⟨l1,l2⟩:=qXj g;obtain⟨t,ns,d,gt,ht⟩:=vWf (((cs.map D.int).length :Nat) * 48271+3) kn (decide (0<room)) false;refine⟨R,kn,room,t,ns,d,g,gt,?_⟩;generalize hb:kO b kn=K at e;have fr:oV (oN 4) [sF (.nd .lst (cs.map D.int)),fzI room,sF (.str ""),rO R,kO b kn,y5,y6,y7,y8,y9,y10]=.ok (lsD kn,[sF (.nd .lst (cs.map D.int)),fzI room,sF (.str ""),rO R,kO false kn,y5,y6,y7,y8,y9,y10]):=by
  cases b with
  |false=>rfl
  | true=>
    show _=Res.ok (D.nd .lst (kn.map D.str),[_,fzI room,sF (.str ""),rO R,.s false (.fz (.nd .lst (kn.map D.str))),y5,y6,y7,y8,y9,y10]);rw[←vY (k:=.lst) (kn.map D.str)];rfl
 rw[hb]at fr;have ln:oV (oAdd (oMul (oL lenD [(oN 0)]) (oC (.int 48271))) (oC (.int 3))) [sF (.nd .lst (cs.map D.int)),fzI room,sF (.str ""),rO R,K,y5,y6,y7,y8,y9,y10]=.ok (.int (((cs.map D.int).length :Nat) * 48271+3),[sF (.nd .lst (cs.map D.int)),fzI room,sF (.str ""),rO R,K,y5,y6,y7,y8,y9,y10]):=
  zR (zK (h2:=.d (.int 3)) (zK (h1:=.d (.int ((cs.map D.int).length :Nat))) (h2:=.d (.int 48271)) rfl rfl rfl rfl rfl (ml (.of_right (by decide +kernel))) rfl) rfl rfl rfl rfl rfl rfl) rfl
 have ca:=vK (F:=xJ) (vH ln (vH fr (vH (s:=oV (oGt (oN 1) (oC (.int 0)))) (d:=.bl (decide (0<room))) rfl (vH (s:=oV (oC (.bl false))) (d:=.bl false) rfl (vG rfl) rfl) rfl) rfl) rfl) (qO rfl rfl rfl ht rfl rfl rfl);have ls:=vZg (qR (qQr (qR (v:=oV (oC (.str "ask"))) (d:=.str "ask") rfl (qR (wV ca rfl) (zM rfl) rfl) rfl) rfl rfl) (zM rfl) rfl) rfl rfl;have e3:qQg [.p 3 [],.d (.nd .lst [(Rw.ask t).d])] [sF (.nd .lst (cs.map D.int)),fzI room,sF (.str ""),rO R,kO false kn,y5,y6,y7,y8,y9,y10]=.ok ([.nd .lst (R.map Rw.d),.nd .lst [(Rw.ask t).d]],[sF (.nd .lst (cs.map D.int)),fzI room,sF (.str ""),.s false (vJ8 (.ow .lst ((R.map Rw.d).map .fz))),kO false kn,y5,y6,y7,y8,y9,y10]):=by
  rw[←vY (k:=.lst) (R.map Rw.d)];rfl
 have ct:=catO (env:=[sF (.nd .lst (cs.map D.int)),fzI room,sF (.str ""),rO R,K,y5,y6,y7,y8,y9,y10]) (oa:=oN 3) (h1:=.p 3 []) rfl (jG ls rfl) rfl e3 (by rw[aW];show _+1<=9000;omega);rw[show R.map Rw.d ++ [(Rw.ask t).d]=(R ++ [Rw.ask t]).map Rw.d by rw[bG];rfl]at ct;exact vW (qJ (o:=.ow .lst []) rfl (qJ (o:=.ow .lst []) rfl (jV (zO (qZu (xs:=[.nd .lst (cs.map D.int)]) rfl rfl rfl) e) (qZ6 ct rfl)))) rfl
theorem vJi(cs:List Int)(hc:cs.length<=40):∃R kn room t ns d,Gen cs.length R kn room/\GT kn (decide (0<room)) false t ns d/\j3 [sF (.nd .lst (cs.map D.int)),fzI 50]=.ok (.ow .lst (((jH ++ (R ++ [Rw.ask t])).map Rw.d).map .fz),[.un,.un]):=by
 obtain⟨R,kn,room,t,ns,d,g,gt,e⟩:=zJl cs hc;refine⟨R,kn,room,t,ns,d,g,gt,?_⟩;have l:=(qXj g).1;have c1:fzS (qN xK []) [sF (.nd .lst (cs.map D.int)),fzI 50]=.ok (.nd .lst (jH.map Rw.d),[sF (.nd .lst (cs.map D.int)),fzI 50]):=wV (vK (vG rfl) (qO rfl rfl rfl vJw rfl rfl rfl)) (by rw[vY];rfl);have c2:fzS (qN qQ3 [(.v (oV (oN 0))),(.v (oV (oN 1))),(.v (oV (oC (.str ""))))]) [sF (.nd .lst (cs.map D.int)),fzI 50]=.ok (.nd .lst ((R ++ [Rw.ask t]).map Rw.d),[sF (.nd .lst (cs.map D.int)),fzI 50]):=wV (vK (vH (d:=.nd .lst (cs.map D.int)) rfl (vH (d:=.int 50) rfl (vH (d:=.str "") rfl (vG rfl) rfl) rfl) rfl) (qO rfl rfl rfl e rfl rfl rfl)) (by rw[vY];rfl);have ct:=cat2 (jG c1 rfl) (jG c2 rfl) (by rw[aW,aW,aU];show 2+(_+1)<=1000;omega);exact vW (qZ6 ct rfl) rfl
end
noncomputable abbrev srt(l:List Int):List Int:=PySem.W.sortI (qQh l)
theorem inl_inj:∀a b:Int,(Sum.inl a:Key)=Sum.inl b->a=b:=fun _ _ h=>Sum.inl.inj h
noncomputable abbrev ivD{κ:Type}:κ×Int->D:=fun p=>.int p.2
noncomputable abbrev dI(l:List (Int×Int)):Slot:=.s false (.ow (.dct (qH Sum.inl l)) (l.map fun p=>.fz (ivD p)))
noncomputable abbrev dS(l:List (Str×Int)):Slot:=.s false (.ow (.dct (qH Sum.inr l)) (l.map fun p=>.fz (ivD p)))
noncomputable abbrev lO(P:List (List Int)):Slot:=.s false (.ow .lst (P.map fun l=>.ow .lst (((srt l).map D.int).map .fz)))
theorem ixG{α:Type}[DecidableEq κ]{kx:κ->Key}(inj:∀a b,kx a=kx b->a=b){dv:κ×α->D}{i:Nat}{y:D}{x:κ}{v:α}{l:List (κ×α)}(h:getE env i []=some (.ow (.dct (qH kx l)) (l.map fun p=>.fz (dv p))))(hy:qVl y=some (kx x))(e:getA l x=some v):hnIx env y (.p i [])=some (.d (dv (x,v))):=by
 obtain⟨j,h1,_,h3⟩:=qWw inj dv e;show(match getE env i [] with|some (.ow k os)=>(idxK os.length y k).bind fun j=>(os[j]?).bind fun o=>some (hnO o i ([] ++ [j]))|_=>none)=_;rw[h];show(((qVl y).bind fun k=>kidx k (qH kx l)).bind fun j=>((l.map fun p=>O.fz (dv p))[j]?).bind fun o=>some (hnO o i ([] ++ [j])))=_;rw[hy,bH,h1,bH,h3];rfl
theorem vKu:∀{l m:List Int},l.Nodup->(∀a∈l,a∈m)->l.length<=m.length
 |[],m,_,_=>bO _
 | x::l,m,h,s=>by
   obtain⟨h1,h2⟩:=cB.mp h;have:=vKu (m:=m.erase x) h2 fun a ha=>(List.mem_erase_of_ne (fun z:a=x=>h1 (z▸ha))).mpr (s a (aO _ ha))
   rw[List.length_erase_of_mem (s x (bT ..))]at this;have:=List.length_pos_of_mem (s x (bT ..));rw[aK];omega
theorem zWj(l:List Int):(qQh l).length <=l.length:=vKu (qV9 l) fun a ha=>(qKt l a).mp ha
theorem vK8(h:l.length<=60):sortSD [.nd .lst (l.map .int)]=some ((srt l).map .int):=by
 have:qXq [.nd .lst (l.map .int)]=some l:=qYu l;unfold sortSD;rw[this,bH,decide_eq_true (show l.length<=2000 by omega),decide_eq_true (show(qQh l).length<64 by have:=zWj l;omega)];rfl
theorem zX6{P:List (List Int)}(h:P.length<=1000):apF (P.map fun l=>.ow .lst (((srt l).map D.int).map .fz)) (.ow .lst (((srt l).map D.int).map .fz))=some (.fz .non,(P ++ [l]).map fun l=>.ow .lst (((srt l).map D.int).map .fz)):=by
 unfold apF;grind
theorem look_comp[DecidableEq κ]{kx:κ->Key}(inj:∀a b,kx a=kx b->a=b){yd:κ->D}(hy:∀x,qVl (yd x)=some (kx x)){l:List (κ×Int)}:∀(xs:List κ) (z:Slot),(∀x∈xs,∃p,getA l x=some p)->∃z',wT (gN 0) bTrue (oV (oIx (oN 1) (oN 0))) (xs.map yd) [z,.s false (.ow (.dct (qH kx l)) (l.map fun p=>.fz (ivD p)))]=.ok ((xs.map fun x=>(getA l x).getD 0).map D.int,[z',.s false (.ow (.dct (qH kx l)) (l.map fun p=>.fz (ivD p)))])
 |[],z,_=>⟨z,rfl⟩
 | x::xs,z,h=>by
   obtain⟨p,hp⟩:=h x (by simp);obtain⟨z',ih⟩:=look_comp inj hy xs (sF (yd x)) (fun y hy=>h y (aO _ hy));refine⟨z',?_⟩;rw[aS,vQx (e1:=[sF (yd x),.s false (.ow (.dct (qH kx l)) (l.map fun p=>.fz (ivD p)))]) (v:=.int p) rfl rfl (zR (xX (h1:=.p 1 []) (h2:=.d (yd x)) rfl rfl rfl rfl (ixG inj rfl (hy x) hp) rfl) rfl),ih,aS,aS,hp];rfl
noncomputable def Lp(g:SG)(body:SS)(ds:List D)(e e1:Ev):Prop:=∀es X,forS g body es e1=X->forS g body (ds ++ es) e=X
theorem Lp.nil:Lp g body [] e e:=fun _ _ k=>k
theorem Lp.snoc{ds:List D}{d:D}{e3:Ev}(h:Lp g body ds e e1)(h1:g d e1=some e2)(h2:body e2=.ok (.nx e3)):Lp g body (ds ++ [d]) e e3:=fun es X k=>by
 rw[List.append_assoc];exact h _ _ (vU h1 h2 k)
theorem Lp.end{ds:List D}(h:Lp g body ds e e1):forS g body ds e=.ok (.nx e1):=by
 have:=h [] _ rfl;rwa [bL]at this
section
variable{x0 x3 x4 x5:Slot}{o:OT}{i:Int}{n:Nat}{Pl:List (Int×Int)}{La:List (Str×Int)}{P:List (List Int)}{t:Tm}{ns:List Str}{d:Nat}{kn:List Str}{c dp:Bool}{rd:D}
theorem vJu(ok:o.ok)(hh:o.h<=7)(sc:o.sc<=30)(ha:∀s∈o.sl,∃p,getA Pl s=some p)(h1:P.length<=900)(h2:Pl.length<=900):qZq [x0,dI Pl,lO P,fzI (n:Nat),sF (.tup [.int i,o.d])]=.ok (.nx [x0,dI (if i= -1 then Pl else putA Pl i (n:Nat)),lO (P ++ [o.sl.map fun s=>(getA Pl s).getD 0]),fzI (n:Nat),sF (.tup [.int i,o.d])]):=by
 have sl:=yD o;have f:=jW 60 o ok (by omega) (by omega);obtain⟨z',hz⟩:=look_comp inl_inj (yd:=D.int) (fun _=>rfl) (l:=Pl) o.sl .un ha;have c0:fzS (qN (F_slots_read 60) [(.v (oV (oIx (oN 4) (oC (.int 1)))))]) [x0,dI Pl,lO P,fzI (n:Nat),sF (.tup [.int i,o.d])]=.ok (.nd .lst (o.sl.map .int),[x0,dI Pl,lO P,fzI (n:Nat),sF (.tup [.int i,o.d])]):=wV (vK (vH (d:=o.d) rfl (vG rfl) rfl) (qO rfl rfl rfl f rfl rfl rfl)) (by rw[vY];rfl);have c1:fzS (compS 2 [(1,1)] [0] (iV (fzS (qN (F_slots_read 60) [(.v (oV (oIx (oN 4) (oC (.int 1)))))]))) (gN 0) bTrue (oV (oIx (oN 1) (oN 0)))) [x0,dI Pl,lO P,fzI (n:Nat),sF (.tup [.int i,o.d])]=.ok (.nd .lst ((o.sl.map fun s=>(getA Pl s).getD 0).map .int),[x0,dI Pl,lO P,fzI (n:Nat),sF (.tup [.int i,o.d])]):=by
  refine qQo (qZt c0 rfl rfl) ?_ hz rfl;rw[aW,decide_eq_true (aM (show o.sl.length<=1000 by omega) (by decide))];rfl
 have c2:=vVt (qQp (jG c1 rfl) rfl (vZj rfl) rfl) rfl (vK8 (l:=o.sl.map fun s=>(getA Pl s).getD 0) (by rw[aW];omega)) rfl;refine vT (xF (i:=2) (π:=[]) (os0:=P.map fun l=>.ow .lst (((srt l).map D.int).map .fz)) (os:=P.map fun l=>.ow .lst (((srt l).map D.int).map .fz)) rfl rfl c2 rfl rfl (zX6 (by omega)) rfl) ?_
 by_cases h:i= -1
 ·subst h;rw[if_pos rfl];exact vR (q:=false) rfl rfl
 ·rw [if_neg h];have t:asB (o2 neF (oIx (oN 4) (oC (.int 0))) (o1 negD (oC (.int 1)))) [x0,dI Pl,lO (P ++ [o.sl.map fun s=>(getA Pl s).getD 0]),fzI (n:Nat),sF (.tup [.int i,o.d])]=.ok (!(i == -1),[x0,dI Pl,lO (P ++ [o.sl.map fun s=>(getA Pl s).getD 0]),fzI (n:Nat),sF (.tup [.int i,o.d])]):=rfl;rw[show(i == -1)=false by simpa using h]at t;exact vR t (jL rfl (putG inl_inj (dv:=ivD) (l:=Pl) (x:=i) (v:=(n:Nat)) (y:=.int i) (e:=[x0,dI Pl,lO (P ++ [o.sl.map fun s=>(getA Pl s).getD 0]),fzI (n:Nat),sF (.tup [.int i,o.d])]) rfl rfl rfl rfl rfl (by omega)))
theorem qXf(g:GT kn c dp t ns d)(hr:oV (oIx (oN 3) (o1 negD (oC (.int 1)))) [x0,dS La,lO P,sF rd,x4,x5]=.ok (t.d,[x0,dS La,lO P,sF rd,x4,x5]))(ha:∀s∈ns,∃p,getA La s=some p)(h1:P.length<=900){s:SS}{X:Res Out}(k:s [x0,dS La,lO (P ++ [ns.map fun s=>(getA La s).getD 0]),sF rd,x4,x5]=X):sSeq (vO (eMu1 (pOf (oN 2)) (eF sortSD [(.v (fzS (compS 2 [(1,1)] [0] (iV (fzS (qN (jK 30) [(.v (oV (oIx (oN 3) (o1 negD (oC (.int 1))))))]))) (gN 0) bTrue (oV (oIx (oN 1) (oN 0))))))]) apF)) s [x0,dS La,lO P,sF rd,x4,x5]=X:=by
 have f:=zV2 g;have l2:=(qXx g).1;obtain⟨z',hz⟩:=look_comp inr_inj (yd:=D.str) (fun _=>rfl) (l:=La) ns .un ha;have c0:fzS (qN (jK 30) [(.v (oV (oIx (oN 3) (o1 negD (oC (.int 1))))))]) [x0,dS La,lO P,sF rd,x4,x5]=.ok (.nd .lst (ns.map .str),[x0,dS La,lO P,sF rd,x4,x5]):=wV (vK (vH hr (vG rfl) rfl) (qO rfl rfl rfl f rfl rfl rfl)) (by rw[vY];rfl);have c1:fzS (compS 2 [(1,1)] [0] (iV (fzS (qN (jK 30) [(.v (oV (oIx (oN 3) (o1 negD (oC (.int 1))))))]))) (gN 0) bTrue (oV (oIx (oN 1) (oN 0)))) [x0,dS La,lO P,sF rd,x4,x5]=.ok (.nd .lst ((ns.map fun s=>(getA La s).getD 0).map .int),[x0,dS La,lO P,sF rd,x4,x5]):=by
  refine qQo (qZt c0 rfl rfl) ?_ hz rfl;rw[aW,decide_eq_true (aM (show ns.length<=1000 by omega) (by decide))];rfl
 have c2:=vVt (qQp (jG c1 rfl) rfl (vZj rfl) rfl) rfl (vK8 (l:=ns.map fun s=>(getA La s).getD 0) (by rw[aW];omega)) rfl;exact vT (xF (i:=2) (π:=[]) (os0:=P.map fun l=>.ow .lst (((srt l).map D.int).map .fz)) (os:=P.map fun l=>.ow .lst (((srt l).map D.int).map .fz)) rfl rfl c2 rfl rfl (zX6 (by omega)) rfl) k
end
noncomputable def skI:Nat->List (Int×OT)->List Int
 |_,[]=> []
 |n,p::r=>if p.1= -1 then(n:Int)::skI (n+1) r else skI (n+1) r
theorem vQk:∀(st:List (Int×OT)) (n:Nat) (p:Int×OT),skI n (st ++ [p])=skI n st ++ if p.1= -1 then [((n+st.length:Nat):Int)] else []
 |[],n,p=>by show(if p.1= -1 then _ else _)=_;simp[skI]
 | q::r,n,p=>by
   show(if q.1= -1 then(n:Int)::skI (n+1) (r ++ [p]) else skI (n+1) (r ++ [p]))=_;rw[vQk r,show n+1+r.length=n+(q::r).length by simp;omega];by_cases h:q.1= -1 <;> simp[h,skI]
theorem vZk:∀(n:Nat) (ds:List D) (d:D),wZ n (ds ++ [d])=wZ n ds ++ [.tup [.int ((n+ds.length:Nat):Int),d]]
 |n,[],d=>rfl
 | n,e::ds,d=>by
   show D.tup [.int (n:Int),e]::wZ (n+1) (ds ++ [d])=_;rw[vZk,show n+1+ds.length=n+(e::ds).length by simp;omega];rfl
structure J(kn:List Str)(o:Os)(P:List (List Int))(Pl:List (Int×Int))(La:List (Str×Int))(E:List Int):Prop where
 hs:o.hs=hsFG
 sl0:0<=o.s.sl
 okS:∀p∈o.st,p.2.ok/\p.2.h<=7/\ -1<=p.1
 len:P.length=o.st.length
 lo:∀(i:Nat) (l:List Int),P[i]?=some l->∀q∈l,0<=q/\q<(i:Int)
 kn:∀x∈kn,∃i p,getA o.ν x=some i/\i<o.s.sl/\getA Pl i=some p/\getA La x=some p/\0<=p/\p<(P.length:Nat)
 pl:Pl.length<=P.length
 la:La.length<=P.length
 f1:∀x0 x3 x4,∃y3 y4,Lp (gT 2 (gCn (gN 3) (gCn (gN 4) gNl))) qZq (wZ 0 (vJ o.st)) [x0,dI [],lO [],x3,x4] [x0,dI Pl,lO P,y3,y4]
 sk:E=skI 0 o.st
section
variable{kn kn' :List Str}{o:Os}{P:List (List Int)}{Pl:List (Int×Int)}{La:List (Str×Int)}{E:List Int}{t:Tm}{ns:List Str}{d m:Nat}{c dp:Bool}{ot:OT}{s' :Sd}{i:Int}
theorem J.reads(j:J kn o P Pl La E)(g:GT kn c dp t ns d)(u:Opd o.ν o.s ns d m ot s'):(∀s∈ot.sl,∃p,getA Pl s=some p)/\ot.sl.map (fun s=>(getA Pl s).getD 0)=ns.map (fun x=>(getA La x).getD 0)/\(∀x∈ns,∃p,getA La x=some p)/\∀q∈ns.map (fun x=>(getA La x).getD 0),0<=q/\q<(P.length:Nat):=by
 have mm:=zQr g;rw[u.rd,dP];refine⟨fun s hs=>?_,List.map_congr_left fun x hx=>?_,fun x hx=>?_,fun q hq=>?_⟩
 ·obtain⟨x,hx,rfl⟩:=dH.mp hs;obtain⟨i,p,a,_,b,_⟩:=j.kn x (mm x hx);grind
 ·obtain⟨i,p,a,_,b,e,_⟩:=j.kn x (mm x hx);grind
 ·obtain⟨i,p,_,_,_,e,_⟩:=j.kn x (mm x hx);exact⟨p,e⟩
 ·obtain⟨x,hx,rfl⟩:=dH.mp hq;obtain⟨i,p,_,_,_,e,h0,h1⟩:=j.kn x (mm x hx);grind
theorem J.step(j:J kn o P Pl La E)(g:GT kn c dp t ns d)(u:Opd o.ν o.s ns d m ot s')(hi: -1<=i)(hP:P.length<=900):
  (∀p∈o.st ++ [(i,ot)],p.2.ok/\p.2.h<=7/\ -1<=p.1)/\(P ++ [ns.map fun x=>(getA La x).getD 0]).length =(o.st ++ [(i,ot)]).length /\(∀(k:Nat) (l:List Int),(P ++ [ns.map fun x=>(getA La x).getD 0])[k]?=some l->∀q∈l,0<=q/\q<(k:Int))/\
  (∀x0 x3 x4,∃y3 y4,Lp (gT 2 (gCn (gN 3) (gCn (gN 4) gNl))) qZq (wZ 0 (vJ (o.st ++ [(i,ot)]))) [x0,dI [],lO [],x3,x4] [x0,dI (if i= -1 then Pl else putA Pl i (P.length:Nat)),lO (P ++ [ns.map fun x=>(getA La x).getD 0]),y3,y4]):=by
 obtain⟨r1,r2,r3,r4⟩:=j.reads g u
 refine⟨fun p hp=>?_,by rw[aU,aU,j.len];rfl,fun k l hk=>?_,fun x0 x3 x4=>?_⟩
 ·rcases cL.mp hp with h | h
  ·exact j.okS p h
  ·cases bJ.mp h;exact⟨u.ok,u.hh,hi⟩
 ·by_cases h:k < P.length
  ·rw[dX h]at hk;exact j.lo k l hk
  ·rw [eX (by omega)] at hk
   obtain⟨h1,rfl⟩:k - P.length=0/\_=l:=by
    cases q:k - P.length with
    |zero=>rw[q]at hk;cases hk;exact⟨rfl,rfl⟩
    |succ n=>rw[q]at hk;cases hk
   intro q hq
   have:=r4 q hq
   omega
 ·obtain⟨y3,y4,f⟩:=j.f1 x0 x3 x4
  have st:=vJu (x0:=x0) (i:=i) (n:=P.length) u.ok u.hh u.sc r1 hP (aM j.pl hP)
  rw[r2]at st
  refine⟨fzI (P.length:Nat),sF (.tup [.int i,ot.d]),?_⟩
  have e:wZ 0 (vJ (o.st ++ [(i,ot)]))=wZ 0 (vJ o.st) ++ [.tup [.int (P.length:Nat),.tup [.int i,ot.d]]]:=by
   unfold vJ
   rw[bG]
   show wZ 0 (_ ++ [_])=_
   rw[vZk,aW,j.len,Nat.zero_add]
  rw[e]
  exact f.snoc rfl st
end
section
variable{kn kn' :List Str}{o:Os}{P:List (List Int)}{Pl:List (Int×Int)}{La:List (Str×Int)}{E:List Int}{t:Tm}{ns:List Str}{d m:Nat}{c dp:Bool}{ot:OT}{s' :Sd}{x:Str}
noncomputable abbrev rdL(La:List (Str×Int))(ns:List Str):List Int:=ns.map fun x=>(getA La x).getD 0
theorem J.see(j:J kn o P Pl La E)(g:GT kn c dp t ns d)(u:Opd o.ν o.s ns d m ot s')(hP:P.length<=900):J kn {o with st:=o.st ++ [(-1,ot)],s:=s' } (P ++ [rdL La ns]) Pl La (E ++ [(P.length:Int)]):=by
 obtain⟨a,b,e,f⟩:=j.step g u (i:= -1) (eY _) hP;refine⟨j.hs,Int.le_trans j.sl0 u.sl,a,b,e,fun x hx=>?_,by rw[aU];have:=j.pl;omega,by rw[aU];have:=j.la;omega,f,?_⟩
 ·obtain⟨i,p,q1,q2,q3,q4,q5,q6⟩:=j.kn x hx;exact⟨i,p,q1,Int.lt_of_lt_of_le q2 u.sl,q3,q4,q5,by rw[aU];omega⟩
 ·show _=skI 0 (o.st ++ [(-1,ot)]);rw[vQk,if_pos rfl,j.sk,j.len,Nat.zero_add]
theorem J.new(j:J kn o P Pl La E)(g:GT kn c dp t ns d)(u:Opd o.ν o.s ns d m ot s')(hP:P.length<=900)(hk:∀y∈kn',y=x\/y∈kn):J kn' {o with ν:=putA o.ν x s'.sl,st:=o.st ++ [(s'.sl,ot)],s:={s' with sl:=s'.sl+1}} (P ++ [rdL La ns]) (putA Pl s'.sl (P.length:Nat)) (putA La x (P.length:Nat)) E:=by
 have s0:=Int.le_trans j.sl0 u.sl;obtain⟨a,b,e,f⟩:=j.step g u (i:=s'.sl) (by omega) hP;have l1:=wD (l:=Pl) (i:=s'.sl) (v:=((P.length:Nat):Int));have l2:=wD (l:=La) (i:=x) (v:=((P.length:Nat):Int));have ps:(P ++ [rdL La ns]).length =P.length+1:=by rw[aU];rfl
 rw[if_neg (by omega)]at f;refine⟨j.hs,by show 0<=s'.sl+1;omega,a,b,e,fun y hy=>?_,by have:=j.pl;omega,by have:=j.la;omega,f,?_⟩
 ·by_cases q:y=x
  ·subst q;exact⟨s'.sl,(P.length:Nat),by rw[jS,if_pos rfl],by show _<s'.sl+1;omega,by rw[jS,if_pos rfl],by rw[jS,if_pos rfl],by omega,by omega⟩
  ·obtain⟨i,p,q1,q2,q3,q4,q5,q6⟩:=j.kn y ((hk y hy).resolve_left q);have:=u.sl;exact⟨i,p,by rw[jS,if_neg (Ne.symm q)];exact q1,by show _<s'.sl+1;omega,by rw[jS,if_neg (by omega)];exact q3,by rw[jS,if_neg (Ne.symm q)];exact q4,q5,by omega⟩
 ·show _=skI 0 (o.st ++ [(s'.sl,ot)]);rw[vQk,if_neg (by show¬s'.sl= -1;omega),bL,j.sk]
variable{x0 x4 x5:Slot}{rd:D}
theorem zQs:∀os:List O,(fzOs os).length =os.length
 |[]=>rfl
 |o::os=>by show(fzO o::fzOs os).length =_;rw[aK,zQs os];rfl
theorem vK2(b:Bool){n:Int}(g:GT kn c dp t ns d)(ha:∀s∈ns,∃p,getA La s=some p)(h1:P.length<=900)(h2:La.length<=900):qQe [x0,dS La,lO P,sF (cond b (Rw.lt x t) (.ag n x t)).d,x4,x5]=.ok (.nx [x0,dS (putA La x (P.length:Nat)),lO (P ++ [rdL La ns]),sF (cond b (Rw.lt x t) (.ag n x t)).d,x4,x5]):=by
 have ln:owS (oV (oSub (oL lenD [(oN 2)]) (oC (.int 1)))) [x0,dS La,lO (P ++ [rdL La ns]),sF (cond b (Rw.lt x t) (.ag n x t)).d,x4,x5]=.ok (.fz (.int (P.length:Nat)),[x0,dS La,lO (P ++ [rdL La ns]),sF (cond b (Rw.lt x t) (.ag n x t)).d,x4,x5]):=by
  have:owS (oV (oSub (oL lenD [(oN 2)]) (oC (.int 1)))) [x0,dS La,lO (P ++ [rdL La ns]),sF (cond b (Rw.lt x t) (.ag n x t)).d,x4,x5]=.ok (.fz (.int (((fzOs ((P ++ [rdL La ns]).map fun l=>O.ow .lst (((srt l).map D.int).map .fz))).length :Nat) - 1)),[x0,dS La,lO (P ++ [rdL La ns]),sF (cond b (Rw.lt x t) (.ag n x t)).d,x4,x5]):=by kernel_rfl
  rw[this,zQs,aW,aU,show(((P.length + [rdL La ns].length :Nat):Int) - 1)=(P.length:Nat) by simp]
 cases b with
 |true=>exact qXf g rfl ha h1 (vR (q:=true) (e:=[x0,dS La,lO (P ++ [rdL La ns]),sF (Rw.lt x t).d,x4,x5]) rfl (putG inr_inj (dv:=ivD) (l:=La) (x:=x) (v:=(P.length:Nat)) (y:=.str x) (hk:=.d (.str x)) ln rfl rfl rfl rfl (by omega)))
 |false=>exact qXf g rfl ha h1 (vR (q:=true) (e:=[x0,dS La,lO (P ++ [rdL La ns]),sF (Rw.ag n x t).d,x4,x5]) rfl (putG inr_inj (dv:=ivD) (l:=La) (x:=x) (v:=(P.length:Nat)) (y:=.str x) (hk:=.d (.str x)) ln rfl rfl rfl rfl (by omega)))
theorem zJm(g:GT kn c dp t ns d)(ha:∀s∈ns,∃p,getA La s=some p)(h1:P.length<=900)(h2:La.length<=900):zP [x0,dS La,lO P,sF (Rw.lt x t).d,x4,x5]=.ok (.nx [x0,dS (putA La x (P.length:Nat)),lO (P ++ [rdL La ns]),sF (Rw.lt x t).d,fzI 1,fzI 0]):=
 qJ (o:=.fz (.int 1)) (e:=[x0,dS La,lO P,sF (Rw.lt x t).d,x4,x5]) rfl (qD (q:=false) rfl (qF (zO (ds:=[.int 0]) (e:=[x0,dS La,lO P,sF (Rw.lt x t).d,fzI 1,x5]) rfl (vU rfl (vK2 true (n:=0) g ha h1 h2) rfl))))
theorem vWs(b:Bool)(g:GT kn c dp t ns d)(ha:∀s∈ns,∃p,getA La s=some p)(h1:P.length<=900):zP [x0,dS La,lO P,sF (cond b (Rw.see t) (.ask t)).d,x4,x5]=.ok (.nx [x0,dS La,lO (P ++ [rdL La ns]),sF (cond b (Rw.see t) (.ask t)).d,fzI 1,fzI 0]):=by
 cases b with
 |true=>exact qJ (o:=.fz (.int 1)) (e:=[x0,dS La,lO P,sF (Rw.see t).d,x4,x5]) rfl (qD (q:=false) rfl (qF (zO (ds:=[.int 0]) (e:=[x0,dS La,lO P,sF (Rw.see t).d,fzI 1,x5]) rfl (vU rfl (qXf g rfl ha h1 rfl) rfl))))
 |false=>exact qJ (o:=.fz (.int 1)) (e:=[x0,dS La,lO P,sF (Rw.ask t).d,x4,x5]) rfl (qD (q:=false) rfl (qF (zO (ds:=[.int 0]) (e:=[x0,dS La,lO P,sF (Rw.ask t).d,fzI 1,x5]) rfl (vU rfl (qXf g rfl ha h1 rfl) rfl))))
end
noncomputable abbrev eO(E:List Int):Slot:=.s false (.ow .lst ((E.map D.int).map .fz))
theorem qXd(n:Int)(m:Nat):(rngD n m).length =m:=by unfold rngD;rw[aW,List.length_range]
theorem jQu{m:Nat}(h:m<=3):rg1 [.int (m:Nat)]=some (rngD 0 m):=by
 have:∀m:Nat,m<=3->in62 (m:Int)=true:=by decide
 show cond (in62 (m:Int)) (some (rngD 0 (m:Int).toNat)) none=_;simp_all
theorem vQj:∀(st:List (Int×OT)) (n:Nat),(skI n st).length <=st.length
 |[],_=>aB _
 | p::r,n=>by
   have:=vQj r (n+1);unfold skI;by_cases h:p.1= -1
   ·rw[if_pos h];simp;omega
   ·rw[if_neg h];simp;omega
section
variable{kn kn' :List Str}{o:Os}{P:List (List Int)}{Pl:List (Int×Int)}{La:List (Str×Int)}{E:List Int}{t:Tm}{ns:List Str}{d k:Nat}{c dp:Bool}{x:Str}{room room' :Int}{r:Rw}
theorem J.op(j:J kn o P Pl La E)(g:GT kn c dp t ns d)(l1:o.s.dr.length+d<=60)(l2:o.s.tm+15<=600):∃ot s',qP o.hs 30 o.ν t o.s=.ok (ot,s')/\Opd o.ν o.s ns d (cond dp 15 7) ot s' :=by
 rw[j.hs];exact op1 g (fun x hx=>by obtain⟨i,_,a,b,_⟩:=j.kn x hx;exact⟨i,a,b⟩) l1 l2
theorem J.ha(j:J kn o P Pl La E)(g:GT kn c dp t ns d):∀s∈ns,∃p,getA La s=some p:=fun s hs=>by
 obtain⟨_,p,_,_,_,a,_⟩:=j.kn s (zQr g s hs);exact⟨p,a⟩
theorem times{n:Int}(hx:x∈kn)(g:GT kn c dp t ns d):∀(ds:List D) (o:Os) (P:List (List Int)) (Pl:List (Int×Int)) (La:List (Str×Int)),J kn o P Pl La E->o.s.dr.length+ds.length * d<=60->o.s.tm+(cond dp 15 7 * ds.length:Nat)+15<=600->P.length+ds.length<=900->
  ∃o' P' Pl' La',jC x t ds.length o=.ok o' /\J kn o' P' Pl' La' E/\o'.s.dr.length=o.s.dr.length+ds.length * d/\o'.s.tm<=o.s.tm+(cond dp 15 7 * ds.length:Nat)/\P'.length=P.length+ds.length/\∀x0 x4 x5,∃y5,forS (gN 5) qQe ds [x0,dS La,lO P,sF (Rw.ag n x t).d,x4,x5]=.ok (.nx [x0,dS La',lO P',sF (Rw.ag n x t).d,x4,y5])
 |[],o,P,Pl,La,j,_,_,_=>⟨o,P,Pl,La,rfl,j,by simp,by simp,rfl,fun x0 x4 x5=>⟨x5,rfl⟩⟩
 | z::ds,o,P,Pl,La,j,l1,l2,l3=>by
   rw[aK,Nat.succ_mul]at l1;rw[aK,Nat.mul_succ]at l2;rw[aK]at l3;obtain⟨ot,s',e,u⟩:=j.op g (by omega) (by omega);have u1:=u.dr;have u2:=u.tm;have jn:=j.new (x:=x) (kn' :=kn) g u (by omega) (fun y hy=>.inr hy);obtain⟨o',P',Pl',La',q1,q2,q3,q4,q5,q6⟩:=times (n:=n) hx g ds _ _ _ _ jn (by dsimp only;omega) (by dsimp only;omega) (by rw[aU];show P.length+1+ds.length<=900;omega);dsimp only at q3 q4;refine⟨o',P',Pl',La',?_,q2,by rw[aK,Nat.succ_mul];omega,by rw[aK,Nat.mul_succ];omega,by simp only[aU,aK,List.length_nil]at q5⊢;omega,fun x0 x4 x5=>?_⟩;rotate_left
   ·obtain⟨y5,q6⟩:=q6 x0 x4 (sF z);exact⟨y5,vU rfl (vK2 false g (j.ha g) (by omega) (by have:=j.la;omega)) q6⟩
   show(xN o x t).bind (jC x t ds.length)=_;unfold xN;rw[e];exact q1
theorem zJn(s:Stp k kn room r kn' room')(j:J kn o P Pl La E)(b1:(o.s.dr.length:Int)+room<=50)(b2:0<=room)(b3:o.s.tm<=500)(b4:P.length<=100):∃o' P' Pl' La' E',wU o r=.ok o' /\J kn' o' P' Pl' La' E' /\(o'.s.dr.length:Int)+room' <=50/\0<=room' /\o'.s.tm<=o.s.tm+(if k<13 then 21 else 7)/\P'.length<=P.length+(if kn=[] then 1 else if k<13 then 3 else 1)/\
  (∀x0 x4 x5,∃y4 y5,zP [x0,dS La,lO P,sF r.d,x4,x5]=.ok (.nx [x0,dS La',lO P',sF r.d,y4,y5]))/\∀x0,wG [x0,fzI (P.length:Nat),eO E,sF r.d]=.ok (.nx [x0,fzI (P'.length:Nat),eO E',sF r.d]):=by
 have le:E.length<=1000:=by rw[j.sk];have:=vQj o.st 0;have:=j.len;omega
 have lp:∀l:List Int,(P ++ [l]).length =P.length+1:=fun l=>by rw[aU];rfl
 have one:∀{dp:Bool},(dp=true->k<13)->((cond dp 15 7:Nat):Int)<=if k<13 then 21 else 7:=fun {dp} h=>by
  cases dp with
  |false=>by_cases z:k<13 <;> simp[z]
  |true=>simp[h rfl]
 have p1:1<=if kn=[] then 1 else if k<13 then 3 else 1:=by split;exact aB _;split <;> omega
 cases s with
 | @see t ns d dp hd g=>
   obtain⟨f1,f2,f3⟩:=qXx g;have f3' :d=1->1<=room:=fun z=>of_decide_eq_true (f3 z)
   obtain⟨ot,s',e,u⟩:=j.op g (by omega) (by omega);have u1:=u.dr;have u2:=u.tm;have on:=one hd;refine⟨_,_,_,_,_,by show(qP o.hs 30 o.ν t o.s).bind _=_;rw[e];rfl,j.see g u (by omega),by dsimp only;omega,by omega,by dsimp only;omega,by rw[lp];omega,fun x0 x4 x5=>⟨_,_,vWs true g (j.ha g) (by omega)⟩,fun x0=>?_⟩;rw[lp];have ap:apF ((E.map D.int).map .fz) (.fz (.int (P.length:Nat)))=some (.fz .non,((E ++ [(P.length:Int)]).map D.int).map .fz):=by
    unfold apF;rw[decide_eq_true (show((E.map D.int).map O.fz).length <=lim by rw[aW,aW];exact aM le (show 1000<=1000000 by decide)),bG,bG];rfl
   exact qD (q:=true) (e:=[x0,fzI (P.length:Nat),eO E,sF (Rw.see t).d]) rfl (vT (xF (i:=2) (π:=[]) (os0:=(E.map D.int).map .fz) (os:=(E.map D.int).map .fz) rfl rfl rfl rfl rfl ap rfl) rfl)
 | @lt x t ns d dp hd g=>
   obtain⟨f1,f2,f3⟩:=qXx g;have f3' :d=1->1<=room:=fun z=>of_decide_eq_true (f3 z)
   obtain⟨ot,s',e,u⟩:=j.op g (by omega) (by omega);have u1:=u.dr;have u2:=u.tm;have on:=one hd;refine⟨_,_,_,_,_,by show(qP o.hs 30 o.ν t o.s).bind _=_;rw[e];rfl,j.new (x:=x) g u (by omega) (fun y hy=>?_),by dsimp only;omega,by omega,by dsimp only;omega,by rw[lp];omega,fun x0 x4 x5=>⟨_,_,zJm g (j.ha g) (by omega) (by have:=j.la;omega)⟩,fun x0=>?_⟩
   ·rcases cL.mp hy with h | h
    ·exact .inr (List.mem_filter.mp h).1
    ·exact .inl (bJ.mp h)
   ·rw[lp];rfl
 | @ag m x t ns d dp hx hm hd g=>
   obtain⟨f1,f2,f3⟩:=qXx g;have f3' :d=1->(m:Int)<=room:=fun z=>of_decide_eq_true (f3 z)
   have hk:kn≠ []:=fun z=>by rw[z]at hx;cases hx
   have md:d=0\/d=1:=by omega
   have m3:m<=3:=by omega
   have cm:cond dp 15 7 * m<=(if k<13 then 21 else 7)/\cond dp 15 7 * m<=21:=by
    cases dp with
    |true=>obtain⟨h1,h2⟩:=hd rfl;subst h2;simp[h1]
    |false=>show 7 * m<=_/\7 * m<=21;split <;> omega
   obtain⟨o',P',Pl',La',q1,q2,q3,q4,q5,q6⟩:=times (n:=(m:Int)) hx g (rngD 0 m) o P Pl La j (by rw[qXd];rcases md with z|z <;> subst z <;> omega) (by rw[qXd];omega) (by rw[qXd];omega);rw[qXd]at q1 q3 q4 q5;refine⟨o',P',Pl',La',E,by show jC x t (m:Int).toNat o=_;rw[eZ];exact q1,q2,?_,?_,?_,?_,fun x0 x4 x5=>?_,fun x0=>?_⟩
   ·rcases md with z|z <;> subst z <;> simp only[Nat.mul_zero,Nat.mul_one,Int.mul_zero,Int.mul_one,Int.natCast_zero,Int.natCast_one]at * <;> omega
   ·rcases md with z|z <;> subst z <;> simp only[Int.mul_zero,Int.mul_one,Int.natCast_zero,Int.natCast_one] <;> omega
   ·have:=cm.1;split at this <;> rename_i z <;> simp only[z,if_true,if_false] <;> omega
   ·rw[q5,if_neg hk];split <;> omega
   ·obtain⟨y5,q6⟩:=q6 x0 (fzI (m:Nat)) x5;have s1:(sSet 4 (owS (oV (oL intD [(o2 neF (oIx (oN 3) (oC (.int 0))) (oC (.str "def")))])))) [x0,dS La,lO P,sF (Rw.ag m x t).d,x4,x5]=.ok (.nx [x0,dS La,lO P,sF (Rw.ag m x t).d,fzI 1,x5]):=by kernel_rfl
    have s2:(sIf (asB (o2 eqD (oIx (oN 3) (oC (.int 0))) (oC (.str "again")))) (sSet 4 (owS (oV (oIx (oN 3) (oC (.int 1)))))) sNil) [x0,dS La,lO P,sF (Rw.ag m x t).d,fzI 1,x5]=.ok (.nx [x0,dS La,lO P,sF (Rw.ag m x t).d,fzI (m:Nat),x5]):=by kernel_rfl
    exact⟨fzI (m:Nat),y5,jV s1 (jV s2 (zO (ds:=rngD 0 m) (e:=[x0,dS La,lO P,sF (Rw.ag m x t).d,fzI (m:Nat),x5]) (qZu (xs:=[.int (m:Nat)]) rfl (jQu m3) rfl) q6))⟩
   ·rw[q5,Int.natCast_add];rfl
end
noncomputable def os1:Os:=⟨hsFG,[],[],⟨[],0,0⟩⟩
noncomputable def hlFG:Nm:=[("f",2),("g",1)]
theorem jQg(rs:List Rw):v4 (jH ++ rs) os0=v4 rs os1:=by kernel_rfl
theorem xO:∀{rs r2:List Rw} {o o1:Os},v4 rs o=.ok o1->v4 (rs ++ r2) o=v4 r2 o1
 |[],r2,o,o1,h=>by cases h;rfl
 | r::rs,r2,o,o1,h=>by
   obtain⟨o2,e,h⟩:=qM (show(wU o r).bind (v4 rs)=_ from h);show(wU o r).bind (v4 (rs ++ r2))=_;rw[e];exact xO h
theorem qXl:∀{rs r2:List Rw} {kn:Kn} {hl:Nm},wC rs kn hl=true->wC r2 (rs.foldl yQ kn) (rs.foldl yR hl)=true->wC (rs ++ r2) kn hl=true
 |[],r2,kn,hl,_,h=>h
 | r::rs,r2,kn,hl,h,h2=>by
   change (qXz kn hl r && wC rs (yQ kn r) (yR hl r))=true at h;rw[aD]at h;show(qXz kn hl r && wC (rs ++ r2) (yQ kn r) (yR hl r))=true;rw[h.1,qXl h.2 h2];rfl
theorem vQd{t:Tm}{d:Nat}{kf:Str->Bool}(g:GT kn c dp t ns d)(hk:∀x∈kn,kf x=true):chkT kf hlFG t=true:=by
 have e1:getA hlFG "f"=some 2:=rfl;have e2:getA hlFG "g"=some 1:=rfl;cases g with
 |leaf l|plus _ l|ite _ _ l|fld _ _ l|f _ l=>cases l <;> simp_all[chkT,chkTs]
 |op2|rest|g=>simp_all[chkT,chkTs]
structure Bg(k:Nat)(R:List Rw)(kn:List Str)(room:Int)(o:Os)(P:List (List Int))(Pl:List (Int×Int))(La:List (Str×Int))(E:List Int):Prop where
 j:J kn o P Pl La E
 op:v4 R os1=.ok o
 dr:(o.s.dr.length:Int)+room<=50
 rm:0<=room
 tm:o.s.tm<=21 * (min k 13:Nat)+7 * (k - 13:Nat)
 ln:P.length<=3 * min k 13+(k - 13) - 2
 k0:k=0->kn=[]
 ck:wC R [] hlFG=true
 ch:R.foldl yR hlFG=hlFG
 cn:∀x∈kn,qQj (R.foldl yQ []) x=true
 ok:∀r∈R,qKh r/\isDf r=false
 f2:∀x0 x3 x4 x5,∃y3 y4 y5,Lp (gN 3) zP (R.map Rw.d) [x0,dS [],lO [],x3,x4,x5] [x0,dS La,lO P,y3,y4,y5]
 f3:∀x0 x3,∃y3,Lp (gN 3) wG (R.map Rw.d) [x0,fzI 0,eO [],x3] [x0,fzI (P.length:Nat),eO E,y3]
theorem xB{t:Tm}{d:Nat}(g:GT kn c dp t ns d):t.wf/\t.h<=30:=⟨(zX5 g).1,by have:=(zX5 g).2;omega⟩
theorem big{k:Nat}{room:Int}(g:Gen k R kn room):k<=37->∃o P Pl La E,Bg k R kn room o P Pl La E:=by
 induction g with
 |nil=>exact fun _=>⟨os1,[],[],[],[],⟨rfl,eY _,fun p hp=>(by cases hp),rfl,fun i l h=>(by cases h),fun x hx=>(by cases hx),aB _,aB _,fun x0 x3 x4=>⟨x3,x4,.nil⟩,rfl⟩,rfl,by decide,by decide,by decide,bO _,fun _=>rfl,rfl,rfl,fun x hx=>(by cases hx),fun r hr=>(by cases hr),fun x0 x3 x4 x5=>⟨x3,x4,x5,.nil⟩,fun x0 x3=>⟨x3,.nil⟩⟩
 | @snoc k R kn kn' room room' r g s ih=>
   intro hk;obtain⟨o,P,Pl,La,E,b⟩:=ih (by omega);have tm:=b.tm;have ln:=b.ln;obtain⟨o',P',Pl',La',E',q1,q2,q3,q4,q5,q6,q7,q8⟩:=zJn s b.j b.dr b.rm (by omega) (by omega);refine⟨o',P',Pl',La',E',q2,by rw[xO b.op];show(wU o r).bind _=_;rw[q1];rfl,q3,q4,?_,?_,fun z=>(by cases z),?_,?_,?_,?_,fun x0 x3 x4 x5=>?_,fun x0 x3=>?_⟩
   ·grind
   ·by_cases z:k=0
    ·rw[if_pos (b.k0 z)]at q6;omega
    ·grind
   ·refine qXl b.ck ?_
    rw[b.ch];show(qXz _ _ r && true)=true;rw[Bool.and_true];cases s with
    |see hd g=>exact vQd g b.cn
    |lt hd g=>exact vQd g b.cn
    |ag hx hm hd g=>show(qQj _ _ && chkT _ _ _)=true;rw[b.cn _ hx,vQd g b.cn];rfl
   ·rw[List.foldl_append,b.ch];cases s <;> rfl
   ·intro y hy;rw[List.foldl_append];cases s with
    |see hd g=>exact b.cn y hy
    |ag hx hm hd g=>exact b.cn y hy
    | @lt x t ns d dp hd g=>
      show((getA (putA (R.foldl yQ []) x ()) y).isSome)=true;rw[jS];by_cases z:x=y
      ·grind
      ·rw [if_neg z];rcases cL.mp hy with h|h
       ·exact b.cn y (List.mem_filter.mp h).1
       ·grind
   ·intro q hq;rcases cL.mp hq with h|h
    ·exact b.ok q h
    ·cases bJ.mp h;cases s with
     |see hd g=>exact⟨⟨(xB g).1,(xB g).2,fun _ _ _ e=>(by cases e)⟩,rfl⟩
     |lt hd g=>exact⟨⟨(xB g).1,(xB g).2,fun _ _ _ e=>(by cases e)⟩,rfl⟩
     |ag hx hm hd g=>exact⟨⟨(xB g).1,(xB g).2,fun _ _ _ e=>(by cases e;omega)⟩,rfl⟩
   ·obtain⟨y3,y4,y5,f⟩:=b.f2 x0 x3 x4 x5;obtain⟨z4,z5,e⟩:=q7 x0 y4 y5;refine⟨sF r.d,z4,z5,?_⟩;rw[bG];exact f.snoc rfl e
   ·obtain⟨y3,f⟩:=b.f3 x0 x3;refine⟨sF r.d,?_⟩;rw[bG];exact f.snoc rfl (q8 x0)
theorem zVc{o:Os}{r:Rw}(e:wU o r=.ok o')(h:o.ν.length<=o.st.length):o'.ν.length<=o'.st.length/\o.st.length<=o'.st.length/\o'.hs.length<=o.hs.length+1:=by
 have tm:∀(x:Str) (t:Tm) (n:Nat) (o o' :Os),jC x t n o=.ok o' ->o.ν.length<=o.st.length->o'.ν.length<=o'.st.length/\o.st.length<=o'.st.length/\o'.hs=o.hs:=by
  intro x t n;induction n with
  |zero=>intro o o' e h;cases e;exact⟨h,aB _,rfl⟩
  | succ n ih=>
    intro o o' e h;obtain⟨o1,e1,e⟩:=qM (show(xN o x t).bind _=_ from e);obtain⟨a,b,c⟩:=xC e1;obtain⟨p,q,r⟩:=ih o1 o' e (by omega);exact⟨p,by omega,by rw[r,a]⟩
 cases r with
 |df f ps b=>cases e;exact⟨h,aB _,wD⟩
 |lt x t=>obtain⟨a,b,c⟩:=xC e;exact⟨by omega,by omega,by rw[a];omega⟩
 |ag n x t=>obtain⟨a,b,c⟩:=tm x t n.toNat o o' e h;exact⟨a,b,by rw[c];omega⟩
 | see t=>
   obtain⟨q,e1,e⟩:=qM (show(qP o.hs 30 o.ν t o.s).bind _=_ from e);cases e;exact⟨by simp;omega,by simp,by show o.hs.length<=_;omega⟩
 | ask t=>
   obtain⟨q,e1,e⟩:=qM (show(qP o.hs 30 o.ν t o.s).bind _=_ from e);cases e;exact⟨by simp;omega,by simp,by show o.hs.length<=_;omega⟩
theorem qWi:∀{rs:List Rw} {o o' :Os},v4 rs o=.ok o' ->o.ν.length<=o.st.length->o'.ν.length<=o'.st.length/\o.st.length<=o'.st.length/\o'.hs.length<=o.hs.length+rs.length
 |[],o,o',e,h=>by cases e;exact⟨h,aB _,aB _⟩
 | r::rs,o,o',e,h=>by
   obtain⟨o1,e1,e⟩:=qM (show(wU o r).bind (v4 rs)=_ from e);obtain⟨a,b,c⟩:=zVc e1 h;obtain⟨p,q,s⟩:=qWi e a;exact⟨p,by omega,by rw[aK];omega⟩
theorem zJo{rows:List Rw}(e:v4 rows os0=.ok o')(h1:o'.st.length<=900)(h2:rows.length<=900):room os0 rows:=by
 intro rs1 rs2 o1 q1 q2;subst q1;obtain⟨a,b,c⟩:=qWi q2 (aB 0);rw[xO q2]at e;obtain⟨p,q,s⟩:=qWi e a;rw[aU]at h2;exact⟨by omega,by omega,by have:os0.hs.length=0:=rfl;omega⟩
theorem jQ4:∀r∈jH,qKh r:=by
 intro r hr;rcases aG.mp hr with h|h
 ·subst h;exact⟨by show Tm.wf qWz;unfold qWz;simp[Tm.wf],by show Tm.h qWz<=30;unfold qWz;simp[Tm.h],fun _ _ _ e=>(by cases e)⟩
 ·cases bJ.mp h;exact⟨by show Tm.wf qVf;unfold qVf;simp[Tm.wf,Tm.wfs],by show Tm.h qVf<=30;unfold qVf;simp[Tm.h,Tm.hs],fun _ _ _ e=>(by cases e)⟩
noncomputable abbrev pD(rows:List Rw):D:=.nd .lst (rows.map Rw.d)
noncomputable abbrev lsO(Q:List (List Int)):O:=.ow .lst (Q.map fun l=>.ow .lst (((srt l).map D.int).map .fz))
noncomputable abbrev lsQ(Q:List (List Int)):D:=.nd .lst (Q.map fun l=>.nd .lst ((srt l).map D.int))
theorem zKn(Q:List (List Int)):fzO (lsO Q)=lsQ Q:=by
 show D.nd .lst (fzOs _)=_;congr 1;induction Q with
 |nil=>rfl
 |cons l Q ih=>show fzO (.ow .lst (((srt l).map D.int).map .fz))::fzOs (Q.map _)=_;rw[vY,ih];rfl
structure Wh(rows:List Rw)(O:Os)(Q:List (List Int))(E:List Int):Prop where
 op:qVz [sF (pD rows)]=.ok (oneO O.st O.s.dr O.s.sl,[.un])
 st:∀p∈O.st,p.2.ok/\p.2.h<=7/\ -1<=p.1
 len:Q.length=O.st.length
 few:Q.length<=62
 lo:∀(i:Nat) (l:List Int),Q[i]?=some l->∀q∈l,0<=q/\q<(i:Int)
 le:qQy [sF (oneD O.st O.s.dr O.s.sl)]=.ok (lsO Q,[.un])
 ll:yM [sF (pD rows)]=.ok (lsO Q,[.un])
 en:vJ1 [sF (pD rows)]=.ok (.ow .lst ((E.map D.int).map .fz),[.un])
 ei:∃st sl ot,O.st=st ++ [(sl,ot)]/\0<=sl/\E=skI 0 st ++ [((st.length:Nat):Int)]
theorem vJv(x0:Slot)(rs:List D):forS (gN 3) zP (jH.map Rw.d ++ rs) [x0,dS [],lO [],.un,.un,.un]=forS (gN 3) zP rs [x0,dS [],lO [],sF (Rw.df "g" ["x"] qVf).d,fzI 0,.un]:=by kernel_rfl
theorem vYy(x0:Slot)(rs:List D):forS (gN 3) wG (jH.map Rw.d ++ rs) [x0,fzI 0,eO [],.un]=forS (gN 3) wG rs [x0,fzI 0,eO [],sF (Rw.df "g" ["x"] qVf).d]:=by kernel_rfl
theorem whole(cs:List Int)(hc:cs.length<=37):∃rows O Q E,rows.length<=100/\j3 [sF (.nd .lst (cs.map D.int)),fzI 50]=.ok (.ow .lst ((rows.map Rw.d).map .fz),[.un,.un])/\Wh rows O Q E:=by
 obtain⟨R,kn,room,t,ns,d,g,gt,ep⟩:=vJi cs (by omega);obtain⟨o,P,Pl,La,E,b⟩:=big g hc;obtain⟨f1,f2,f3⟩:=qXx gt;have f3' :d=1->0<room:=fun z=>of_decide_eq_true (f3 z)
 have dr:=b.dr;have rm:=b.rm;have tm:=b.tm;have ln:=b.ln;obtain⟨ot,s',e,u⟩:=b.j.op gt (by omega) (by omega);have u1:=u.dr;have u2:=u.tm;have u3:=u.sl;have s0:=b.j.sl0;obtain⟨a1,a2,a3,a4⟩:=b.j.step gt u (i:=s'.sl) (by omega) (by omega);have lR:=(qXj g).1;have lQ:(P ++ [rdL La ns]).length =P.length+1:=by rw[aU];rfl
 have opn:v4 (jH ++ (R ++ [Rw.ask t])) os0=.ok {o with st:=o.st ++ [(s'.sl,ot)],s:={s' with sl:=s'.sl+1}}:=by
  rw[jQg,xO b.op];show((qP o.hs 30 o.ν t o.s).bind _).bind _=_;rw[e];rfl
 have lr:(jH ++ (R ++ [Rw.ask t])).length =R.length+3:=by simp[jH]
 have ls:(o.st ++ [(s'.sl,ot)]).length =P.length+1:=by rw[aU,b.j.len];rfl
 have fR:R.filter isDf=[]:=List.filter_eq_nil_iff.mpr fun r hr=>by rw[(b.ok r hr).2];decide
 have es:(jH ++ (R ++ [Rw.ask t])).map Rw.d=jH.map Rw.d ++ (R.map Rw.d ++ [(Rw.ask t).d]):=by rw[bG,bG];rfl
 refine⟨_,{o with st:=o.st ++ [(s'.sl,ot)],s:={s' with sl:=s'.sl+1}},P ++ [rdL La ns],E ++ [((P.length:Nat):Int)],by omega,ep,?_,a1,a2,by omega,a3,?_,?_,?_,o.st,s'.sl,ot,rfl,by omega,by rw[b.j.sk,b.j.len]⟩
 ·refine vYd _ _ (fun r hr=>?_) (by omega) (qXl (rs:=jH) (by kernel_rfl) (qXl b.ck ?_)) ?_ (zJo opn (by show(o.st ++ [(s'.sl,ot)]).length <=_;omega) (by omega)) (by dsimp only;omega) opn
  ·rcases cL.mp hr with h | h
   ·exact jQ4 r h
   ·rcases cL.mp h with h | h
    ·exact(b.ok r h).1
    ·cases bJ.mp h;exact⟨(xB gt).1,(xB gt).2,fun _ _ _ e=>(by cases e)⟩
  ·rw [show jH.foldl yR []=hlFG by kernel_rfl,b.ch,show jH.foldl yQ []=[] by kernel_rfl];show(chkT _ hlFG t && true)=true;rw[vQd gt b.cn];rfl
  ·rw[List.filter_append,List.filter_append,fR];exact dB (show 2<3 by decide)
 ·obtain⟨y3,y4,f⟩:=a4 (sF (oneD (o.st ++ [(s'.sl,ot)]) s'.dr (s'.sl + 1))) .un .un;exact vW (qJ (o:=.ow (.dct []) []) rfl (qJ (o:=.ow .lst []) rfl (jV (zO (qZu (xs:=[.nd .lst (vJ (o.st ++ [(s'.sl,ot)]))]) (e:=[sF (oneD (o.st ++ [(s'.sl,ot)]) s'.dr (s'.sl+1)),dI [],lO [],.un,.un]) rfl rfl rfl) f.end) rfl))) rfl
 ·obtain⟨y3,y4,y5,f⟩:=b.f2 (sF (pD (jH ++ (R ++ [Rw.ask t])))) (sF (Rw.df "g" ["x"] qVf).d) (fzI 0) .un;have fe:=f [(Rw.ask t).d] _ (vU rfl (vWs false gt (b.j.ha gt) (by omega)) rfl);refine vW (o:=.rt (lsO (P ++ [rdL La ns])) _) (qJ (o:=.ow (.dct []) []) rfl (qJ (o:=.ow .lst []) rfl (jV (zO (qZt (d:=pD (jH ++ (R ++ [Rw.ask t]))) (e:=[sF (pD (jH ++ (R ++ [Rw.ask t]))),dS [],lO [],.un,.un,.un]) rfl (by show some _=some _;rw[es]) rfl) ((vJv _ _).trans fe)) rfl))) rfl
 ·obtain⟨y3,f⟩:=b.f3 (sF (pD (jH ++ (R ++ [Rw.ask t])))) (sF (Rw.df "g" ["x"] qVf).d);have le:E.length<=1000:=by rw[b.j.sk];have:=vQj o.st 0;have:=b.j.len;omega
  have ap:apF ((E.map D.int).map .fz) (.fz (.int (P.length:Nat)))=some (.fz .non,((E ++ [(P.length:Int)]).map D.int).map .fz):=by
   unfold apF;rw[decide_eq_true (show((E.map D.int).map O.fz).length <=lim by rw[aW,aW];exact aM le (show 1000<=1000000 by decide)),bG,bG];rfl
  have fe:=f [(Rw.ask t).d] _ (vU rfl (qD (q:=true) (e:=[sF (pD (jH ++ (R ++ [Rw.ask t]))),fzI (P.length:Nat),eO E,sF (Rw.ask t).d]) rfl (vT (xF (i:=2) (π:=[]) (os0:=(E.map D.int).map .fz) (os:=(E.map D.int).map .fz) rfl rfl rfl rfl rfl ap rfl) rfl)) rfl);exact vW (qJ (o:=.fz (.int 0)) rfl (qJ (o:=.ow .lst []) rfl (jV (zO (qZt (d:=pD (jH ++ (R ++ [Rw.ask t]))) (e:=[sF (pD (jH ++ (R ++ [Rw.ask t]))),fzI 0,eO [],.un]) rfl (by show some _=some _;rw[es]) rfl) ((vYy _ _).trans fe)) rfl))) rfl
noncomputable abbrev lI(l:List Int):D:=.nd .lst (l.map D.int)
theorem zZa(k:Kd)(ds:List D):vJ8 (.ow k (ds.map .fz))=.ow k (ds.map .fz):=by show O.ow k ((ds.map O.fz).map fun o=>O.fz (fzO o))=_;rw[dP];rfl
noncomputable def Eqs(n:Nat)(d:D):Prop:=∃a,dtOf d=some a/\a.hgt<=n
theorem Eqs.tup{n:Nat}{ds:List D}(h:∀d∈ds,Eqs n d):∃a,dtsOf ds=some a/\Dt.hgts a<=n:=by
 induction ds with
 |nil=>exact⟨[],by rw[dtsOf],by rw[Dt.hgts];omega⟩
 | cons d ds ih=>
   obtain⟨a,e1,h1⟩:=h d (by simp);obtain⟨b,e2,h2⟩:=ih fun x hx=>h x (aO _ hx)
   exact⟨a::b,by rw[dtsOf,e1,e2],by rw[Dt.hgts];omega⟩
theorem Eqs.mk{n:Nat}{ds:List D}(h:∀d∈ds,Eqs n d):Eqs (n+1) (.tup ds):=by
 obtain⟨a,e,l⟩:=Eqs.tup h;exact⟨.tup a,by show(match dtsOf ds with|some xs=>some (Dt.tup xs)|none=>none)=_;rw[e],by rw[Dt.hgt];omega⟩
theorem vKh(a:List Dt):Dt.beqs a a=true:=by have:=Dt.beq_self (.tup a);rwa [Dt.beq]at this
theorem zQu{n:Nat}{ds:List D}(hn:n<=30)(h:∀d∈ds,Eqs n d):eqD (.nd .lst ds) (.nd .lst ds)=some (.bl true):=by
 obtain⟨a,e,l⟩:=Eqs.tup h;show((dtsOf ds).bind fun a=>(dtsOf ds).bind fun b=>if Dt.hgts a<=30 then some (Dt.beqs a b) else none).map D.bl=_;rw[e,bH,bH,if_pos (by omega),vKh];rfl
section
variable{n m:Nat}{d:D}{ds:List D}
theorem Eqs.int(i:Int):Eqs n (.int i):=⟨.int i,by rw[dtOf],bO _⟩
theorem Eqs.str(x:Str):Eqs n (.str x):=⟨.str x,by rw[dtOf],bO _⟩
theorem Eqs.up(h:Eqs n d)(l:n<=m):Eqs m d:=by obtain⟨a,e,k⟩:=h;exact⟨a,e,by omega⟩
theorem al(h:Eqs n d)(k:∀x∈ds,Eqs n x):∀x∈d::ds,Eqs n x:=List.forall_mem_cons.mpr ⟨h,k⟩
theorem an:∀x∈([]:List D),Eqs n x:=fun x h=>by cases h
end
mutual
theorem yZ:∀t:OT,Eqs (3 * t.h) t.d
 |.num n=>by rw[OT.d,OT.h];exact Eqs.mk (n:=2) (al (.str _) (al (.int _) an))
 |.slot n=>by rw[OT.d,OT.h];exact Eqs.mk (n:=2) (al (.str _) (al (.int _) an))
 |.draw n=>by rw[OT.d,OT.h];exact Eqs.mk (n:=2) (al (.str _) (al (.int _) an))
 | .op s a b=>by
   rw[OT.d,OT.h];exact(Eqs.mk (n:=3 * max a.h b.h) (al (.str _) (al (.str _) (al ((yZ a).up (by omega)) (al ((yZ b).up (by omega)) an))))).up (by omega)
 | .rest a n=>by
   rw[OT.d,OT.h];exact(Eqs.mk (n:=3 * a.h) (al (.str _) (al (yZ a) (al (.int _) an)))).up (by omega)
 | .field a n=>by
   rw[OT.d,OT.h];exact(Eqs.mk (n:=3 * a.h) (al (.str _) (al (yZ a) (al (.str _) an)))).up (by omega)
 | .ite c a b=>by
   rw[OT.d,OT.h];exact(Eqs.mk (n:=3 * max c.h (max a.h b.h)) (al (.str _) (al ((yZ c).up (by omega)) (al ((yZ a).up (by omega)) (al ((yZ b).up (by omega)) an))))).up (by omega)
 | .rcd xs as=>by
   rw[OT.d,OT.h];exact(Eqs.mk (n:=3 * OT.hs as+2) (al (.str _) (al (Eqs.mk (eqs_ots xs as)) an))).up (by omega)
 | .bind i a b=>by
   rw[OT.d,OT.h];exact(Eqs.mk (n:=3 * max a.h b.h) (al (.str _) (al (.int _) (al ((yZ a).up (by omega)) (al ((yZ b).up (by omega)) an))))).up (by omega)
theorem eqs_ots:∀(xs:List Str) (as:List OT),∀d∈zipD (xs.map .str) (OT.ds as),Eqs (3 * OT.hs as+1) d
 |[],_,d,hd=>by cases hd
 |x::xs,[],d,hd=>by rw[OT.ds]at hd;cases hd
 | x::xs,a::as,d,hd=>by
   rw[OT.ds]at hd;rw[OT.hs];rcases aG.mp hd with q|q
   ·rw[q];exact(Eqs.mk (n:=3 * a.h) (al (.str _) (al (yZ a) an))).up (by omega)
   ·exact(eqs_ots xs as d q).up (by omega)
end
theorem jQb{st:List (Int×OT)}(h:∀p∈st,p.2.h<=7):eqD (.nd .lst (vJ st)) (.nd .lst (vJ st))=some (.bl true):=zQu (n:=22) (by decide) fun d hd=>by
 obtain⟨p,hp,rfl⟩:=dH.mp hd;have:=h p hp;exact Eqs.mk (n:=21) (al (.int _) (al ((yZ p.2).up (by omega)) an))
theorem zZn(l:List Int):eqD (lI l) (lI l)=some (.bl true):=zQu (n:=0) (by decide) fun d hd=>by obtain⟨i,_,rfl⟩:=dH.mp hd;exact Eqs.int i
end LG
namespace X50
open PySem L2 DX FP LWF FM LG PyProof.Rows
section
variable{x0 x1 x2 x3:Slot}
theorem zQ2{n:Int}:yL [fzI n]=.ok (.fz (.bl true),[.un]):=by kernel_rfl
theorem in_loop:∀(l:List Int) (x4:Slot),∃y,forS (gN 4) qZ1 (l.map D.int) [x0,x1,x2,x3,x4]=.ok (.nx [x0,x1,x2,x3,y])
 |[],x4=>⟨x4,rfl⟩
 | a::l,x4=>by
   obtain⟨y,ih⟩:=in_loop l (fzI a);have c:asB (.v (fzS (qN yL [(.v (oV (oN 4)))]))) [x0,x1,x2,x3,fzI a]=.ok (true,[x0,x1,x2,x3,fzI a]):=xG (zR (jG (wV (vK (vH (d:=.int a) rfl (vG rfl) rfl) (qO rfl rfl rfl zQ2 rfl rfl rfl)) rfl) rfl) rfl) rfl rfl;exact⟨y,vU (e1:=[x0,x1,x2,x3,fzI a]) rfl (vR (not_of c rfl) rfl) ih⟩
theorem zXu{x y:D}(h:eqD x y=some (.bl true)):neD x y=some (.bl false):=by
 unfold eqD at h;unfold neD;cases e:eqB x y with
 |none=>rw[e]at h;cases h
 |some b=>rw[e]at h;cases h;rfl
theorem out_loop:∀(L:List (List Int)) (x2 x3 x4:Slot),∃y2 y3 y4,forS (gT 2 (gCn (gN 2) (gCn (gN 3) gNl))) qZ0 (zipD (L.map lI) (L.map lI)) [x0,x1,x2,x3,x4]=.ok (.nx [x0,x1,y2,y3,y4])
 |[],x2,x3,x4=>⟨x2,x3,x4,rfl⟩
 | l::L,x2,x3,x4=>by
   obtain⟨y,h1⟩:=in_loop (x0:=x0) (x1:=x1) (x2:=sF (lI l)) (x3:=sF (lI l)) l x4;obtain⟨y2,y3,y4,ih⟩:=out_loop L (sF (lI l)) (sF (lI l)) y;have t1:asB (o1 (isiD "list") (oN 2)) [x0,x1,sF (lI l),sF (lI l),x4]=.ok (true,[x0,x1,sF (lI l),sF (lI l),x4]):=rfl;have t2:asB (o2 neD (oN 2) (oN 3)) [x0,x1,sF (lI l),sF (lI l),x4]=.ok (false,[x0,x1,sF (lI l),sF (lI l),x4]):=xG (zR (zK (h1:=.d (lI l)) (h2:=.d (lI l)) rfl rfl rfl rfl rfl (zXu (zZn l)) rfl) rfl) rfl rfl;exact⟨y2,y3,y4,vU (e1:=[x0,x1,sF (lI l),sF (lI l),x4]) rfl (qD (vJ5 (not_of t1 rfl) t2) (qF (zO (qZt (d:=lI l) rfl rfl rfl) h1))) ih⟩
theorem zVd(L:List (List Int)):wY [sF (.nd .lst (L.map lI)),sF (.nd .lst (L.map lI))]=.ok (.fz (.bl true),[.un,.un]):=by
 obtain⟨y2,y3,y4,lp⟩:=out_loop (x0:=sF (.nd .lst (L.map lI))) (x1:=sF (.nd .lst (L.map lI))) L .un .un .un;have t1:asB (o1 (isiD "list") (oN 0)) [sF (.nd .lst (L.map lI)),sF (.nd .lst (L.map lI)),.un,.un,.un]=.ok (true,[sF (.nd .lst (L.map lI)),sF (.nd .lst (L.map lI)),.un,.un,.un]):=rfl;have t2:asB (o2 neF (oL lenD [(oN 0)]) (oL lenD [(oN 1)])) [sF (.nd .lst (L.map lI)),sF (.nd .lst (L.map lI)),.un,.un,.un]=.ok (!decide (((L.map lI).length :Int)=(L.map lI).length),[sF (.nd .lst (L.map lI)),sF (.nd .lst (L.map lI)),.un,.un,.un]):=rfl;rw[decide_eq_true rfl]at t2;exact vW (qD (vJ5 (not_of t1 rfl) t2) (qF (jV (zO (qZu (xs:=[.nd .lst (L.map lI),.nd .lst (L.map lI)]) rfl rfl rfl) lp) rfl))) rfl
end
noncomputable abbrev En(X:Slot)(rows:List Rw)(O:Os)(x4 x5 x6:Slot):Ev:=[X,sF (pD rows),sF (oneD O.st O.s.dr O.s.sl),.s false (.ow .lst ((vJ O.st).map .fz)),x4,x5,x6]
theorem jQs{Q:List (List Int)}(few:Q.length<=62)(lo:∀(i:Nat) (l:List Int),Q[i]?=some l->∀q∈l,0<=q/\q<(i:Int)):∀l∈Q,(srt l).length <=62:=fun l h=>by
 obtain⟨i,h⟩:=List.getElem?_of_mem h;have hi:=(aL.mp h).1;have nd:=vKu (m:=(List.range Q.length).map fun(i:Nat)=>(i:Int)) (qV9 l) fun a ha=>by
  obtain⟨h0,h1⟩:=lo i l h a ((qKt _ a).mp ha);exact dH.mpr ⟨a.toNat,List.mem_range.mpr (by omega),by omega⟩
 rw[aW,List.length_range]at nd;rw[(PySem.W.sortI_perm (qQh l)).length_eq];omega
theorem jVz(ns:List Int):cutL (ns.map D.int) none (some 37)=(ns.take 37).map D.int:=by
 unfold cutL;rw[show HT.sIx (ns.map D.int).length 0 none=0 from rfl,List.drop_zero,Nat.sub_zero,show HT.sIx (ns.map D.int).length (ns.map D.int).length (some 37)=min 37 (ns.map D.int).length from HT.zJj _ _ 37,List.map_take];grind
theorem aps:∀Q:List (List Int),(∀l∈Q,(srt l).length <=62)->∃r,apKs (-1) (Q.map fun l=>O.ow .lst (((srt l).map D.int).map .fz))=some r
 |[],_=>⟨[],rfl⟩
 | l::Q,h=>by
   obtain⟨r,e⟩:=aps Q fun x hx=>h x (aO _ hx)
   have h1:=h l (by simp);have e1:apK (-1) (O.ow .lst (((srt l).map D.int).map .fz))=some (.ow .lst (((srt l).map D.int).map .fz ++ [.fz (.int (-1))])):=by
    show cond (decide _) _ _=_;rw[decide_eq_true (show(((srt l).map D.int).map DX.O.fz).length <=lim by rw[aW,aW];exact aM h1 (show 62<=1000000 by decide))];rfl
   exact⟨_,by rw[aS,apKs,e1,e];rfl⟩
theorem zV7(ns:List Int)(h:ns.length<=63):∃e,vKx [.s false (.fz (.nd .lst (ns.map .int)))]=.ok (.fz (.bl true),e):=by
 have ct:=jVz ns;obtain⟨rows,O,Q,E,lr,ep,w⟩:=whole (ns.take 37) (by rw[List.length_take];omega);generalize hX:sF (D.nd .lst (ns.map .int))=X;have sl:fzS (eSlL (oN 0) none (some (oV (oC (.int 37))))) [X,.un,.un,.un,.un,.un,.un]=.ok (lI (ns.take 37),[X,.un,.un,.un,.un,.un,.un]):=by
  subst hX;refine wV (o:=.ow .lst ((cutL (ns.map D.int) none (some 37)).map .fz)) rfl ?_
  rw[vY,ct]
 have c1:qN j3 [(.v (fzS (eSlL (oN 0) none (some (oV (oC (.int 37))))))),(.v (oV (oC (.int 50))))] [X,.un,.un,.un,.un,.un,.un]=.ok (.ow .lst ((rows.map Rw.d).map .fz),[X,.un,.un,.un,.un,.un,.un]):=vK (vH sl (vH (d:=.int 50) rfl (vG rfl) rfl) rfl) (qO rfl rfl rfl ep rfl rfl rfl);have fr1:oV (oN 1) [X,.s false (.ow .lst ((rows.map Rw.d).map .fz)),.un,.un,.un,.un,.un]=.ok (pD rows,[X,sF (pD rows),.un,.un,.un,.un,.un]):=by
  show _=Res.ok (D.nd .lst (rows.map Rw.d),[X,.s false (.fz (.nd .lst (rows.map Rw.d))),.un,.un,.un,.un,.un]);rw[←vY (k:=.lst) (rows.map Rw.d)];rfl
 have c2:=vK (F:=qVz) (vH fr1 (vG rfl) rfl) (qO rfl rfl rfl w.op rfl rfl rfl);have c3:eF listD [(oFld [1] "steps" (oN 2))] [X,sF (pD rows),.s false (oneO O.st O.s.dr O.s.sl),.un,.un,.un,.un]=.ok (.ow .lst ((vJ O.st).map .fz),[X,sF (pD rows),.s false (oneO O.st O.s.dr O.s.sl),.un,.un,.un,.un]):=by
  refine vVt (hs:=[.p 2 [0]]) (xs:=[fzO (.ow .lst ((vJ O.st).map .fz))]) (e1:=[X,sF (pD rows),.s false (.ow (.obj 1 ["steps","draws","slots"]) [vJ8 (.ow .lst ((vJ O.st).map .fz)),.ow .lst ((O.s.dr.map drD).map .fz),.fz (.int O.s.sl)]),.un,.un,.un,.un]) rfl rfl (by rw[vY];rfl) ?_
  rw[zZa];rfl
 have c4:qN yM [(.v (oV (oN 1)))] [X,sF (pD rows),.s false (oneO O.st O.s.dr O.s.sl),.s false (.ow .lst ((vJ O.st).map .fz)),.un,.un,.un]=.ok (lsO Q,[X,sF (pD rows),.s false (oneO O.st O.s.dr O.s.sl),.s false (.ow .lst ((vJ O.st).map .fz)),.un,.un,.un]):=vK (vH (d:=pD rows) rfl (vG rfl) rfl) (qO rfl rfl rfl w.ll rfl rfl rfl);have fr2:∀{x3 x4 x5 x6:Slot},oV (oN 2) [X,sF (pD rows),.s false (oneO O.st O.s.dr O.s.sl),x3,x4,x5,x6]=.ok (oneD O.st O.s.dr O.s.sl,[X,sF (pD rows),sF (oneD O.st O.s.dr O.s.sl),x3,x4,x5,x6]):=by
  intros;unfold sF;rw[←zWi];rfl
 have c5:=fun {x3 x4 x5 x6:Slot}=>vK (F:=qQy) (vH (fr2 (x3:=x3) (x4:=x4) (x5:=x5) (x6:=x6)) (vG rfl) rfl) (qO rfl rfl rfl w.le rfl rfl rfl)
 have ri:=zVd (Q.map srt);rw[show D.nd .lst ((Q.map srt).map lI)=fzO (lsO Q) by rw[zKn,dP];rfl]at ri;have c6:qN wY [(.b (pOf (oN 5))),(.b (pOf (oN 4)))] (En X rows O (.s false (lsO Q)) (.s false (lsO Q)) .un)=.ok (.fz (.bl true),(En X rows O (.s false (lsO Q)) (.s false (lsO Q)) .un)):=vK (vVs (h1:=.p 5 []) rfl rfl (vVs (h1:=.p 4 []) rfl rfl (vG rfl) rfl) rfl) (qO rfl rfl rfl ri rfl rfl rfl);have t1:=not_of (xG (zR (jG (wV c6 rfl) rfl) rfl) rfl rfl) rfl;have t2:asB (o2 neD (oFld [1] "steps" (oN 2)) (oN 3)) (En X rows O (.s false (lsO Q)) (.s false (lsO Q)) .un)=.ok (false,En X rows O (.s false (lsO Q)) (.s false (lsO Q)) .un):=xG (zR (zK (h1:=.d (.nd .lst (vJ O.st))) (h2:=.p 3 []) (y:=fzO (.ow .lst ((vJ O.st).map .fz))) rfl rfl rfl rfl rfl (by rw[vY];exact zXu (jQb fun p hp=>(w.st p hp).2.1)) rfl) rfl) rfl rfl;obtain⟨r,ap⟩:=aps Q (jQs w.few w.lo);have c7:sApp 5 6 (-1) (En X rows O (.s false (lsO Q)) (.s false (lsO Q)) .un)=.ok (.nx (En X rows O (.s false (lsO Q)) (.s false (.ow .lst r)) .un)):=by
  show(opt (apKs (-1) (Q.map fun l=>DX.O.ow .lst (((srt l).map D.int).map .fz)))).bind _=_;rw[ap];rfl
 have c8:fzS (qN qQy [(.v (oV (oN 2)))]) (En X rows O (.s false (lsO Q)) (.s false (.ow .lst [])) .un)=.ok (fzO (lsO Q),En X rows O (.s false (lsO Q)) (.s false (.ow .lst [])) .un):=wV (vK (vH (d:=oneD O.st O.s.dr O.s.sl) rfl (vG rfl) rfl) (qO rfl rfl rfl w.le rfl rfl rfl)) rfl;have c9:qN wY [(.v (fzS (qN qQy [(.v (oV (oN 2)))]))),(.b (pOf (oN 4)))] (En X rows O (.s false (lsO Q)) (.s false (.ow .lst [])) .un)=.ok (.fz (.bl true),(En X rows O (.s false (lsO Q)) (.s false (.ow .lst [])) .un)):=vK (vH c8 (vVs (h1:=.p 4 []) rfl rfl (vG rfl) rfl) rfl) (qO rfl rfl rfl ri rfl rfl rfl);refine⟨outs 1 (En X rows O (.s false (lsO Q)) (.s false (.ow .lst [])) .un),?_⟩;show vKx [sF (D.nd .lst (ns.map .int))]=_;rw[hX];exact vW (qJ c1 (qJ c2 (qJ c3 (qJ c4 (qJ c5 (qD (vJ5 t1 t2) (qF (jV c7 (vT (o:=.fz .non) (e:=En X rows O (.s false (lsO Q)) (.s false (.ow .lst [])) .un) rfl (qZ6 c9 rfl)))))))))) rfl
end X50
namespace DX
open PySem L2
variable{pl:Sem Bool}{i:Nat}{o':Oe}
section
variable{X:Cx}{c:Nat->aZ}{E:XK}{e o:Expr}{es:List Expr}{as:List Am}{a0:Am}{x m q y:Str}{C j n:Nat}{st:Stmt}{f:aZ}{fd:bZ}{ps:List Str}{k k0:Nat}{F:Fn}{p pos apos np cpos:Pos}{s:SV}{tb:List (Nat×Fn)}
theorem cA(A:FnAt X.K X.mg x st ps f fd)(G:FnOk X.prog X.w X.K X.mg X.base (CXd X.prog X.w) k f fd ps (spD X.K c as.length F))(hr:Room k0 X.A)(ha:OsD X c E (e::es) (as.map Am.o))(hx:zC (CXd X.prog X.w) X E:=by exact v8)(hk:k<=k0:=by first|decide|omega)(hg:Gl X x:=by exact rfl)(hdb:(x == ("__debug__":Str))=false:=by decide)(he:aY (e::es) X.env=(false,eval e X.env)::aY es X.env:=by rfl)(hpl:(cV pos (aY es X.env)).any (·.1)=false:=by rfl):ED X c E (.Call (.Name x p) (e::es) [] pos) (qN F as):=
 qQx G (hr.mono hk) hg A.m A.F.kp A.b hx ha hdb he hpl
theorem mA(ho:OD X c E o a0.o)(hc:Cls X.K (c C))(hm:Meth X.K (c C) m f)(A:MethAt X.K m q st ps f fd)(G:FnOk X.prog X.w X.K X.mg X.base (CXd X.prog X.w) k f fd ps (spD X.K c (a0::as).length F))(hr:Room k0 X.A)(ha:OsD X c E (e::es) (as.map Am.o))(hx:zC (CXd X.prog X.w) X E:=by exact v8)(hk:k<=k0:=by first|decide|omega)(hst:aY (e::es) X.env=(false,eval e X.env)::aY es X.env:=by rfl)(hpl:(cV pos (aY es X.env)).any (·.1)=false:=by rfl)(ht:eval (.Call (.Attribute o m apos) (e::es) [] pos) X.env=(do
   let ov ←eval o X.env;standAt apos.atName;let (f,first) ←holding [ov] (getMethod ov m pl);callWith pos f first (cV pos (aY (e::es) X.env)) (backToKw pos (keywordEach [] X.env))):=by rfl):
  ED X c E (.Call (.Attribute o m apos) (e::es) [] pos) (jO C m F a0 as):=vXf ho hc hm G (hr.mono hk) A.b hx ha hst hpl ht
theorem m0A(ho:OD X c E o a0.o)(hc:Cls X.K (c C))(hm:Meth X.K (c C) m f)(A:MethAt X.K m q st ps f fd)(G:FnOk X.prog X.w X.K X.mg X.base (CXd X.prog X.w) k f fd ps (spD X.K c 1 F))(hr:Room k0 X.A)(hx:zC (CXd X.prog X.w) X E:=by exact v8)(hk:k<=k0:=by first|decide|omega)(ht:eval (.Call (.Attribute o m apos) [] [] pos) X.env=(do
   let ov ←eval o X.env;standAt apos.atName;let (f,first) ←holding [ov] (getMethod ov m pl);callWith pos f first (cV pos (aY [] X.env)) (backToKw pos (keywordEach [] X.env))):=by rfl):
  ED X c E (.Call (.Attribute o m apos) [] [] pos) (jO C m F a0 []):=zZp ho hc hm G (hr.mono hk) A.b hx ht
theorem scA{N P:List Str}{sc:Scope}(a:sc.kind=.function :=by rfl)(b:sc.isCoroutine=false:=by rfl)(g:sc.isGenerator=false:=by rfl)(nd:N.Nodup:=by decide +kernel)(pre:List.take P.length N=P:=by rfl)(par:∀x∈P,List.lookup x sc.names=some .local \/List.lookup x sc.names=some .cell :=by decide +kernel)(nf:∀y∈sc.names,y.2≠ .free :=by decide +kernel):FnScope N P sc:=⟨a,b,g,nd,pre,par,nf⟩
theorem sA{s:SE}{pos' :Pos}(hN:X.N.Nodup)(he:ED X c E e s)(hi:X.N[i]?=some x:=by rfl)(hx:Loc X.env.scope x:=by exact Or.inl rfl)(hs:swapsWith e (some (.Name x pos')) pos.line X.env=pure false:=by rfl)(hf:X.fn x=true\/X.env.scope.names.lookup x=some .local :=by first|exact .inl rfl|exact .inr rfl|assumption):
  SD X c E (.Assign [.Name x pos'] e pos) (sSet i s):=qK5 hN hi hx he hs hf
theorem vA{ss:List SV}(ha:OD X c E e o')(hr:VsD X c E es ss)(hs:aY (e::es) X.env=(false,eval e X.env)::aY es X.env:=by rfl):VsD X c E (e::es) (oV o' ::ss):=vV ha.val hr hs
theorem oA{os:List Oe}(ha:OD X c E e o')(hr:OsD X c E es os)(hs:aY (e::es) X.env=(false,eval e X.env)::aY es X.env:=by rfl):OsD X c E (e::es) (.v (oV o')::os):=vM (od_v ha.val) hr hs
end
section
variable{X:Cx}{c:Nat->aZ}{E:XK}{x:Str}{b:Expr}{ob:Oe}{k:Nat}{pos p2:Pos}
theorem nA(i:Nat)(hN:X.N[i]?=some x:=by rfl)(hv:Vis X.env.scope x:=by first|exact Or.inl rfl|exact Or.inr (Or.inl rfl)|exact Or.inr (Or.inr rfl))(hd:(x == ("__debug__":Str))=false:=by decide)(hc:(x == ("__classdict__":Str))=false:=by decide):OD X c E (.Name x pos) (oN i):=zWl (pv i hN hv hd hc)
theorem gA(hN:X.N.Nodup:=by exact of_decide_eq_true (by kernel_rfl))(hi:X.N[i]?=some x:=by rfl)(hx:Loc X.env.scope x:=by exact Or.inl rfl)(hf:X.fn x=true\/X.env.scope.names.lookup x=some .local :=by first|exact .inl rfl|exact .inr rfl|assumption):GD X c (.Name x pos) [i] (gN i):=zW3 hN hi hx hf
theorem xA(i:Nat)(hr:Room k X.A)(hb:OD X c E b ob)(hN:X.N[i]?=some x:=by rfl)(hv:Vis X.env.scope x:=by first|exact Or.inl rfl|exact Or.inr (Or.inl rfl)|exact Or.inr (Or.inr rfl))(hd:(x == ("__debug__":Str))=false:=by decide)(hc:(x == ("__classdict__":Str))=false:=by decide)(hs:qXm b:=by exact fun _ _=>rfl):OD X c E (.Subscript (.Name x pos) b p2) (oIx (oN i) ob):=o_ix hr (nA i hN hv hd hc) hb hs
end
theorem faM{K:aQ}{mg:Str->Option Value}{h:Heap}{x:Str}{st:Stmt}{ps:List Str}{f:aZ}{oc:Value}{od an:Option aZ}{osl:Array (Option Value)}{kV doc pm cdv ct:Value}(X:K.In h)(G:h.Ns cZ mg)(a:PySem.W.nsIn K cZ x=some (some (.ref f)))(l:K.lookup f=some ⟨oc,od,.func (bA x x (zS st) (zU st) (qK st) .none kV doc pm an cdv ct),osl⟩)(c:PySem.W.codeIn K cdv x=true)(k:cY K (.ref f)=true)(b:∀(kV doc pm:Value) (an:Option aZ) (cdv ct:Value) (us:List Value),us.length=ps.length->bindArgs (bA x x (zS st) (zU st) (qK st) .none kV doc pm an cdv ct) ⟨us,[]⟩=pure (ps.zip us):=by first|exact(fun _ _ _ _ _ _ us hl=>match us,hl with|[_],_=>rfl)|exact(fun _ _ _ _ _ _ us hl=>match us,hl with|[_,_],_=>rfl)|exact(fun _ _ _ _ _ _ us hl=>match us,hl with|[_,_,_],_=>rfl)|exact(fun _ _ _ _ _ _ us hl=>match us,hl with|[_,_,_,_],_=>rfl)):
  FnAt K mg x st ps f (bA x x (zS st) (zU st) (qK st) .none kV doc pm an cdv ct):=vXb X G a l c k b
end DX
namespace L2
open PySem PySem.Spec PyProof.Rows
variable{prog:aT}{w:bY}{A:bR}{E Q:Value->aJ->Prop}{t':Bool}{elts:List Expr}{kk:Nat}{pos:Pos}
noncomputable def SqB:Bool->aQ->Hp->aZ->List V->Prop
 |true,K,H,a,xs=>SqT K H a xs
 |false,K,H,a,xs=>SqL K H a xs
noncomputable def IsB:Bool->Heap->aZ->Array Value->Prop
 |true,h,a,xs=>h.IsTuple a xs
 |false,h,a,xs=>h.IsList a xs
noncomputable def ItB:Bool->Heap->aZ->aZ->Nat->Prop
 |true,h,i,l,k=>h.IsTupleIter i l k
 |false,h,i,l,k=>h.IsListIter i l k
noncomputable def itO:Bool->aZ->Obj
 |true,l=> {cls:=.type "tuple_iterator",data:=.fields #[.ref l,.int 0 0]}
 |false,l=> {cls:=.type "list_iterator",data:=.fields #[.ref l,.int 0 0]}
section
variable{t t' :Bool}{h g:Heap}{a b i l m:aZ}{k:Nat}{xs ys:Array Value}
theorem vWb(t:Bool)(hil:l≠i)(xs:Array Value):Feed i l (fun k h=>ItB t h i l k/\IsB t h l xs) (fun k=>xs[k]?):=by
 cases t
 ·exact vYw hil xs
 ·exact vJx hil xs
theorem IsB.lt(p:IsB t h a xs):a<h.objs.size:=by
 cases t <;> (obtain⟨_,e,_⟩:=p;exact aE e)
theorem IsB.push{o:Obj}(p:IsB t h a xs):IsB t (h.push o) a xs:=by
 cases t
 ·exact Heap.IsList.push p _
 ·exact Heap.IsTuple.push p _
theorem ItB.new(e:h.get? i=some (itO t l)):ItB t h i l 0:=by
 cases t <;> exact⟨_,e,rfl,rfl⟩
theorem ItB.obj(p:ItB t h i l k):∃o,h.get? i=some o/\∀v,o.data≠ .cell v:=by
 cases t <;> (obtain⟨o,e,_,d⟩:=p;exact⟨o,e,fun v z=>by rw[d]at z;cases z⟩)
theorem ItB.to(p:ItB t h i l k)(q:∀o,h.get? i=some o->g.get? i=some o):ItB t g i l k:=by
 cases t <;> (obtain⟨o,e,d⟩:=p;exact⟨o,q o e,d⟩)
theorem vZd:(itO t l).isFreed =false:=by cases t <;> rfl
theorem zXy{s:aJ}(p:IsB t s.heap l xs)(hQ:Q (.ref s.heap.objs.size) {s with heap:=s.heap.push (itO t l)}):aI (model prog w) A (pyIter (.ref l)) Q E s:=by
 cases t
 ·exact wpAny_pyIter_list p hQ
 ·exact wpAny_pyIter_tuple p hQ
noncomputable abbrev bB(t t' :Bool)(h:Heap)(l m:aZ):Heap:=(h.push (itO t l)).push (itO t' m)
noncomputable abbrev bC(t t' :Bool)(h:Heap)(l m:aZ):Heap:=(bB t t' h l m).push {cls:=.type "tuple",data:=.seq #[.ref h.objs.size,.ref (h.push (itO t l)).objs.size]}
noncomputable abbrev bD(t t' :Bool)(h:Heap)(l m:aZ):Heap:=(bC t t' h l m).push {cls:=.type "tuple",data:=.seq #[.none,.none]}
noncomputable abbrev bE(t t' :Bool)(h:Heap)(l m:aZ):Heap:=(bD t t' h l m).push {cls:=.type "zip",data:=.fields #[.none,.bool false,.bool false,.ref (bB t t' h l m).objs.size,.ref (bC t t' h l m).objs.size]}
theorem zKm(t t' :Bool)(l m:aZ)(xs ys:Array Value):
  Meets (Builtin.«zip.__new__» ⟨[.type "zip",.ref l,.ref m],[]⟩) (fun _ R s=>IsB t s.heap l xs/\IsB t' s.heap m ys/\R (.ok (.ret (.ref (bD t t' s.heap l m).objs.size))) {s with heap:=bE t t' s.heap l m}):=
 .of_wp fun prog w A R s h=>by
  obtain⟨hp,g,d,tk,os⟩:=s;obtain⟨t1,t2,h⟩:=h;have hsub:=sub_zip;have T1:IsB t (Shared.heap ⟨hp,g,d,tk,os⟩) l xs:=t1;have T2:IsB t' (Shared.heap ⟨hp.push (itO t l),g,d,tk,os⟩) m ys:=IsB.push t2;wp_walk using zXy T1,zXy T2;exact⟨_,rfl,h⟩
theorem jV2{s:aJ}(t1:IsB t s.heap l xs)(t2:IsB t' s.heap m ys)(h:∀g,IsZip g (s.heap.objs.size+4) (s.heap.objs.size+2) (s.heap.objs.size+3) .none ->IsPair g (s.heap.objs.size+2) (.ref s.heap.objs.size) (.ref (s.heap.objs.size+1))->
   IsPair g (s.heap.objs.size+3) .none .none ->ItB t g s.heap.objs.size l 0->ItB t' g (s.heap.objs.size+1) m 0->(∀c o,s.heap.get? c=some o->g.get? c=some o)->Q (.ref (s.heap.objs.size+4)) {s with heap:=g}):
  aI (model prog w) A (call (.type "zip") [.ref l,.ref m]) Q E s:=by
 refine callType_new PySem.F.called_zip (by decide) (PySem.F.typeCall_zip_2 _ _) (PySem.F.newCall_zip_2 _ _) (fun obj=>PySem.F.args_object_init_3 obj _ _) PySem.F.entry_zip_new (zKm t t' l m xs ys) ⟨t1,t2,?_⟩;have n1:(s.heap.push (itO t l)).objs.size=s.heap.objs.size+1:=bU ..;have n2:(bB t t' s.heap l m).objs.size=s.heap.objs.size+2:=by rw[bU,n1]
 have n3:(bC t t' s.heap l m).objs.size=s.heap.objs.size+3:=by rw[bU,n2]
 have n4:(bD t t' s.heap l m).objs.size=s.heap.objs.size+4:=by rw[bU,n3]
 have up:∀{h:Heap} {o u:Obj} {c:aZ},h.get? c=some u->(h.push o).get? c=some u:=aX _;have w5:(bE t t' s.heap l m).get? (bD t t' s.heap l m).objs.size=some _:=aC _ rfl;have w4:(bE t t' s.heap l m).get? (bC t t' s.heap l m).objs.size=some _:=up (aC _ rfl);have w3:(bE t t' s.heap l m).get? (bB t t' s.heap l m).objs.size=some _:=up (up (aC _ rfl));have w2:(bE t t' s.heap l m).get? (s.heap.push (itO t l)).objs.size=some _:=up (up (up (aC _ vZd)));have w1:(bE t t' s.heap l m).get? s.heap.objs.size=some _:=up (up (up (up (aC _ vZd))));show _/\_;rw[n2,n3,n4]at w5;rw[n1,n2]at w3;rw[n3]at w4;rw[n1]at w2;rw[n4];exact⟨⟨_,w5,rfl⟩,h _ w5 w3 w4 (.new w1) (.new w2) fun c o q=>up (up (up (up (up q))))⟩
end
section
variable{X:Cx}{pins:List (aZ×Obj)}{σ:St}{H:Hp}{s:aJ}{t:Bool}{a:aZ}{xs ys:List V}
theorem Inv.sqB(I:Inv X pins σ H s)(h:SqB t X.K H a xs):∃its:List Value,Vals xs its/\IsB t s.heap a its.toArray:=by
 cases t
 ·obtain⟨its,r,p,_⟩:=I.list h;exact⟨its,r,p.isList⟩
 ·obtain⟨its,r,p,_⟩:=I.tuple h;exact⟨its,r,p⟩
theorem Inv.sqB_inj(I:Inv X pins σ H s)(h:SqB t X.K H a xs)(h' :SqB t X.K H a ys):xs=ys:=by
 cases t
 ·exact I.list_inj h h'
 ·exact I.tuple_inj h h'
end
noncomputable def ItzB(t t' :Bool)(K:aQ)(a b:aZ):It:=
 ⟨fun i H=>∃xs ys x y,SqB t K H a xs/\SqB t' K H b ys/\xs[i]?=some x/\ys[i]?=some y,
  fun i H v H' =>∃p,v=.ref p/\H p=none/\∀xs ys x y,SqB t K H a xs->SqB t' K H b ys->xs[i]?=some x->ys[i]?=some y->H' =upd H p (.tup [x,y]),
  fun i H=>∃xs ys,SqB t K H a xs/\SqB t' K H b ys/\(xs.length<=i\/ys.length<=i)⟩
noncomputable def StB(t t' :Bool)(a b z TI TO i1 i2:aZ)(i:Nat)(h:Heap):Prop:=IsZip h z TI TO .none /\IsPair h TI (.ref i1) (.ref i2)/\(∃x y,IsPair h TO x y)/\ItB t h i1 a i/\ItB t' h i2 b i
theorem StB.obj{t:Bool}{a b z TI TO i1 i2 c:aZ}{i:Nat}{h:Heap}(st:StB t t' a b z TI TO i1 i2 i h)(hc:c∈ [z,TI,TO,i1,i2]):∃o,h.get? c=some o/\∀v,o.data≠ .cell v:=by
 obtain⟨hz,hTI,⟨x,y,hTO⟩,h1,h2⟩:=st;have hc' :c=z\/c=TI\/c=TO\/c=i1\/c=i2:=by simpa using hc
 rcases hc' with rfl|rfl|rfl|rfl|rfl
 ·exact⟨_,hz,fun v q=>by cases q⟩
 ·exact⟨_,hTI,fun v q=>by cases q⟩
 ·exact⟨_,hTO,fun v q=>by cases q⟩
 ·exact h1.obj
 ·exact h2.obj
theorem jQm{P:aT}{K:aQ}{t:Bool}(a b z TI TO i1 i2:aZ)(D:ZipApart z TI TO i1 i2 a b):
  Turn P w K (.Tuple elts kk pos) (ItzB t t' K a b) [z,TI,TO,i1,i2] z (StB t t' a b z TI TO i1 i2) where
 mem:=by simp
 obj:=fun i h st c hc=>st.obj hc
 keep:=fun i h h' st k=>by
  obtain⟨hz,hTI,⟨x,y,hTO⟩,h1,h2⟩:=st;exact⟨k z (by simp) _ hz,k TI (by simp) _ hTI,⟨x,y,k TO (by simp) _ hTO⟩,h1.to fun o e=>k i1 (by simp) o e,h2.to fun o e=>k i2 (by simp) o e⟩
 item:=by
  intro X hP hw hK hc i pins s σ H E I hf st hg;subst hP hw hK;obtain⟨xs,ys,x,y,hq1,hq2,hx,hy⟩:=hg;obtain⟨its,rv,p1⟩:=I.sqB hq1;obtain⟨its2,rv2,p2⟩:=I.sqB hq2;obtain⟨u,hu,ru⟩:=rv.get hx;obtain⟨v,hv,rvv⟩:=rv2.get hy;have st' :=st;obtain⟨hz,hTI,⟨ta,tb,hTO⟩,h1,h2⟩:=st;refine vXu (vWb t D.l1i1 its.toArray) (vWb t' D.l2i2 its2.toArray) D hz hTI hTO ⟨h1,p1⟩ ⟨h2,p2⟩ (x:=u) (y:=v) (by simpa using hu) (by simpa using hv) fun h' a1 a2 a3 a4 a5 hk=>?_
  refine⟨_,rfl,wpAny_letOwnedTupleGo_zip a1 fun h'' hz'' sb=>?_⟩;have nz:s.heap.objs.size≠z:=dU (aE hz);have hk2:∀c o,c∉ [z,TI,TO,i1,i2]->s.heap.get? c=some o->h''.get? c=some o:=fun c o hc e=>by
   simp only[aG,List.not_mem_nil,or_false,not_or]at hc;exact sb.extBut c o hc.1 (hk c o hc.1 hc.2.2.1 hc.2.2.2.1 hc.2.2.2.2 e)
  refine⟨.ref s.heap.objs.size,upd H s.heap.objs.size (.tup [x,y]),I.turnedLaid (t' :=s.toks) hk2 hf (aB _) ⟨vK1,[u,v],.cons ru (.cons rvv .nil),⟨_,sb.extBut _ _ nz a5,rfl,_,rfl⟩⟩,rfl,
   ⟨_,rfl,I.hok.fresh (aB _),fun xs' ys' x' y' e1 e2 e3 e4=>?_⟩,⟨hz'',sb.extBut _ _ D.TIz (hk _ _ D.TIz D.TITO D.TIi1 D.TIi2 hTI),⟨_,_,sb.extBut _ _ D.TOz a2⟩,a3.1.to fun o e=>sb.extBut _ _ D.i1z e,a4.1.to fun o e=>sb.extBut _ _ D.i2z e⟩,fun c hc=>?_⟩
  ·rw [I.sqB_inj e1 hq1,hx] at e3;rw[I.sqB_inj e2 hq2,hy]at e4;cases e3;cases e4;rfl
  ·obtain⟨o,e,_⟩:=st'.obj hc;rw[vQ (bV (aE e))];exact(hf c hc).1
 done:=by
  intro X hP hw hK hc i pins s σ H E I hf st hg;subst hP hw hK;obtain⟨xs,ys,hq1,hq2,hend⟩:=hg;obtain⟨its,rv,p1⟩:=I.sqB hq1;obtain⟨its2,rv2,p2⟩:=I.sqB hq2;obtain⟨hz,hTI,⟨ta,tb,hTO⟩,h1,h2⟩:=st;have l1:=rv.length;have l2:=rv2.length;refine zQz (I.ok.hd hc) (vWb t D.l1i1 its.toArray) (vWb t' D.l2i2 its2.toArray) D hz hTI hTO ⟨h1,p1⟩ ⟨h2,p2⟩ ?_ fun h' hk=>⟨rfl,I.turnedAll (t' :=s.toks) (ch:=[z,TI,TO,i1,i2]) (fun c o hc e=>?_) hf⟩
  ·rcases hend with q | q
   ·exact .inl (by simp;omega)
   ·exact .inr (by simp;omega)
  ·simp only [aG,List.not_mem_nil,or_false,not_or] at hc;exact hk c o hc.1 hc.2.2.1 hc.2.2.2.1 hc.2.2.2.2 e
 self:=fun _ _ _ _ _ st h=>wpAny_pyIter_zip st.1 h
noncomputable def jVk(K:aQ)(ta:TA):TI:=fun σ H R=>ta σ H fun vs H1=>∃a b t t' xs ys,vs=[.ref a,.ref b]/\SqB t K H1 a xs/\SqB t' K H1 b ys/\R (ItzB t t' K a b) H1
theorem zJ1{X:Cx}{tpos:Pos}{e1 e2:Expr}{ta:TA}{p:Pos}(hg:Gl X "zip")(hm:X.mg "zip"=none)(ha:PA X [e1,e2] ta)(hs:aY [e1,e2] X.env=[(false,eval e1 X.env),(false,eval e2 X.env)])(hs2:aY [e2] X.env=[(false,eval e2 X.env)]):PI X (.Tuple elts kk tpos) (.Call (.Name "zip" p) [e1,e2] [] pos) (jVk X.K ta):=by
 intro pins s σ H R I h;refine Call_ (qZ8 I hg hm Boot.«zip» (cH (thn (ha pos pins s σ H _ I h) fun us s1 ⟨vs,H1,I1,r1,q1⟩=>?_) (by rw[hs,hs2]) (by rw[hs2];rfl)));obtain⟨a,b,t,t',xs,ys,rfl,hx,hy,q⟩:=q1;cases r1 with
 | cons r rr=>
   cases rr with
   | cons r' rr=>
     cases rr;cases r;cases r';obtain⟨its,rv,p1⟩:=I1.sqB hx;obtain⟨its2,rv2,p2⟩:=I1.sqB hy;refine jV2 p1 p2 fun h' hz hTI hTO hi1 hi2 hk=>?_
     refine wpAny_pyIter_zip hz ?_
     refine⟨s1.heap.objs.size+4,[s1.heap.objs.size+4,s1.heap.objs.size+2,s1.heap.objs.size+3,s1.heap.objs.size,s1.heap.objs.size+1],_,_,H1,rfl,I1.kept (t' :=s1.toks) hk,jQm a b _ _ _ _ _ (zipApart_new p1.lt p2.lt),⟨hz,hTI,⟨_,_,hTO⟩,hi1,hi2⟩,fun c hc=>?_,q⟩;have hc' :s1.heap.objs.size<=c:=by
      grind
     exact I1.fpOk hc' (I1.hok.fresh hc')
end L2
namespace DX
open PySem L2 PyProof.Rows
section
variable{K:aQ}{c:Nat->aZ}{F G:Hp}{a b:aZ}{t t' :Bool}{xs ys:List V}{ds es:List D}
theorem qQl(e:Same F G)(h:SqB t K F a xs):SqB t K G a xs:=by
 cases t
 ·exact jJ e h
 ·exact e.tup h
theorem zZc(h1:SqB t K F a xs)(h2:SqB t' K F b ys)(k1:DsAt K c F xs ds)(k2:DsAt K c F ys es):ItD K c F (ItzB t t' K a b) (zipD ds es):=by
 intro i H T sm hb;have g1:=qQl qT (qQl sm h1);have g2:=qQl qT (qQl sm h2);refine⟨fun z hz=>?_,fun hi=>⟨xs,ys,g1,g2,by rw[wW,←k1.len,←k2.len]at hi;omega⟩⟩;obtain⟨d,e,e1,e2,rfl⟩:=zipD_get hz;obtain⟨v,v1,v2⟩:=k1.get e1;obtain⟨u,u1,u2⟩:=k2.get e2;refine⟨⟨xs,ys,v,u,g1,g2,v1,u1⟩,fun x H' y=>?_⟩;obtain⟨p,rfl,hn,y2⟩:=y;rw[y2 xs ys v u g1 g2 v1 u1];exact vV4 hn hb (v2.same sm) (u2.same sm)
noncomputable def sqOf:Bool->D->Option (List D)
 |true=>qKd
 |false=>qQi
theorem vWk{u:V}{d:D}(h:DAt K c F u d)(e:sqOf t d=some ds):∃p vs,u=.ref p/\SqB t K F p vs/\DsAt K c F vs ds:=by
 cases t
 ·exact qYc h e
 ·exact zQ4 h e
theorem zX9{zs:List D}{r:List D}(e:zpA zs=some r):∃x y t t' ds es,zs=[x,y]/\sqOf t x=some ds/\sqOf t' y=some es/\r=zipD ds es:=by
 have k:∀{t t'} {x y:D},((sqOf t x).bind fun ds=>(sqOf t' y).bind fun es=>some (zipD ds es))=some r->∃x' y' t t' ds es,[x,y]=[x',y']/\sqOf t x' =some ds/\sqOf t' y' =some es/\r=zipD ds es:=fun {t t' x y} h=>by
  obtain⟨ds,h1,h⟩:=bnd h;obtain⟨es,h2,h⟩:=bnd h;cases h;exact⟨x,y,t,t',ds,es,rfl,h1,h2,rfl⟩
 match zs,e with
 | [x,y],e=>
   unfold zpA at e;split at e
   ·rename_i h;cases e;exact k (t:=false) (t' :=false) h
   ·split at e
    ·rename_i h;cases e;exact k (t:=true) (t' :=true) h
    ·exact k (t:=true) (t' :=false) e
 |[],e=>cases e
 |[_],e=>cases e
 |_::_::_::_,e=>cases e
end
theorem vQs{X:Cx}{c:Nat->aZ}{E:XK}{e1 e2:Expr}{ss:List SV}{p pos tpos:Pos}{elts:List Expr}{kk:Nat}(hg:Gl X "zip")(hm:X.mg "zip"=none)(ha:VsD X c E [e1,e2] ss)(hs:aY [e1,e2] X.env=[(false,eval e1 X.env),(false,eval e2 X.env)]:=by rfl)(hs2:aY [e2] X.env=[(false,eval e2 X.env)]:=by rfl):
  ID' X c E (.Tuple elts kk tpos) (.Call (.Name "zip" p) [e1,e2] [] pos) (iL zpA ss):=by
 refine⟨PI.imp (zJ1 hg hm ha.h hs hs2) fun σ H R=>?_⟩;rintro⟨env,B,W,cf,w⟩;refine qZ3 cf (qY.mp w) fun r w1 us H1 W1 g=>?_
 obtain⟨ds,e1,w2⟩:=qU w1;have ga:=g.at_;obtain⟨x,y,t,t',ds,es,e2,q1,q2,rfl⟩:=zX9 e1;rw[e2]at ga;obtain⟨u,v,rfl,a,b⟩:=ds2 ga;obtain⟨q,vs,rfl,c1,c2⟩:=vWk a q1;obtain⟨q',vs',rfl,c3,c4⟩:=vWk b q2;exact⟨q,q',t,t',_,_,rfl,qQl qT c1,qQl qT c3,w2 _ H1 W1 g.st g.cf (zZc c1 c3 c2 c4)⟩
end DX
namespace X50
open PySem L2 DX FP LWF PyProof.Rows
theorem qXa:FnScope ["self","steps","draws","slots"] ["self","steps","draws","slots"] (qK yP):=scA
theorem qW0:FnScope ["term","kind"] ["term"] (qK qJa):=scA
theorem qZx:FnScope ["row","term","names","helpers","kind","part"] ["row","term","names","helpers"] (qK qQ8):=scA
theorem wH:FnScope ["program","names","helpers","number","row","kind"] ["program"] (qK qQd):=scA
theorem qY1:FnScope ["program"] ["program"] (qK qQ9):=scA
theorem vJg:FnScope ["term"] ["term"] (qK qWh):=scA
theorem qZw:FnScope ["term","parts","kind"] ["term","parts"] (qK qQ6):=scA
theorem qW9:FnScope ["self"] ["self"] (qK yK):=scA
theorem qZd:FnScope ["self"] ["self"] (qK jN):=scA
theorem qJg:FnScope ["self"] ["self"] (qK wN):=scA
theorem qJh:FnScope ["self","draw"] ["self","draw"] (qK wO):=scA
theorem vP:FnScope ["self","term","names","helper","own_names","binds","name","part","inner","whole","slot"] ["self","term","names"] (qK j9):=scA
theorem jM:FnScope ["self","term","names","kind","parts","part"] ["self","term","names"] (qK j8):=scA
theorem yC:FnScope ["self","name","term","inner"] ["self","name","term"] (qK wM):=scA
theorem j7:FnScope ["self","row","kind","turn","inner"] ["self","row"] (qK wL):=scA
theorem qKp:FnScope ["program","opener","row"] ["program"] (qK qX6):=scA
theorem qQa:FnScope ["term","kind","found","part"] ["term"] (qK qQ7):=scA
theorem qX5:FnScope ["one","places","found","place","step"] ["one"] (qK vQn):=scA
theorem vQ6:FnScope ["_law_term_here"] ["_law_term_here"] (qK qV3):=scA
theorem vQ7:FnScope ["_law_term_here"] ["_law_term_here"] (qK qV7):=scA
theorem qQ5:FnScope ["_law_more","_law_coin","_law_pairs","_law_low"] ["_law_more","_law_coin"] (qK qV6):=scA
theorem wX:FnScope ["_law_number","_law_known","_law_coin","_law_deep","_law_kind","_law_more","_law_draw","_law_one","_law_other"] ["_law_number","_law_known","_law_coin","_law_deep"] (qK qJb):=scA
theorem v6:FnScope ["_law_cells","_law_room","_law_tail","_law_rows_here","_law_known","_law_k","_law_cell","_law_number","_law_word","_law_rounds","_law_term_here"] ["_law_cells","_law_room","_law_tail"] (qK qJc):=scA
theorem yY:FnScope ["_law_twice","_law_once"] [] (qK qQc):=scA
theorem qYw:FnScope ["_law_cells","_law_room"] ["_law_cells","_law_room"] (qK qQb):=scA
theorem qQ4:FnScope ["_law_term_here","_law_found","_law_part"] ["_law_term_here"] (qK qV4):=scA
theorem wF:FnScope ["_law_program_here","_law_latest","_law_found","_law_row","_law_rounds","_law_turn"] ["_law_program_here"] (qK qV5):=scA
theorem vQ4:FnScope ["_law_found"] ["_law_found"] (qK qV1):=scA
theorem vQ5:FnScope ["_law_found","_law_due","_law_one","_law_other","_law_number"] ["_law_found","_law_due"] (qK qV2):=scA
theorem qZ4:FnScope ["_law_script","_law_program_here","_law_one","_law_kept","_law_due","_law_found","_law_numbers"] ["_law_script"] (qK vKp):=scA
set_option genInjectivity false
set_option genSizeOf false
structure Fs(K:aQ)(mg:Str->Option Value)(c:Nat->aZ) where
 b0:aZ
 c0:bZ
 d0:MethAt K "__init__" "NoName.__init__" qZc ["self","row"] b0 c0
 e0:aZ
 f0:bZ
 g0:MethAt K "__init__" "Opened.__init__" yP ["self","steps","draws","slots"] e0 f0
 h0:aZ
 i0:bZ
 j0:FnAt K mg "parts_of" qJa ["term"] h0 i0
 k0:aZ
 l0:bZ
 m0:FnAt K mg "check_term" qQ8 ["row","term","names","helpers"] k0 l0
 n0:aZ
 o0:bZ
 p0:FnAt K mg "check_names" qQd ["program"] n0 o0
 q0:aZ
 r0:bZ
 s0:FnAt K mg "check_defs" qQ9 ["program"] q0 r0
 t0:aZ
 u0:bZ
 v0:FnAt K mg "draw_of" qWh ["term"] t0 u0
 w0:aZ
 x0:bZ
 y0:FnAt K mg "with_parts" qQ6 ["term","parts"] w0 x0
 z0:aZ
 A0:bZ
 B0:MethAt K "__init__" "Opener.__init__" yK ["self"] z0 A0
 C0:aZ
 D0:bZ
 E0:MethAt K "count_term" "Opener.count_term" jN ["self"] C0 D0
 F0:aZ
 G0:bZ
 H0:MethAt K "new_slot" "Opener.new_slot" wN ["self"] F0 G0
 I0:aZ
 J0:bZ
 K0:MethAt K "new_draw" "Opener.new_draw" wO ["self","draw"] I0 J0
 L0:aZ
 M0:bZ
 N0:MethAt K "open_call" "Opener.open_call" j9 ["self","term","names"] L0 M0
 O0:aZ
 P0:bZ
 Q0:MethAt K "open_term" "Opener.open_term" j8 ["self","term","names"] O0 P0
 R0:aZ
 S0:bZ
 T0:MethAt K "open_let" "Opener.open_let" wM ["self","name","term"] R0 S0
 U0:aZ
 V0:bZ
 W0:MethAt K "open_row" "Opener.open_row" wL ["self","row"] U0 V0
 X0:aZ
 Y0:bZ
 Z0:FnAt K mg "opened" qX6 ["program"] X0 Y0
 a1:aZ
 b1:bZ
 c1:FnAt K mg "slots_read" qQ7 ["term"] a1 b1
 d1:aZ
 e1:bZ
 f1:FnAt K mg "leans" vQn ["one"] d1 e1
 g1:aZ
 h1:bZ
 i1:FnAt K mg "_law_parts" qV3 ["_law_term_here"] g1 h1
 j1:aZ
 k1:bZ
 l1:FnAt K mg "_law_count" qV7 ["_law_term_here"] j1 k1
 m1:aZ
 n1:bZ
 p1:FnAt K mg "_law_drawn" qV6 ["_law_more","_law_coin"] m1 n1
 q1:aZ
 r1:bZ
 s1:FnAt K mg "_law_term" qJb ["_law_number","_law_known","_law_coin","_law_deep"] q1 r1
 t1:aZ
 u1:bZ
 v1:FnAt K mg "_law_rows" qJc ["_law_cells","_law_room","_law_tail"] t1 u1
 w1:aZ
 x1:bZ
 y1:FnAt K mg "_law_helpers" qQc [] w1 x1
 z1:aZ
 A1:bZ
 B1:FnAt K mg "_law_program" qQb ["_law_cells","_law_room"] z1 A1
 C1:aZ
 D1:bZ
 E1:FnAt K mg "_law_names" qV4 ["_law_term_here"] C1 D1
 F1:aZ
 G1:bZ
 H1:FnAt K mg "_law_leans" qV5 ["_law_program_here"] F1 G1
 I1:aZ
 J1:bZ
 K1:FnAt K mg "_law_whole" qV1 ["_law_found"] I1 J1
 L1:aZ
 M1:bZ
 N1:FnAt K mg "_law_right" qV2 ["_law_found","_law_due"] L1 M1
 O1:aZ
 P1:bZ
 Q1:FnAt K mg "law" vKp ["_law_script"] O1 P1
 R1:Cls K (c 1)
 S1:Cls K (c 2)
 T1:Mk K (c 1) e0
 U1:Mk K (c 2) z0
 V1:IniCls K (c 24) b0
 W1:cW K (.ref (c 24)) "row"=some none
 X1:mg "NoName"=some (.ref (c 24))
 Y1:mg "Opened"=some (.ref (c 1))
 Z1:mg "Opener"=some (.ref (c 2))
 a2:Meth K (c 2) "count_term" C0
 b2:Meth K (c 2) "new_draw" I0
 c2:Meth K (c 2) "new_slot" F0
 d2:Meth K (c 2) "open_call" L0
 e2:Meth K (c 2) "open_let" R0
 f2:Meth K (c 2) "open_row" U0
 g2:Meth K (c 2) "open_term" O0
 h2:xQ K c [1] "draws"
 i2:xQ K c [1] "slots"
 j2:xQ K c [1] "steps"
 k2:xQ K c [2] "draws"
 l2:xQ K c [2] "helpers"
 m2:xQ K c [2] "names"
 n2:xQ K c [2] "slots"
 p2:xQ K c [2] "steps"
 q2:xQ K c [2] "terms"
 r2:mg "bool"=none
 s2:mg "enumerate"=none
 t2:mg "int"=none
 u2:mg "isinstance"=none
 v2:mg "len"=none
 w2:mg "list"=none
 x2:mg "range"=none
 y2:mg "reversed"=none
 z2:mg "set"=none
 A2:mg "sorted"=none
 B2:mg "sum"=none
 C2:mg "tuple"=none
 D2:mg "zip"=none
 E2:Tok
 F2:mg "MOST_DEFS"=some (.int 3 E2)
 G2:Tok
 H2:mg "MOST_DRAWS"=some (.int 60 G2)
 I2:Tok
 J2:mg "MOST_SIZE"=some (.int 600 I2)
section
variable{P:aT}{w:bY}{K:aQ}{c:Nat->aZ}{mg:Str->Option Value}{base:Heap}(S:Fs K mg c)
set_option maxHeartbeats 4000000
theorem qYz:FnOk P w K mg base (CXd P w) 1 S.e0 S.f0 ["self","steps","draws","slots"] (spD K c 4 yB):=fnD S.g0.F qXa fun _ _ _ _ _ _ hr=>(qQ (qQs S.j2 (nA 0) (qWb rfl S.w2 (nA 1)))
   (qQ (qQs S.h2 (nA 0) (xY rfl (Nc:=["draw"]) (cs:=[]) (qWc rfl (by decide +kernel) (by decide +kernel) (by decide +kernel)) (jI (OD.val (nA 2))) (fun _ _ _ _=>gA) (fun _ _ _ _=>yG) (fun _ _ _ _=>(ev_e (qWb rfl S.w2 (nA 0))))))
   (qZ (qQs S.i2 (nA 0) (OD.ow (nA 3))))))
theorem qJf:FnOk P w K mg base (CXd P w) 1 S.h0 S.i0 ["term"] (spD K c 1 qI):=fnD S.j0.F qW0 fun _ _ _ _ _ _ hr=>(qQ (sA qW0.nd (OD.ow (xA 0 hr qV)))
   (qQ (qS (t_eq hr (nA 1) qW) (qZ (qE (vN (vA (xA 0 hr qV) (vA (xA 0 hr qV) (vA (xA 0 hr qV) qX)))))) qC)
   (qQ (qS (t_in hr (nA 1) (od_v (qG (vA qW (vA qW qX))))) (qZ (qE (vN (vA (xA 0 hr qV) (vA (xA 0 hr qV) qX))))) qC)
   (qQ (qS (t_in hr (nA 1) (od_v (qG (vA qW (vA qW qX))))) (qZ (qE (vN (vA (xA 0 hr qV) qX)))) qC)
   (qQ (qS (t_eq hr (nA 1) qW) (qZ (qE (xY rfl (Nc:=["name","part"]) (cs:=[]) (qWc rfl (by decide +kernel) (by decide +kernel) (by decide +kernel)) (jI (OD.val (xA 0 hr qV))) (fun _ _ _ _=>(qVp rfl (v5 gA (v5 gA yI)))) (fun _ _ _ _=>yG) (fun _ _ _ _=>(OD.val (nA 1)))))) qC)
   (qQ (qS (t_eq hr (nA 1) qW) (qZ (qE (qWb rfl S.w2 (xA 0 hr qV)))) qC)
   (qZ (qE (vN qX)))))))))
theorem qVa:∀h:Nat,FnOk P w K mg base (CXd P w) (1 * h+3) S.k0 S.l0 ["row","term","names","helpers"] (spD K c 4 (vE h))
 | 0=>fnNo
 | h + 1=>by
   have ih:=qVa h
   exact FnOk.lv (by omega) (fnD (k:=1 * h+3) S.m0.F qZx fun _ _ _ _ _ _ hr=>(qQ (sA qZx.nd (OD.ow (xA 1 hr qV)))
    (qQ (qS (td_w (qVn (t_eq hr (nA 4) qW) (qZe (vWg hr (xA 1 hr qV) (nA 2))))) (qZ qXn) qC)
    (qQ (qS (td_w (qVn (t_eq hr (nA 4) qW) (qZe (vVl (od_v (zW5 (qVm hr) (nA 3) (xA 1 hr qV) ⟨rfl,rfl,rfl,rfl⟩)) (qVj rfl S.v2 (xA 1 hr qV)))))) (qZ qXn) qC)
    (qZ (j5 bP rfl (jI (ev_e (cA S.j0 (qJf S) hr (oA (nA 1) qL)))) gA (qZ (vC (qQx ih (hr.mono (by omega)) rfl S.m0.m S.m0.F.kp S.m0.b v8 (oA (nA 0) (oA (nA 5) (oA (nA 2) (oA (nA 3) qL)))))))))))))
theorem qY8:FnOk P w K mg base (CXd P w) 35 S.n0 S.o0 ["program"] (spD K c 1 xP):=fnD S.p0.F wH fun _ _ _ _ _ _ hr=>(qQ (sA wH.nd qQw)
   (qQ (sA wH.nd qQw)
   (qZ (j5 bP rfl (vQt rfl S.s2 (vA (nA 0) qX)) (qVp rfl (v5 gA (v5 gA yI))) (qQ (sA wH.nd (OD.ow (xA 4 hr qV)))
   (qZ (qS (t_eq hr (nA 5) qW) (qQ (qS (t_in hr (xA 4 hr qV) (nA 2)) (qZ qXn) qC)
   (qQ (vC (cA S.m0 (qVa S 30) hr (oA (nA 3) (oA (xA 4 hr qV) (oA (xA 4 hr qV) (vM (qZr (nA 2)) qL))))))
   (qZ (qZ5 (qVm hr) (nA 2) (xA 4 hr qV) (OD.ow (qVj rfl S.v2 (xA 4 hr qV))))))) (qQ (qS (td_w (qVn (t_eq hr (nA 5) qW) (qZe (vWg hr (xA 4 hr qV) (nA 1))))) (qZ qXn) qC)
   (qQ (vC (cA S.m0 (qVa S 30) hr (oA (nA 3) (oA (xA 4 hr (vVp qV)) (vM (qZr (nA 1)) (vM (qZr (nA 2)) qL))))))
   (qZ (qS (t_eq hr (nA 5) qW) (qZ (qZ5 (qVm hr) (nA 1) (xA 4 hr qV) (OD.ow qXp))) qC)))))))))))
theorem vVe:FnOk P w K mg base (CXd P w) 1 S.q0 S.r0 ["program"] (spD K c 1 xR):=fnD S.s0.F qY1 fun _ _ _ _ _ _ hr=>(qZ (qS (t_gt (qVj rfl S.v2 (od_e (xY rfl (Nc:=["row"]) (cs:=[]) (qWc rfl (by decide +kernel) (by decide +kernel) (by decide +kernel)) (jI (OD.val (nA 0))) (fun _ _ _ _=>gA) (fun _ _ _ _=>(vQf (t_eq hr (xA 0 hr qV) qW))) (fun _ _ _ _=>(OD.val (nA 0)))))) (od_c (vQp (v:=.int 3) rfl S.F2 ⟨_,rfl⟩) (fun _=>.int _))) (qZ qXn) qC))
theorem vY4:FnOk P w K mg base (CXd P w) 1 S.t0 S.u0 ["term"] (spD K c 1 qZp):=fnD S.v0.F vJg fun _ _ _ _ _ _ hr=>(qQ (qS (t_eq hr (xA 0 hr qV) qW) (qZ (qE (vN (vV (qG (vA qV (vA (vVo (xA 0 hr qV) (xA 0 hr qV)) qX))) (vV (qG (vA qV (vA (xA 0 hr qV) qX))) qX))))) qC)
   (qZ (qE (qWb rfl S.w2 (xA 0 hr qV)))))
theorem vVd:FnOk P w K mg base (CXd P w) 1 S.w0 S.x0 ["term","parts"] (spD K c 2 vI):=fnD S.y0.F qZw fun _ _ _ _ _ _ hr=>(qQ (sA qZw.nd (OD.ow (xA 0 hr qV)))
   (qQ (qS (t_eq hr (nA 2) qW) (qZ (qE (ed_v (qG (vA qW (vA (xA 1 hr qV) (vA (xA 1 hr qV) (vA (xA 1 hr qV) qX)))))))) qC)
   (qQ (qS (t_eq hr (nA 2) qW) (qZ (qE (ed_v (qG (vA qW (vA (xA 0 hr qV) (vA (xA 1 hr qV) (vA (xA 1 hr qV) qX)))))))) qC)
   (qQ (qS (t_eq hr (nA 2) qW) (qZ (qE (ed_v (qG (vA qW (vV (vWe rfl S.C2 (od_e (xY rfl (Nc:=["field","part"]) (cs:=[]) (qWc rfl (by decide +kernel) (by decide +kernel) (by decide +kernel)) (vQs rfl S.D2 (vA (xA 0 hr qV) (vA (nA 1) qX))) (fun _ _ _ _=>(qVp rfl (v5 gA (v5 gA yI)))) (fun _ _ _ _=>yG) (fun _ _ _ _=>(qG (vA (xA 0 hr qV) (vA (nA 1) qX))))))) qX)))))) qC)
   (qZ (qE (ed_v (qG (vA (nA 2) (vA (xA 1 hr qV) (vA (xA 0 hr qV) qX)))))))))))
theorem qYy:FnOk P w K mg base (CXd P w) 1 S.z0 S.A0 ["self"] (spD K c 1 yU):=fnD S.B0.F qW9 fun _ _ _ _ _ _ hr=>(qQ (qQs S.l2 (nA 0) qQw)
   (qQ (qQs S.m2 (nA 0) qQw)
   (qQ (qQs S.p2 (nA 0) (vN qX))
   (qQ (qQs S.k2 (nA 0) (vN qX))
   (qQ (qQs S.n2 (nA 0) (OD.ow qV))
   (qZ (qQs S.q2 (nA 0) (OD.ow qV))))))))
theorem xL:FnOk P w K mg base (CXd P w) 1 S.C0 S.D0 ["self"] (spD K c 1 zB):=fnD S.E0.F qZd fun _ _ _ _ _ _ hr=>(qQ (zQa S.q2 (nA 0) (OD.val qV) zQo (zQf _))
   (qZ (qS (t_gt (zY S.q2 (nA 0)) (od_c (vQp (v:=.int 600) rfl S.J2 ⟨_,rfl⟩) (fun _=>.int _))) (qZ qXn) qC)))
theorem wR:FnOk P w K mg base (CXd P w) 1 S.F0 S.G0 ["self"] (spD K c 1 vF):=fnD S.H0.F qJg fun _ _ _ _ _ _ hr=>(qQ (zQa S.n2 (nA 0) (OD.val qV) zQo (zQf _))
   (qZ (qE (OD.ow (vVo (zY S.n2 (nA 0)) qV)))))
theorem qJ4:FnOk P w K mg base (CXd P w) 1 S.I0 S.J0 ["self","draw"] (spD K c 2 wS):=fnD S.K0.F qJh fun _ _ _ _ _ _ hr=>(qQ (vC (jY (zY S.k2 (nA 0)) (OD.ow (nA 1))))
   (qQ (qS (t_gt (qVj rfl S.v2 (zY S.k2 (nA 0))) (od_c (vQp (v:=.int 60) rfl S.H2 ⟨_,rfl⟩) (fun _=>.int _))) (qZ qXn) qC)
   (qZ (qE (OD.ow (vVo (qVj rfl S.v2 (zY S.k2 (nA 0))) qV))))))
theorem qJi{R:Fn}{k:Nat}(G:FnOk P w K mg base (CXd P w) k S.O0 S.P0 ["self","term","names"] (spD K c 3 R)):FnOk P w K mg base (CXd P w) (k+2) S.L0 S.M0 ["self","term","names"] (spD K c 3 (wQ R)):=fnD (k:=k+1) S.N0.F vP fun _ _ _ _ _ _ hr=>(qQ (sA vP.nd (OD.ow (o_ix hr (zY S.l2 (nA 0)) (xA 1 hr qV))))
   (qQ (sA vP.nd qQw)
   (qQ (sA vP.nd (vN qX))
   (qQ (j5 bP rfl (vQs rfl S.D2 (vA (xA 3 hr qV) (vA (xA 1 hr qV) qX))) (qVp rfl (v5 gA (v5 gA yI))) (qQ (vC (m0A (xI (pv 0)) S.S1 S.a2 S.E0 (xL S) hr))
   (qQ (sA vP.nd (mA (xI (pv 0)) S.S1 S.g2 S.Q0 G hr (oA (nA 7) (oA (nA 2) qL))))
   (qQ (qZ5 (qVm hr) (nA 4) (nA 6) (m0A (xI (pv 0)) S.S1 S.c2 S.H0 (wR S) hr))
   (qZ (vC (jY (nA 5) (ed_v (qG (vA (xA 4 hr (nA 6)) (vA (nA 8) qX)))))))))))
   (qQ (sA vP.nd (mA (xI (pv 0)) S.S1 S.g2 S.Q0 G hr (oA (xA 3 hr qV) (oA (nA 4) qL))))
   (qQ (j5 bP rfl (zK5 rfl S.y2 (vA (nA 5) qX)) (qVp rfl (v5 gA (v5 gA yI))) (qZ (sA vP.nd (ed_v (qG (vA qW (vA (nA 10) (vA (nA 8) (vA (nA 9) qX)))))))))
   (qZ (qE (qWx (pv 9))))))))))
theorem zI:∀h:Nat,FnOk P w K mg base (CXd P w) (3 * h+3) S.O0 S.P0 ["self","term","names"] (spD K c 3 (F_Opener_open_term h))
 | 0=>fnNo
 | h + 1=>by
   have ih:=zI h
   exact FnOk.lv (by omega) (fnD (k:=3 * h+5) S.Q0.F jM fun _ _ _ _ _ _ hr=>(qQ (sA jM.nd (OD.ow (xA 1 hr qV)))
    (qQ (qS (t_eq hr (nA 3) qW) (qZ (qE (mA (xI (pv 0)) S.S1 S.d2 S.N0 (qJi S ih) hr (oA (nA 1) (oA (nA 2) qL))))) qC)
    (qQ (vC (m0A (xI (pv 0)) S.S1 S.a2 S.E0 (xL S) hr))
    (qQ (qS (t_eq hr (nA 3) qW) (qZ (qE (qWx (pv 1)))) qC)
    (qQ (qS (t_eq hr (nA 3) qW) (qZ (qE (ed_v (qG (vA qW (vA (xA 2 hr (xA 1 hr qV)) qX)))))) qC)
    (qQ (qS (t_in hr (nA 3) (od_v (qG (vA qW (vA qW qX))))) (qZ (qE (ed_v (qG (vA qW (vV (ev_e (mA (xI (pv 0)) S.S1 S.b2 S.K0 (qJ4 S) hr (vM (od_v (ev_e (cA S.v0 (vY4 S) hr (oA (nA 1) qL)))) qL))) qX)))))) qC)
    (qQ (sA jM.nd (vN qX))
    (qQ (j5 bP rfl (jI (ev_e (cA S.j0 (qJf S) hr (oA (nA 1) qL)))) gA (qZ (vC (jY (nA 4) (vXf (xI (pv 0)) S.S1 S.g2 ih (hr.mono (by omega)) S.Q0.b v8 (oA (nA 5) (oA (nA 2) qL)))))))
    (qZ (qE (cA S.y0 (vVd S) hr (oA (nA 1) (vM (qZr (nA 4)) qL))))))))))))))
theorem yO:FnOk P w K mg base (CXd P w) 94 S.R0 S.S0 ["self","name","term"] (spD K c 3 jQ):=fnD S.T0.F yC fun _ _ _ _ _ _ hr=>(qQ (sA yC.nd (qYh (xI (pv 0)) S.S1 S.g2 (zI S 30) (hr.mono (by decide)) S.Q0.b v8 (oA (nA 2) (vM (qZr (zY S.m2 (nA 0))) qL))))
   (qQ (qZ5 (qVm hr) (zY S.m2 (nA 0)) (nA 1) (m0A (xI (pv 0)) S.S1 S.c2 S.H0 (wR S) hr))
   (qZ (vC (jY (zY S.p2 (nA 0)) (ed_v (qG (vA (o_ix hr (zY S.m2 (nA 0)) (nA 1)) (vA (nA 3) qX)))))))))
theorem qJ3:FnOk P w K mg base (CXd P w) 95 S.U0 S.V0 ["self","row"] (spD K c 2 zT):=fnD S.W0.F j7 fun _ _ _ _ _ _ hr=>(qQ (sA j7.nd (OD.ow (xA 1 hr qV)))
   (qZ (qS (t_eq hr (nA 2) qW) (qZ (qZ5 (qVm hr) (zY S.l2 (nA 0)) (xA 1 hr qV) (OD.ow (nA 1)))) (qZ (qS (t_eq hr (nA 2) qW) (qZ (vC (mA (xI (pv 0)) S.S1 S.e2 S.T0 (yO S) hr (oA (xA 1 hr qV) (oA (xA 1 hr qV) qL))))) (qZ (qS (t_eq hr (nA 2) qW) (qZ (j5 bP rfl (qWo rfl S.x2 (vA (xA 1 hr qV) qX)) gA (qZ (vC (mA (xI (pv 0)) S.S1 S.e2 S.T0 (yO S) hr (oA (xA 1 hr qV) (oA (xA 1 hr qV) qL))))))) (qZ (qS (t_eq hr (nA 2) qW) (qZ (vC (jY (zY S.p2 (nA 0)) (ed_v (qG (vA (vVp qV) (vV (ev_e (qYh (xI (pv 0)) S.S1 S.g2 (zI S 30) (hr.mono (by decide)) S.Q0.b v8 (oA (xA 1 hr qV) (vM (qZr (zY S.m2 (nA 0))) qL)))) qX))))))) (qQ (sA j7.nd (qYh (xI (pv 0)) S.S1 S.g2 (zI S 30) (hr.mono (by decide)) S.Q0.b v8 (oA (xA 1 hr qV) (vM (qZr (zY S.m2 (nA 0))) qL))))
   (qZ (vC (jY (zY S.p2 (nA 0)) (ed_v (qG (vV (ev_e (m0A (xI (pv 0)) S.S1 S.c2 S.H0 (wR S) hr)) (vA (nA 4) qX)))))))))))))))))
theorem zZx:FnOk P w K mg base (CXd P w) 97 S.X0 S.Y0 ["program"] (spD K c 1 qVz):=fnD S.Z0.F qKp fun _ _ _ _ _ _ hr=>(qQ (vC (cA S.p0 (qY8 S) hr (oA (nA 0) qL)))
   (qQ (vC (cA S.s0 (vVe S) hr (oA (nA 0) qL)))
   (qQ (sA qKp.nd (zZq S.U1 (qYy S) (hr.mono (by decide)) rfl S.Z1 S.B0.b v8))
   (qQ (j5 bP rfl (jI (OD.val (nA 0))) gA (qZ (vC (mA (xI (pv 1)) S.S1 S.f2 S.W0 (qJ3 S) hr (oA (nA 2) qL)))))
   (qZ (qE (zW7 S.T1 (qYz S) (hr.mono (by decide)) rfl S.Y1 S.g0.b v8 (oA (zY S.p2 (nA 1)) (oA (zY S.k2 (nA 1)) (oA (zY S.n2 (nA 1)) qL))))))))))
theorem qJ2:∀h:Nat,FnOk P w K mg base (CXd P w) (1 * h+2) S.a1 S.b1 ["term"] (spD K c 1 (F_slots_read h))
 | 0=>fnNo
 | h + 1=>by
   have ih:=qJ2 h
   exact FnOk.lv (by omega) (fnD (k:=1 * h+2) S.c1.F qQa fun _ _ _ _ _ _ hr=>(qQ (sA qQa.nd (OD.ow (xA 0 hr qV)))
    (qQ (qS (t_eq hr (nA 1) qW) (qZ (qE (vN (vA (xA 0 hr qV) qX)))) qC)
    (qQ (qS (t_eq hr (nA 1) qW) (qZ (qE (qXy (od_e (qQx ih (hr.mono (by omega)) rfl S.c1.m S.c1.F.kp S.c1.b v8 (oA (xA 0 hr qV) qL))) (od_e (xY rfl (Nc:=["slot","term"]) (cs:=[(1,0)]) (vVu (cl:=[("term",_)]) [(1,0)] [(".0",.local),("slot",.local),("term",.cell)] ["term"] rfl rfl rfl rfl (by decide +kernel) (by decide +kernel) ⟨rfl,trivial⟩ (by decide +kernel) ⟨⟨_,rfl,rfl,rfl,rfl⟩,trivial⟩) (jI (ev_e (qQx ih (hr.mono (by omega)) rfl S.c1.m S.c1.F.kp S.c1.b v8 (oA (xA 0 hr qV) qL)))) (fun _ _ _ _=>gA) (fun _ _ _ _=>(vQf (vVl (nA 0) (xA 1 hr qV)))) (fun _ _ _ _=>(OD.val (nA 0)))))))) qC)
    (qQ (sA qQa.nd (vN qX))
    (qQ (j5 bP rfl (jI (ev_e (cA S.j0 (qJf S) hr (oA (nA 0) qL)))) gA (qZ (vC (zZy (nA 2) (qQx ih (hr.mono (by omega)) rfl S.c1.m S.c1.F.kp S.c1.b v8 (oA (nA 3) qL))))))
    (qZ (qE (qWx (pv 2))))))))))
theorem vXo:FnOk P w K mg base (CXd P w) 63 S.d1 S.e1 ["one"] (spD K c 1 qQy):=fnD S.f1.F qX5 fun _ _ _ _ _ _ hr=>(qQ (qK5 qX5.nd rfl (Or.inr rfl) qQw)
   (qQ (sA qX5.nd (vN qX))
   (qQ (j5 bP rfl (vQt rfl S.s2 (vA (zY S.j2 (nA 0)) qX)) (qVp rfl (v5 gA (v5 gA yI))) (qQ (vC (jY (nA 2) (vXn rfl rfl S.z2 rfl S.A2 (od_e (xY rfl (Nc:=["slot","places"]) (cs:=[(1,1)]) (vVu (cl:=[("places",_)]) [(1,1)] [(".0",.local),("slot",.local),("places",.cell)] ["places"] rfl rfl rfl rfl (by decide +kernel) (by decide +kernel) ⟨rfl,trivial⟩ (by decide +kernel) ⟨⟨_,rfl,rfl,rfl,rfl⟩,trivial⟩) (jI (ev_e (cA S.c1 (qJ2 S 60) hr (oA (xA 4 hr qV) qL)))) (fun _ _ _ _=>gA) (fun _ _ _ _=>yG) (fun _ _ _ _=>(OD.val (xA 1 hr (nA 0)))))))))
   (qZ (qS (vVl (xA 4 hr qV) (vVp qV)) (qZ (qZ5 (qVm hr) (nA 1) (xA 4 hr qV) (OD.ow (nA 3)))) qC))))
   (qZ (qE (qWx (pv 2)))))))
theorem qW6:FnOk P w K mg base (CXd P w) 1 S.g1 S.h1 ["_law_term_here"] (spD K c 1 qZa):=fnD S.i1.F vQ6 fun _ _ _ _ _ _ hr=>(qQ (qS (t_eq hr (xA 0 hr qV) qW) (qZ (qE (vN (vA (xA 0 hr qV) (vA (xA 0 hr qV) qX))))) qC)
   (qQ (qS (t_eq hr (xA 0 hr qV) qW) (qZ (qE (vN (vA (xA 0 hr qV) (vA (xA 0 hr qV) (vA (xA 0 hr qV) qX)))))) qC)
   (qQ (qS (td_w (qKc (t_eq hr (xA 0 hr qV) qW) (qJ5 (t_eq hr (xA 0 hr qV) qW)))) (qZ (qE (vN (vA (xA 0 hr qV) qX)))) qC)
   (qQ (qS (t_eq hr (xA 0 hr qV) qW) (qZ (qE (xY rfl (Nc:=["_law_pair"]) (cs:=[]) (qWc rfl (by decide +kernel) (by decide +kernel) (by decide +kernel)) (jI (OD.val (xA 0 hr qV))) (fun _ _ _ _=>gA) (fun _ _ _ _=>yG) (fun _ _ _ _=>(OD.val (xA 0 hr qV)))))) qC)
   (qQ (qS (t_eq hr (xA 0 hr qV) qW) (qZ (qE (qWb rfl S.w2 (xA 0 hr qV)))) qC)
   (qZ (qE (vN qX))))))))
theorem qW8:∀h:Nat,FnOk P w K mg base (CXd P w) (1 * h+2) S.j1 S.k1 ["_law_term_here"] (spD K c 1 (wK h))
 | 0=>fnNo
 | h + 1=>by
   have ih:=qW8 h
   exact FnOk.lv (by omega) (fnD (k:=1 * h+2) S.l1.F vQ7 fun _ _ _ _ _ _ hr=>(qQ (qS (td_w (qKc (t_eq hr (xA 0 hr qV) qW) (qJ5 (t_eq hr (xA 0 hr qV) qW)))) (qZ (qE (OD.ow qV))) qC)
    (qZ (qE (OD.ow (jQ7 rfl rfl S.B2 (od_e (xY rfl (Nc:=["_law_part"]) (cs:=[]) (qWc rfl (by decide +kernel) (by decide +kernel) (by decide +kernel)) (jI (ev_e (cA S.i1 (qW6 S) hr (oA (nA 0) qL)))) (fun _ _ _ _=>gA) (fun _ _ _ _=>yG) (fun _ _ _ _=>(ev_e (qQx ih (hr.mono (by omega)) rfl S.l1.m S.l1.F.kp S.l1.b zY9 (oA (nA 0) qL))))))))))))
theorem vZx:FnOk P w K mg base (CXd P w) 1 S.m1 S.n1 ["_law_more","_law_coin"] (spD K c 2 yN):=fnD S.p1.F qQ5 fun _ _ _ _ _ _ hr=>(qQ (qS (qXu (qJ6 (nA 1))) (qZ (qE (ed_v (qG (vA qW (vA (jF (nA 0) qV) qX)))))) qC)
   (qQ (qS (t_eq hr (jF (nA 0) qV) qV) (qQ (zJh rfl qQ5.nd rfl (Or.inl rfl) (Nc:=["_law_k","_law_more"]) (cs:=[(1,0)]) (vVu (cl:=[("_law_more",_)]) [(1,0)] [(".0",.local),("_law_k",.local),("_law_more",.cell)] ["_law_more"] rfl rfl rfl rfl (by decide +kernel) (by decide +kernel) ⟨rfl,trivial⟩ (by decide +kernel) ⟨⟨_,rfl,rfl,rfl,rfl⟩,trivial⟩) (qWo rfl S.x2 (vA (qVk qV (jF (yE (nA 0) qV) qV)) qX)) (fun _ _ _ _=>gA) (fun _ _ _ _=>yG) (fun _ _ _ _=>(qG (vA (qVk (jF (yE (nA 1) qV) qV) (qKi qV (nA 0))) (vA (qVk qV (jF (yE (nA 1) (qVk (nA 0) qV)) qV)) qX)))))
   (qZ (qE (ed_v (qG (vA qW (vV (vWe rfl S.C2 (nA 2)) qX))))))) qC)
   (qQ (sA qQ5.nd (OD.ow (qVk qV (jF (yE (nA 0) qV) qV))))
   (qZ (qE (ed_v (qG (vA qW (vA (nA 3) (vA (qVk (qVk (nA 3) qV) (jF (yE (nA 0) qV) qV)) qX))))))))))
theorem qYs:FnOk P w K mg base (CXd P w) 2 S.q1 S.r1 ["_law_number","_law_known","_law_coin","_law_deep"] (spD K c 4 xJ):=fnD S.s1.F wX fun _ _ _ _ _ _ hr=>(qQ (sA wX.nd (OD.ow (jF (nA 0) qV)))
   (qQ (sA wX.nd (OD.ow (yE (nA 0) qV)))
   (qQ (sA wX.nd (cA S.p1 (vZx S) hr (oA (yE (nA 5) qV) (oA (nA 2) qL))))
   (qQ (qS (t_eq hr (nA 1) (od_e (vN qX))) (qZ (qE (qWx (pv 6)))) qC)
   (qQ (sA wX.nd (ed_v (qG (vA qW (vA (xA 1 hr (jF (nA 5) (qVj rfl S.v2 (nA 1)))) qX)))))
   (qQ (sA wX.nd (ed_v (qG (vA qW (vA (xA 1 hr (jF (yE (nA 5) qV) (qVj rfl S.v2 (nA 1)))) qX)))))
   (qQ (qS (t_eq hr (nA 4) qV) (qZ (qE (ed_v (qG (vA qW (vA qW (vA (nA 7) (vA (nA 6) qX)))))))) qC)
   (qQ (qS (t_eq hr (nA 4) qV) (qZ (qE (ed_v (qG (vA qW (vA (nA 7) (vA (nA 6) (vA (nA 8) qX)))))))) qC)
   (qQ (qS (t_eq hr (nA 4) qV) (qZ (qE (ed_v (qG (vA qW (vA (o_ix hr qW (jF (yE (nA 5) qV) qV)) (vA (nA 7) (vA (nA 8) qX)))))))) qC)
   (qQ (qS (t_eq hr (nA 4) qV) (qZ (qE (ed_v (qG (vA qW (vV (qG (vA qW (vA qW (vA (nA 7) (vV (qG (vA qW (vA (jF (nA 5) qV) qX))) qX))))) (vA (qVk qV (jF (nA 5) qV)) qX))))))) qC)
   (qQ (qS (t_eq hr (nA 4) qV) (qZ (qE (ed_v (qG (vA qW (vV (qG (vA qW (vV (qG (vV (qG (vA qW (vA (nA 7) qX))) (vV (qG (vA qW (vA (nA 6) qX))) qX))) qX))) (vA (o_ix hr qW (jF (yE (nA 5) qV) qV)) qX))))))) qC)
   (qQ (qS (td_w (qVn (t_eq hr (nA 4) qV) (qVn (qJ6 (nA 3)) (qZe (t_eq hr (jF (yE (nA 5) qV) qV) qV))))) (qZ (qE (ed_v (qG (vA qW (vA qW (vV (qG (vA (nA 7) qX)) qX))))))) qC)
   (qQ (qS (t_eq hr (nA 4) qV) (qZ (qE (ed_v (qG (vA qW (vA qW (vV (qG (vA (nA 7) (vA (nA 6) qX))) qX))))))) qC)
   (qZ (qE (qWx (pv 6)))))))))))))))))
theorem vJy:FnOk P w K mg base (CXd P w) 33 S.t1 S.u1 ["_law_cells","_law_room","_law_tail"] (spD K c 3 qQ3):=fnD S.v1.F v6 fun _ _ _ _ _ _ hr=>(qQ (sA v6.nd (vN qX))
   (qQ (sA v6.nd (vN qX))
   (qQ (j5 bP rfl (vQt rfl S.s2 (vA (nA 0) qX)) (qVp rfl (v5 gA (v5 gA yI))) (qQ (sA v6.nd (OD.ow (jF (qKi (qVk (qVk (jF (nA 6) (jQ8 qV qV)) (qKi (qKi qV (nA 5)) (nA 5))) qV) qV) qV)))
   (qQ (qK5 v6.nd rfl (Or.inr rfl) (OD.ow (zKl (o_ix hr qW (jF (yE (nA 7) qV) qV)) (nA 2))))
   (qQ (sA v6.nd (OD.ow qV))
   (qQ (qS (td_w (qVn (t_eq hr (jF (nA 7) qV) qV) (qVn (t_lt (nA 5) qV) (qZe (t_in hr (nA 8) (nA 4)))))) (qZ (sA v6.nd (OD.ow (jF (yE (nA 7) qV) qV)))) qC)
   (qQ (sA v6.nd (cA S.s1 (qYs S) hr (oA (yE (nA 7) qV) (oA (nA 4) (oA (o_le (nA 9) (nA 1)) (oA (zQj (o_lt (nA 5) qV) (zQi (o_eq hr (nA 9) qV))) qL))))))
   (qQ (sA v6.nd (OD.ow (vVo (nA 1) (qKi (nA 9) (od_e (cA S.l1 (qW8 S 30) hr (oA (nA 10) qL)))))))
   (qZ (qS (t_eq hr (jF (nA 7) qV) qV) (qZ (vC (jY (nA 3) (ed_v (qG (vA qW (vA (nA 10) qX))))))) (qZ (qS (td_w (qVn (t_eq hr (jF (nA 7) qV) qV) (qZe (t_in hr (nA 8) (nA 4))))) (qZ (vC (jY (nA 3) (ed_v (qG (vA qW (vA (nA 9) (vA (nA 8) (vA (nA 10) qX))))))))) (qQ (vC (jY (nA 3) (ed_v (qG (vA qW (vA (nA 8) (vA (nA 10) qX)))))))
   (qZ (sA v6.nd (qXy (od_e (xY rfl (Nc:=["_law_one","_law_word"]) (cs:=[(1,8)]) (vVu (cl:=[("_law_word",_)]) [(1,8)] [(".0",.local),("_law_one",.local),("_law_word",.cell)] ["_law_word"] rfl rfl rfl rfl (by decide +kernel) (by decide +kernel) ⟨rfl,trivial⟩ (by decide +kernel) ⟨⟨_,rfl,rfl,rfl,rfl⟩,trivial⟩) (jI (OD.val (nA 4))) (fun _ _ _ _=>gA) (fun _ _ _ _=>(vQf (vVl (nA 0) (nA 1)))) (fun _ _ _ _=>(OD.val (nA 0))))) (od_e (vN (vA (nA 8) qX))))))))))))))))))
   (qZ (qE (qXy (nA 3) (od_e (vN (vV (qG (vA qW (vV (ev_e (cA S.s1 (qYs S) hr (oA (qVk (qKi (qVj rfl S.v2 (nA 0)) qV) qV) (oA (nA 4) (oA (o_gt (nA 1) qV) (oA qXp qL)))))) qX))) qX)))))))))
theorem qY7:FnOk P w K mg base (CXd P w) 1 S.w1 S.x1 [] (spD K c 0 xK):=fnD S.y1.F yY fun _ _ _ _ _ _ hr=>(qQ (sA yY.nd (ed_v (qG (vA qW (vA qW (vV (qG (vA qW (vA qW qX))) (vV (qG (vA qW (vA qW qX))) qX)))))))
   (qQ (sA yY.nd (ed_v (qG (vA qW (vA qW (vV (qG (vV (qG (vA qW (vA qW qX))) (vV (qG (vA qW (vA qW qX))) qX))) qX))))))
   (qZ (qE (vN (vV (qG (vA qW (vA qW (vV (qG (vA qW (vA qW qX))) (vA (nA 0) qX))))) (vV (qG (vA qW (vA qW (vV (qG (vA qW qX)) (vV (qG (vA qW (vA qW (vV (qG (vV (qG (vA qW (vA qW qX))) (vA (nA 1) qX))) qX)))) qX))))) qX)))))))
theorem qY6:FnOk P w K mg base (CXd P w) 34 S.z1 S.A1 ["_law_cells","_law_room"] (spD K c 2 j3):=fnD S.B1.F qYw fun _ _ _ _ _ _ hr=>(qZ (qE (qXy (od_e (zZs (qY7 S) (hr.mono (by decide)) rfl S.y1.m S.y1.F.kp S.y1.b v8)) (od_e (cA S.v1 (vJy S) hr (oA (nA 0) (oA (nA 1) (oA qW qL))))))))
theorem qW7:∀h:Nat,FnOk P w K mg base (CXd P w) (1 * h+2) S.C1 S.D1 ["_law_term_here"] (spD K c 1 (jK h))
 | 0=>fnNo
 | h + 1=>by
   have ih:=qW7 h
   exact FnOk.lv (by omega) (fnD (k:=1 * h+2) S.E1.F qQ4 fun _ _ _ _ _ _ hr=>(qQ (qS (t_eq hr (xA 0 hr qV) qW) (qZ (qE (vN (vA (xA 0 hr qV) qX)))) qC)
    (qQ (sA qQ4.nd (vN qX))
    (qQ (j5 bP rfl (jI (ev_e (cA S.i1 (qW6 S) hr (oA (nA 0) qL)))) gA (qZ (sA qQ4.nd (qXy (nA 1) (od_e (qQx ih (hr.mono (by omega)) rfl S.E1.m S.E1.F.kp S.E1.b v8 (oA (nA 2) qL)))))))
    (qZ (qE (qWx (pv 1))))))))
theorem vZw:FnOk P w K mg base (CXd P w) 33 S.F1 S.G1 ["_law_program_here"] (spD K c 1 yM):=fnD S.H1.F wF fun _ _ _ _ _ _ hr=>(qQ (qK5 wF.nd rfl (Or.inr rfl) qQw)
   (qQ (sA wF.nd (vN qX))
   (qQ (j5 bP rfl (jI (OD.val (nA 0))) gA (qQ (sA wF.nd (OD.ow (jVa rfl S.t2 (jQ9 (xA 3 hr qV) qW))))
   (qQ (qS (t_eq hr (xA 3 hr qV) qW) (qZ (sA wF.nd (OD.ow (xA 3 hr qV)))) qC)
   (qZ (j5 bP rfl (qWo rfl S.x2 (vA (nA 4) qX)) gA (qQ (vC (jY (nA 2) (vXn rfl rfl S.z2 rfl S.A2 (od_e (xY rfl (Nc:=["_law_word","_law_latest"]) (cs:=[(1,1)]) (vVu (cl:=[("_law_latest",_)]) [(1,1)] [(".0",.local),("_law_word",.local),("_law_latest",.cell)] ["_law_latest"] rfl rfl rfl rfl (by decide +kernel) (by decide +kernel) ⟨rfl,trivial⟩ (by decide +kernel) ⟨⟨_,rfl,rfl,rfl,rfl⟩,trivial⟩) (jI (ev_e (cA S.E1 (qW7 S 30) hr (oA (xA 3 hr (vVp qV)) qL)))) (fun _ _ _ _=>gA) (fun _ _ _ _=>yG) (fun _ _ _ _=>(OD.val (xA 1 hr (nA 0)))))))))
   (qZ (qS (td_w (qKc (t_eq hr (xA 3 hr qV) qW) (qJ5 (t_eq hr (xA 3 hr qV) qW)))) (qZ (qZ5 (qVm hr) (nA 1) (xA 3 hr (vVp qV)) (OD.ow (vVo (qVj rfl S.v2 (nA 2)) qV)))) qC))))))))
   (qZ (qE (qWx (pv 2)))))))
theorem vZv:FnOk P w K mg base (CXd P w) 1 S.I1 S.J1 ["_law_found"] (spD K c 1 yL):=fnD S.K1.F vQ4 fun _ _ _ _ _ _ hr=>(qZ (qE (OD.ow (zQj (vQa (n:="int") (by decide) rfl S.u2 Boot.«isinstance» rfl S.t2 Boot.«int» (nA 0)) (zQi (zKk (vQa (n:="bool") (by decide) rfl S.u2 Boot.«isinstance» rfl S.r2 Boot.«bool» (nA 0))))))))
theorem qW5:FnOk P w K mg base (CXd P w) 2 S.L1 S.M1 ["_law_found","_law_due"] (spD K c 2 wY):=fnD S.N1.F vQ5 fun _ _ _ _ _ _ hr=>(qQ (qS (td_w (qKc (qXu (qJ6 (vQa (n:="list") (by decide) rfl S.u2 Boot.«isinstance» rfl S.w2 Boot.«list» (nA 0)))) (qJ5 (vVl (qVj rfl S.v2 (nA 0)) (qVj rfl S.v2 (nA 1)))))) (qZ (qE (OD.ow qXp))) qC)
   (qQ (j5 bP rfl (vQs rfl S.D2 (vA (nA 0) (vA (nA 1) qX))) (qVp rfl (v5 gA (v5 gA yI))) (qQ (qS (td_w (qKc (qXu (qJ6 (vQa (n:="list") (by decide) rfl S.u2 Boot.«isinstance» rfl S.w2 Boot.«list» (nA 2)))) (qJ5 (t_ne hr (nA 2) (nA 3))))) (qZ (qE (OD.ow qXp))) qC)
   (qZ (j5 bP rfl (jI (OD.val (nA 2))) gA (qZ (qS (qXu (qJ6 (od_e (cA S.K1 (vZv S) hr (oA (nA 4) qL))))) (qZ (qE (OD.ow qXp))) qC))))))
   (qZ (qE (OD.ow qXp)))))
theorem jVy:FnOk P w K mg base (CXd P w) 98 S.O1 S.P1 ["_law_script"] (spD K c 1 vKx):=fnD S.Q1.F qZ4 fun _ _ _ _ _ _ hr=>(qQ (sA qZ4.nd (cA S.B1 (qY6 S) hr (vM (od_v (ev_e (zZo (nA 0) zWc (zWb (OD.val qV))))) (oA qV qL))))
   (qQ (sA qZ4.nd (cA S.Z0 (zZx S) hr (oA (nA 1) qL)))
   (qQ (sA qZ4.nd (qWb rfl S.w2 (zY S.j2 (nA 2))))
   (qQ (sA qZ4.nd (cA S.H1 (vZw S) hr (oA (nA 1) qL)))
   (qQ (sA qZ4.nd (cA S.f1 (vXo S) hr (oA (nA 2) qL)))
   (qQ (qS (td_w (qKc (qXu (qJ6 (od_e (cA S.N1 (qW5 S) hr (vM (qZr (nA 5)) (vM (qZr (nA 4)) qL)))))) (qJ5 (t_ne hr (zY S.j2 (nA 2)) (nA 3))))) (qZ (qE (OD.ow qXp))) qC)
   (qQ (vX4 (j:=6) bP rfl qZ4.nd rfl (Or.inl rfl) (pv 5) (pv 6))
   (qQ (vC (zZr (nA 5)))
   (qZ (qE (cA S.N1 (qW5 S) hr (vM (od_v (ev_e (cA S.f1 (vXo S) hr (oA (nA 2) qL)))) (vM (qZr (nA 4)) qL)))))))))))))
end
end X50
namespace X50
open PySem L2 DX FP PyProof.Rows
def cm:Nat->aZ:=fun n=>match n with | 1=>73 | 2=>179 | 24=>44|_=>0
end X50
open PySem PySem.W PyProof.Rows L2 DX
set_option maxHeartbeats 0 in
theorem PySem.Challenge.cw_flipwright_k50_leans_holds : PySem.Challenge.rw_flipwright_k50_leans.Holds := by
 w_on;o_law;refine holds_open (q:=X50.vw) (loose:=X50.pg.boundNames) (Xt:=fun s=>xlAt X50.vw [] s && recOk (RowW.records (OpenRow.toRowW PySem.Challenge.rw_flipwright_k50_leans.row)) s) (XP:=XL X50.vw []) (Yf:=Hook.obs (kHook X50.KF X50.KA X50.KAs)) (Ya:=Hook.val (kHook X50.KF X50.KA X50.KAs)) (YP:=Hook.says (kHook X50.KF X50.KA X50.KAs)) (N:=4138) ?hl (Hook.of _) (Hook.keeps _) (fun s e=>xl_of s (Bool.and_eq_true_iff.mp e).1) XL.keeps (by rfl) (by rfl) (by rfl) (fun s e=>recFacts_of (Bool.and_eq_true_iff.mp e).2) (by rfl) (by first|assumption|decide +kernel) (by decide +kernel) ⟨rfl,rfl,rfl,rfl,rfl,by decide +kernel⟩ ?hw ?hc
 (case hw=>w_witness2);(case hl=>exact TH.left (k0:=12) rfl (by rfl) (fun _=>rfl) X50.zW0 X50.zK7 X50.zWz X50.zZk X50.zK6 (by rfl));k_fill;refine DX.jQl (l:=PySem.Challenge.rw_flipwright_k50_leans) (k:=98) (x:="_law_script") rfl rfl ⟨rfl,by decide,by decide,rfl⟩ (fun w h Y=>PySem.W.kIn_of Y) X50.zV7 ?F
 case F=>
  intro w mg fa h KX G hmg;let S:X50.Fs (X50.KF w.params) mg X50.cm:=by
   constructor
   iterate 2 all_goals try first
    |exact faM KX G (by k_is) (by k_is) (by k_is) (by k_is)
    |exact PySem.W.mg_of KX G (by k_is)
    |exact PySem.W.mg_none_of KX G (by k_is)
    |exact⟨by k_is,by k_is,by k_is⟩
    |exact⟨by k_is,by k_is,by k_is,by k_is⟩
    |k_is
    |exact qZn (by k_is) (by k_is) (by k_is) (fun _ _ _ _ _ _ us hl=>match us,hl with|[_],_=>rfl)
    |exact qZn (by k_is) (by k_is) (by k_is) (fun _ _ _ _ _ _ us hl=>match us,hl with|[_,_],_=>rfl)
    |exact qZn (by k_is) (by k_is) (by k_is) (fun _ _ _ _ _ _ us hl=>match us,hl with|[_,_,_],_=>rfl)
    |exact qZn (by k_is) (by k_is) (by k_is) (fun _ _ _ _ _ _ us hl=>match us,hl with|[_,_,_,_],_=>rfl)
    |exact vXb KX G (by k_is) (by k_is) (by k_is) (by k_is) (fun _ _ _ _ _ _ us hl=>match us,hl with|[],_=>rfl)
    |exact(by unfold L2.xZ;k_is)
    |exact⟨DX.zK2 (by kernel_rfl),by k_is,by k_is,by k_is,by k_is⟩
    |exact exs_cons ⟨⟨by k_is,by k_is,by k_is,by k_is,by k_is⟩,by kit_is⟩ exs_nil
    |exact exc_cons (by kts_exm) exc_nil
    |exact exl_cons ⟨⟨by k_is,by k_is,by k_is,by k_is,by k_is⟩,by k_is,by k_is⟩ exl_nil
    |exact vZh (C:=1) ⟨by k_is,by k_is,by k_is,by k_is⟩ (by unfold L2.xZ;k_is) vXc
    |exact vZh (C:=2) ⟨by k_is,by k_is,by k_is,by k_is⟩ (by unfold L2.xZ;k_is) vXc
  have e:fa=S.O1:=by have e:=hmg.symm.trans S.Q1.m;cases e;rfl
  rw[e];exact⟨X50.cm,S.P1,rfl,fun s u=>.of_eq rfl,fun base _ _=>X50.jVy S⟩
