import PyProof.Rows.All
import Wide.All
import OpenK.AllK
import Wide.FinOn
import PyProof.EqAt
import PyProof.EqKinds
import PyProof.TupleCall
import Lean
import PySem.Challenge.RW_flipwright_k52_left
set_option Elab.async false
set_option linter.all false
set_option maxRecDepth 100000
set_option compiler.extract_closed false
set_option bootstrap.genMatcherCode false
open PySem.W renaming Frag → aQ, kia_one → bA, kitOne → cX, fnOf → cG, keepIn → cT, findIn → dQ, emptyDict → dJ, instObj → dR, behindTheImports → dA, sortI → eU
open PySem renaming wpAny_bind → aV, Addr → aX, Shared → aY, wpAny_pure → aW, starEach → aK, wpAny → aH, sizeLine → aS, Program → aA, FuncData → bJ, World → bW, wpAny_newObj_type → bT, Around → cQ, wpAny_call_entry → cZ, backTo → cK, mainGlobals → cH, mem_of_lookup → cL, bootBuiltins → cR, codeAny_builtin → cS, compareOp → dX, wpAny_callSpecial?_slot → dY, wpAny_holding → dP, wpAny_seqItems → dE, wpAny_field → dO, sysModules → eZ, wpAny_setField_rec → eJ, wpAny_typeNameOfWhole_keyiter → eG, wpAny_Call_Name_kw → eI, plainId_quiet → eN, cLine → eA, wpAny_setState_of → fQ, wpAny_rule → fV, wpAny_mono → fZ, wpAny_of_eq → fJ
open List renaming length_map → aZ, length_cons → aU, length_append → aB, getElem?_eq_getElem → aD, mem_cons → aG, mem_cons_of_mem → aI, map_cons → aL, getElem?_eq_some_iff → aM, size_toArray → aN, mem_singleton → bV, mem_append_right → bU, map_append → bF, length_set → bI, map_map → bL, getElem?_map → bM, length_range → cV, mem_map → cJ, append_nil → cY, zip_cons_cons → cB, getElem?_set_ne → cC, getD_eq_getElem?_getD → cD, filterMap_cons → cM, mem_append → cN, nodup_cons → dW, getElem?_append_left → dC, replicate_succ → dF, mem_range → dL, mem_cons_self → dM, getElem?_append_right → dN, any_cons → eY, getElem?_cons_zero → eW, eq_nil_of_length_eq_zero → eP, all_cons → eB, length_replicate → eC
open PySem.Heap renaming get?_push_of_some → aJ, get?_push_size → aP, lt_size → aE, size_push → bP, SameBut → eX, get?_update_self → eD
open Nat renaming le_refl → aC, le_trans → aR, lt_of_lt_of_le → aT, ne_of_lt → bQ, zero_add → bG, lt_irrefl → bR, zero_le → cF, ne_of_gt → dD, le_of_lt → dH, lt_succ_of_lt → eM
open Bool renaming and_eq_true → aF, false_ne_true → aO
open PySem.PyData renaming keyHash → bZ
open Option renaming map_eq_some_iff → bX, bind_some → cW, bind_eq_some_iff → cU
open PySem.PassesOwn renaming leaving → bY
open PySem.SetTable renaming below → bK
open PyProof.Rows renaming callWith_type1 → bH
open Int renaming toNat_natCast → bN, le_refl → eT
open Array renaming getElem?_eq_getElem → cI
open PySem.F renaming called_set → dB, slot_dict_keyiterator_next → dG, slot_tuple_iterator_next → eV
open PySem.Heap.SameBut renaming update → eQ
open List.cons renaming injEq → eK
open PySem.SeqAt renaming EqAt → fX
namespace L2
open PySem
noncomputable def yP(s:Stmt)(j:Nat):Stmt:=match s with
 |.ClassDef _ _ _ body _ _ _ _ _ _ _=>body.getD j (.Pass ⟨0,0,0,0⟩)
 |_=> .Pass ⟨0,0,0,0⟩
noncomputable def jB(s:Stmt):Arguments:=match s with
 |.FunctionDef _ a _ _ _ _ _ _ _ _=>a
 |_=> {posonlyargs:=[],args:=[],vararg:=none,kwonlyargs:=[],kw_defaults:=[],kwarg:=none,defaults:=[]}
noncomputable def zL(s:Stmt):List Stmt:=match s with
 |.FunctionDef _ _ b _ _ _ _ _ _ _=>b
 |_=> []
noncomputable def qP(s:Stmt):Scope:=match s with
 |.FunctionDef _ _ _ _ _ _ sc _ _ _=>sc
 |_=> {kind:=.function,names:=[],isGenerator:=false,isCoroutine:=false}
end L2
namespace TH
open PySem PySem.W PySem.Calls PyProof.Rows
variable{N:Nat}{c:Code}{pos:Pos}{p:aA}{ann:Option Value}{env:Env}
noncomputable def zVs:List Obj->Nat->BT->BT
 |[],_,t=>t
 |o::l,n,t=>zVs l (n+1) (t.ins n o)
noncomputable def ofS(s:aY):SharedT:=⟨zVs s.heap.objs.toList 0 .nil,s.heap.objs.size,s.heap.life,s.gens,s.drawn,s.toks,s.os⟩
section
variable{tb:String->Option Builtin}{p:aA}{w:bW}{n₀:Nat}{ann:Option Value}{env:Env}{q:Pos}
theorem app{n:Nat}{s b r:aY}{l:List Stmt}{d:Code}{e:Pos}(h:segRun tb p w n₀ ann 1 n s (piecesOf l env c pos [topFrame q])=some (.next,b,d,e))(k:topRun tb p w n₀ ann N b (restOf [] env d e [topFrame q])=some r):topRun tb p w n₀ ann (n+N) s (restOf l env c pos [topFrame q])=some r:=by
 obtain⟨a,ha,g⟩:=seg_top (res:=id) (K' :=fun f=>match f with|.next =>(execs [] env).wrap doneF (leaveH env) id id|f=>doneF f) (H' :=leaveH env) (B:=[topFrame q]) rfl n s (piecesOf l env c pos [topFrame q])
  ⟨(execs l env).wrap (fun f=>match f with|.next =>(execs [] env).wrap doneF (leaveH env) id id|f=>doneF f) (leaveH env) id id,c,pos,[topFrame q]⟩ _ _ _ _ ⟨rfl,rfl,.inl ⟨rfl,rfl,_,rfl,rfl⟩⟩ h
 obtain rfl:a=.next :=ha
 have:=g N r k;rw[show l=l ++ [] by simp];unfold restOf;rw[execs_app_wrap];exact this
end
noncomputable def vXq{β:Type}(p:aA)(w:bW)(n₀:Nat)(a:Option Value)(b:List Stmt)(env:Env)(c:Code)(d q:Pos)(k:Nat)(s:SharedT)(look:aY->β):Option β:=
 match segRunT treeTable p w n₀ a 1 k s (piecesOf b env c d [topFrame q]) with
 |some (.next,s',c',p')=>(topRun treeTable p w n₀ a 5 s'.abs (restOf [] env c' p' [topFrame q])).map look
 |_=>none
theorem zYm{β:Type}{w:bW}{n₀:Nat}{b:List Stmt}{q:Pos}{k:Nat}{s:SharedT}{look:aY->β}{v:β}(h:vXq p w n₀ ann b env c pos q k s look=some v):∃r,topRun treeTable p w n₀ ann (k+5) s.abs (restOf b env c pos [topFrame q])=some r/\look r=v:=by
 unfold vXq at h;split at h
 ·next s' c' p' e=>
  obtain⟨r,a,d⟩:=bX.mp h;exact⟨r,app (segRun_of e) a,d⟩
 ·cases h
noncomputable def zVl{α:Type}(p q:aA)(loose:List Str)(Xt:aY->Bool)(Yf:aY->α)(g0:Bool)(H₀:Heap)(s:aY):=
 ((staticsOk (importedModules p.main.body) H₀ s.heap && namesBound p s.heap && gensDone s && laidKept H₀ s.heap),openSeen q loose (importedModules p.main.body) Xt g0 s,Yf s)
theorem left{q:aA}{loose:List Str}{Xt:aY->Bool}{α:Type}{Yf:aY->α}{Ya:bW->α}{g0:Bool}{m₀:Nat}{k0 k:Nat}{g:Pos}{Sa:bW->OsState->aY}(e:opening p=plainProg p.main.scope.names)(o:Nat.ble 600 N=true)(f:∀s,fenceModules? p s=some s)(b:∀w:bW,((boot_heap w.params).isNs cH,(boot_heap w.params).objs.size,(boot_heap w.params).nsMap cH "__annotations__")=(true,m₀,ann))(i:∀(w:bW) (os:OsState),topGo treeTable p w m₀ ann k0 ⟨boot_heap w.params,Array.mk [],boot_drawn,boot_toks,os⟩ (topStub p)=
   some (Sa w os,⟨denote treeTable (.body (dA p) env),.body (dA p) env,pos,[topFrame g]⟩))(c:∀w os,(ofS (Sa w os)).abs =Sa w os)(a:blockStart (dA p) env=.pure ())(j:∀w os,vXq p w m₀ ann (dA p) env (.body (dA p) env) pos g k (ofS (Sa w os)) (zVl p q loose Xt Yf g0 (boot_heap w.params))=some (true,openGood q loose,Ya w))(le:Nat.ble (k0+(1+(k+5))) N=true):LeftO p q loose Xt Yf Ya N g0:=fun w=>by
 obtain⟨⟨h,u,d,v,os⟩,x,y⟩:=bX.mp (boot_open (N:=N) e o f w);obtain⟨rfl,rfl,rfl,rfl⟩:h=boot_heap w.params/\u=Array.mk []/\d=boot_drawn/\v=boot_toks:=by simpa using y
 obtain⟨z,A,B⟩:_/\_/\_:=by simpa only[Prod.mk.injEq] using b w
 obtain⟨r,l,C⟩:=zYm (j w os);rw[c w os]at l;have hb:segRun treeTable p w m₀ ann 1 1 (Sa w os) (blockOf (dA p) env (.body (dA p) env) pos [topFrame g])=some (.next,Sa w os,.body (dA p) env,pos):=by
  unfold blockOf;rw[a];rfl
 have D:=go_top (i w os) (piece_block hb l);have n:=topRun_mono (N - (k0+(1+(k+5)))) _ _ _ _ D;rw[show(k0+(1+(k+5)))+(N - (k0+(1+(k+5))))=N by have:=Nat.le_of_ble_eq_true le;omega]at n;obtain⟨E,F,G⟩:_/\_/\_:=by simpa only[zVl,Prod.mk.injEq] using C
 have t:topFrom treeTable p w N ⟨boot_heap w.params,Array.mk [],boot_drawn,boot_toks,os⟩=some r:=by
  unfold topFrom;dsimp only;rw[z,A,B,n];show(match staticsOk (importedModules p.main.body) (boot_heap w.params) r.heap && namesBound p r.heap && gensDone r && laidKept (boot_heap w.params) r.heap with|true=>_|false=>_)=_;rw[E]
 unfold openEnds;rw[x];show(topFrom treeTable p w N _).map _=_;rw[t];exact congrArg some (Prod.ext F G)
end TH
namespace X52
open PySem L2 PyProof.Rows
noncomputable def top(i:Nat):Stmt:=PySem.Challenge.pw_flipwright_k52_left.main.body.getD i (.Pass ⟨0,0,0,0⟩)
noncomputable abbrev qQd:Stmt:=yP (top 8) 0
noncomputable abbrev qJ3:Stmt:=top 9
noncomputable abbrev qV0:Stmt:=top 10
noncomputable abbrev qQ0:Stmt:=top 11
noncomputable abbrev qV1:Stmt:=top 12
noncomputable abbrev qXg:Stmt:=top 13
noncomputable abbrev qVx:Stmt:=top 14
noncomputable abbrev qQc:Stmt:=yP (top 15) 0
noncomputable abbrev j7:Stmt:=yP (top 15) 1
noncomputable abbrev xW:Stmt:=yP (top 15) 2
noncomputable abbrev xX:Stmt:=yP (top 15) 3
noncomputable abbrev wB:Stmt:=yP (top 15) 5
noncomputable abbrev wU:Stmt:=yP (top 15) 4
noncomputable abbrev xJ:Stmt:=yP (top 15) 6
noncomputable abbrev xZ:Stmt:=yP (top 15) 7
noncomputable abbrev qKf:Stmt:=top 16
noncomputable abbrev qVy:Stmt:=top 18
noncomputable abbrev vV1:Stmt:=top 19
noncomputable abbrev qXf:Stmt:=top 20
noncomputable abbrev qZy:Stmt:=top 21
noncomputable abbrev qKe:Stmt:=top 22
noncomputable abbrev vWi:Stmt:=top 23
noncomputable abbrev qZz:Stmt:=top 25
noncomputable abbrev qZ3:Stmt:=top 26
noncomputable abbrev qZ2:Stmt:=top 27
noncomputable abbrev qJ4:Stmt:=top 28
noncomputable abbrev qJ5:Stmt:=top 29
noncomputable abbrev qQz:Stmt:=top 30
noncomputable abbrev qQy:Stmt:=top 31
noncomputable abbrev qZ0:Stmt:=top 32
noncomputable abbrev qZ1:Stmt:=top 33
noncomputable abbrev qJ6:Stmt:=top 34
noncomputable abbrev qVz:Stmt:=top 35
noncomputable abbrev qZ4:Stmt:=top 36
noncomputable abbrev zVh:Stmt:=top 37
noncomputable def fO(x q:Str)(s:Stmt)(m:Str)(t c:Nat):Obj:=⟨(.type "function"),none,(.func ⟨x,q,jB s,.stmts (zL s),qP s,3,[],.none,.none,.none,(.str m t),none,(.ref c),.none,0⟩),#[]⟩
noncomputable def cO(x q:Str)(a b d:Nat)(l n v:Int)(e:Nat)(i:Int)(f g h j:Nat)(k o:Int)(p:Nat):Obj:=⟨(.type "code"),none,(.fields #[(.str x a),(.str q b),(.str "/claim/cut.py" d),(.int l 0),(.int n 0),(.int 0 0),(.int 0 0),(.int v 0),(.ref e),(.bool true),(.int i 0),(.ref f),.none,(.ref g),(.ref h),(.ref j),(.int k 0),(.int o 0),(.str "/claim/cut.py" p)]),#[]⟩
noncomputable def eR(P:Params)(x:Str)(t c:Nat):DictEntry:=⟨bZ P x,.str x t,.ref c⟩
noncomputable def cP(c:Nat)(x:Str)(a:Nat)(l n:Int)(e:Nat):Obj:=cO x x a (a+1) (a+2) l n 3 (c - 5) 181 (c - 4) (c - 3) (c - 2) (c - 1) (e:Int) l (e+1)
noncomputable def g0(x:Str)(s:Stmt)(c:Nat):Obj:=fO x x s "flipwright.opening" 248 c
noncomputable def g1(x:Str)(s:Stmt)(c:Nat):Obj:=fO x x s "flipwright.leaning" 448 c
noncomputable def g2(x:Str)(s:Stmt)(c:Nat):Obj:=fO x x s "law_flipwright_k52_left" 487 c
noncomputable def x1:Obj:=⟨(.type "tuple"),none,(.seq #[(.ref 24)] 0),#[]⟩
noncomputable def x2:Obj:=⟨(.type "tuple"),none,(.seq #[] 0),#[]⟩
noncomputable def x3(c:Nat)(l:Int)(a:Nat)(P:Params):Obj:=⟨(.type "dict"),none,(.dict #[⟨bZ P "__module__",(.str "__module__" (a+7)),(.str "flipwright.errors" 187)⟩,⟨bZ P "__firstlineno__",(.str "__firstlineno__" (a+11)),(.int l (a+10))⟩,eR P "__static_attributes__" (a+12) (c+7),⟨bZ P "__doc__",(.str "__doc__" (a+13)),.none⟩] 2),#[]⟩
noncomputable def x4(c:Nat)(x:Str)(a:Nat):Obj:=⟨(.type "type"),none,(.cls (.mk x [(.ref 24)] [(.ref (c+9)),(.ref 24),(.type "ValueError"),(.type "Exception"),(.type "BaseException"),(.type "object")] (c+8) x true [] [] false none false)),#[(some (.ref (c+0))),none,(some (.str x (a+0))),(some (.str x (a+8))),(some (.builtin "ValueError.__new__")),(some (.bool true))]⟩
noncomputable def KF:Params->aQ:=fun P=>
 (nat_lit 2,⟨.none,none,(.dict #[] 0),#[]⟩)::
 (nat_lit 3,⟨(.type "dict"),none,(.dict #[⟨bZ P "__name__",(.str "__name__" 165),(.str "law_flipwright_k52_left" 487)⟩,⟨bZ P "__doc__",(.str "__doc__" 166),.none⟩,⟨bZ P "__package__",(.str "__package__" 167),.none⟩,⟨bZ P "__loader__",(.str "__loader__" 168),(.builtin "__main__.__loader__#opaque")⟩,⟨bZ P "__spec__",(.str "__spec__" 169),.none⟩,eR P "__annotations__" 170 6,eR P "__builtins__" 171 4,⟨bZ P "__file__",(.str "__file__" 173),(.str "/claim/cut.py" 172)⟩,⟨bZ P "__cached__",(.str "__cached__" 174),.none⟩,eR P "FlipError" 206 24,eR P "NoName" 231 44,eR P "TooMuch" 247 56,⟨bZ P "MOST_DEFS",(.str "MOST_DEFS" 251),(.int 3 250)⟩,⟨bZ P "MOST_DRAWS",(.str "MOST_DRAWS" 253),(.int 60 252)⟩,⟨bZ P "MOST_SIZE",(.str "MOST_SIZE" 255),(.int 600 254)⟩,eR P "Opened" 284 73,eR P "parts_of" 290 82,eR P "check_term" 302 89,eR P "check_names" 314 96,eR P "check_defs" 320 101,eR P "draw_of" 327 108,eR P "with_parts" 333 113,eR P "Opener" 438 179,eR P "opened" 447 190,eR P "slots_read" 455 195,eR P "leans" 461 200,eR P "seekers" 467 205,eR P "wanted_by" 473 210,eR P "wanted" 480 217,eR P "left" 486 222,eR P "_law_parts" 494 227,eR P "_law_count" 500 232,eR P "_law_drawn" 506 237,eR P "_law_term" 521 244,eR P "_law_rows" 527 249,eR P "_law_helpers" 535 256,eR P "_law_program" 543 263,eR P "_law_names" 552 270,eR P "_law_leans" 558 275,eR P "_law_ends" 568 282,eR P "_law_closed" 579 289,eR P "_law_alike" 589 296,eR P "law" 595 301] 43),#[]⟩)::
 (nat_lit 15,⟨(.type "tuple"),none,(.seq #[(.type "ValueError")] 0),#[]⟩)::
 (nat_lit 22,x2)::
 (nat_lit 23,⟨(.type "dict"),none,(.dict #[⟨bZ P "__module__",(.str "__module__" 196),(.str "flipwright.errors" 187)⟩,⟨bZ P "__firstlineno__",(.str "__firstlineno__" 200),(.int 2 199)⟩,eR P "__static_attributes__" 201 22,eR P "__weakref__" 203 25,⟨bZ P "__doc__",(.str "__doc__" 204),.none⟩] 3),#[]⟩)::
 (nat_lit 24,⟨(.type "type"),none,(.cls (.mk "FlipError" [(.type "ValueError")] [(.ref 24),(.type "ValueError"),(.type "Exception"),(.type "BaseException"),(.type "object")] 23 "FlipError" true [] [(.ref 44),(.ref 56)] false none false)),#[(some (.ref 15)),none,(some (.str "FlipError" 189)),(some (.str "FlipError" 197)),(some (.builtin "ValueError.__new__")),(some (.bool true))]⟩)::
 (nat_lit 25,⟨(.type "getset_descriptor"),none,(.fields #[(.str "__weakref__" 202),(.ref 24),(.builtin "ExceptionGroup.__weakref__"),.none]),#[]⟩)::
 (nat_lit 28,x1)::
 (nat_lit 40,cO "__init__" "NoName.__init__" 219 220 221 6 2 3 35 181 36 37 38 39 224 6 225)::
 (nat_lit 41,⟨(.type "function"),none,(.func ⟨"__init__","NoName.__init__",⟨[],[⟨"self",none,⟨6,17,6,21⟩⟩,⟨"row",none,⟨6,23,6,26⟩⟩],none,[],[],none,[]⟩,(.stmts [(.Assign [(.Attribute (.Name "self" ⟨7,8,7,12⟩) "row" ⟨7,8,7,16⟩)] (.Name "row" ⟨7,19,7,22⟩) ⟨7,8,7,22⟩)]),⟨.function,[("self",.local),("row",.local)],false,false,[]⟩,3,[],.none,.none,.none,(.str "flipwright.errors" 187),none,(.ref 40),.none,0⟩),#[]⟩)::
 (nat_lit 42,⟨(.type "tuple"),none,(.seq #[(.str "row" 227)] 0),#[]⟩)::
 (nat_lit 43,⟨(.type "dict"),none,(.dict #[⟨bZ P "__module__",(.str "__module__" 214),(.str "flipwright.errors" 187)⟩,⟨bZ P "__firstlineno__",(.str "__firstlineno__" 218),(.int 4 217)⟩,eR P "__init__" 226 41,eR P "__static_attributes__" 228 42,⟨bZ P "__doc__",(.str "__doc__" 229),.none⟩] 2),#[]⟩)::
 (nat_lit 44,⟨(.type "type"),none,(.cls (.mk "NoName" [(.ref 24)] [(.ref 44),(.ref 24),(.type "ValueError"),(.type "Exception"),(.type "BaseException"),(.type "object")] 43 "NoName" true [] [] false none false)),#[(some (.ref 28)),none,(some (.str "NoName" 207)),(some (.str "NoName" 215)),(some (.builtin "ValueError.__new__")),(some (.bool true))]⟩)::
 (nat_lit 47,x1)::
 (nat_lit 54,x2)::
 (nat_lit 55,x3 47 8 232 P)::
 (nat_lit 56,x4 47 "TooMuch" 232)::
 (nat_lit 69,⟨(.type "code"),none,(.fields #[(.str "__init__" 268),(.str "Opened.__init__" 269),(.str "/claim/cut.py" 270),(.int 16 0),(.int 4 0),(.int 0 0),(.int 0 0),(.int 3 0),(.ref 66),(.bool true),(.int 181 0),(.ref 67),.none,.none,.none,(.ref 68),(.int 271 0),(.int 16 0),(.str "/claim/cut.py" 272)]),#[]⟩)::
 (nat_lit 70,fO "__init__" "Opened.__init__" qQd "flipwright.opening" 248 69)::
 (nat_lit 71,⟨(.type "tuple"),none,(.seq #[(.str "draws" 274),(.str "slots" 275),(.str "steps" 276)] 0),#[]⟩)::
 (nat_lit 72,⟨(.type "dict"),none,(.dict #[⟨bZ P "__module__",(.str "__module__" 263),(.str "flipwright.opening" 248)⟩,⟨bZ P "__firstlineno__",(.str "__firstlineno__" 267),(.int 14 266)⟩,eR P "__init__" 273 70,eR P "__static_attributes__" 277 71,eR P "__dict__" 279 74,eR P "__weakref__" 281 75,⟨bZ P "__doc__",(.str "__doc__" 282),.none⟩] 4),#[]⟩)::
 (nat_lit 73,⟨(.type "type"),none,(.cls (.mk "Opened" [(.type "object")] [(.ref 73),(.type "object")] 72 "Opened" true [] [] false none false)),#[none,none,(some (.str "Opened" 256)),(some (.str "Opened" 264)),(some (.builtin "object.__new__")),(some (.bool true))]⟩)::
 (nat_lit 74,⟨(.type "getset_descriptor"),none,(.fields #[(.str "__dict__" 278),(.ref 73),(.builtin "function.__dict__"),(.builtin "function.__dict__#set")]),#[]⟩)::
 (nat_lit 75,⟨(.type "getset_descriptor"),none,(.fields #[(.str "__weakref__" 280),(.ref 73),(.builtin "ExceptionGroup.__weakref__"),.none]),#[]⟩)::
 (nat_lit 81,⟨(.type "code"),none,(.fields #[(.str "parts_of" 285),(.str "parts_of" 286),(.str "/claim/cut.py" 287),(.int 20 0),(.int 1 0),(.int 0 0),(.int 0 0),(.int 3 0),(.ref 78),(.bool true),(.int 181 0),(.ref 79),.none,.none,.none,(.ref 80),(.int 288 0),(.int 20 0),(.str "/claim/cut.py" 289)]),#[]⟩)::
 (nat_lit 82,g0 "parts_of" qJ3 81)::
 (nat_lit 88,cP 88 "check_term" 291 33 4 300)::
 (nat_lit 89,g0 "check_term" qV0 88)::
 (nat_lit 95,cP 95 "check_names" 303 41 1 312)::
 (nat_lit 96,g0 "check_names" qQ0 95)::
 (nat_lit 100,⟨(.type "code"),none,(.fields #[(.str "check_defs" 315),(.str "check_defs" 316),(.str "/claim/cut.py" 317),(.int 57 0),(.int 1 0),(.int 0 0),(.int 0 0),(.int 3 0),(.ref 97),(.bool true),(.int 181 0),(.ref 98),.none,.none,.none,(.ref 99),(.int 318 0),(.int 57 0),(.str "/claim/cut.py" 319)]),#[]⟩)::
 (nat_lit 101,g0 "check_defs" qV1 100)::
 (nat_lit 107,cP 107 "draw_of" 321 60 1 325)::
 (nat_lit 108,g0 "draw_of" qXg 107)::
 (nat_lit 112,⟨(.type "code"),none,(.fields #[(.str "with_parts" 328),(.str "with_parts" 329),(.str "/claim/cut.py" 330),(.int 64 0),(.int 2 0),(.int 0 0),(.int 0 0),(.int 3 0),(.ref 109),(.bool true),(.int 181 0),(.ref 110),.none,.none,.none,(.ref 111),(.int 331 0),(.int 64 0),(.str "/claim/cut.py" 332)]),#[]⟩)::
 (nat_lit 113,g0 "with_parts" qVx 112)::
 (nat_lit 126,cO "__init__" "Opener.__init__" 346 347 348 75 1 3 121 181 122 123 124 125 350 75 351)::
 (nat_lit 127,fO "__init__" "Opener.__init__" qQc "flipwright.opening" 248 126)::
 (nat_lit 133,cO "count_term" "Opener.count_term" 353 354 355 83 1 3 128 181 129 130 131 132 357 83 358)::
 (nat_lit 134,fO "count_term" "Opener.count_term" j7 "flipwright.opening" 248 133)::
 (nat_lit 140,cO "new_slot" "Opener.new_slot" 360 361 362 88 1 3 135 181 136 137 138 139 364 88 365)::
 (nat_lit 141,fO "new_slot" "Opener.new_slot" xW "flipwright.opening" 248 140)::
 (nat_lit 147,cO "new_draw" "Opener.new_draw" 367 368 369 92 2 3 142 181 143 144 145 146 372 92 373)::
 (nat_lit 148,fO "new_draw" "Opener.new_draw" xX "flipwright.opening" 248 147)::
 (nat_lit 154,cO "open_term" "Opener.open_term" 375 376 377 98 3 3 149 181 150 151 152 153 384 98 385)::
 (nat_lit 155,fO "open_term" "Opener.open_term" wU "flipwright.opening" 248 154)::
 (nat_lit 161,cO "open_call" "Opener.open_call" 387 388 389 114 3 3 156 181 157 158 159 160 401 114 402)::
 (nat_lit 162,fO "open_call" "Opener.open_call" wB "flipwright.opening" 248 161)::
 (nat_lit 168,cO "open_let" "Opener.open_let" 404 405 406 128 3 3 163 181 164 165 166 167 411 128 412)::
 (nat_lit 169,fO "open_let" "Opener.open_let" xJ "flipwright.opening" 248 168)::
 (nat_lit 175,cO "open_row" "Opener.open_row" 414 415 416 133 2 3 170 181 171 172 173 174 422 133 423)::
 (nat_lit 176,fO "open_row" "Opener.open_row" xZ "flipwright.opening" 248 175)::
 (nat_lit 177,⟨(.type "tuple"),none,(.seq #[(.str "draws" 425),(.str "helpers" 426),(.str "names" 427),(.str "slots" 428),(.str "steps" 429),(.str "terms" 430)] 0),#[]⟩)::
 (nat_lit 178,⟨(.type "dict"),none,(.dict #[⟨bZ P "__module__",(.str "__module__" 341),(.str "flipwright.opening" 248)⟩,⟨bZ P "__firstlineno__",(.str "__firstlineno__" 345),(.int 73 344)⟩,eR P "__init__" 352 127,eR P "count_term" 359 134,eR P "new_slot" 366 141,eR P "new_draw" 374 148,eR P "open_term" 386 155,eR P "open_call" 403 162,eR P "open_let" 413 169,eR P "open_row" 424 176,eR P "__static_attributes__" 431 177,eR P "__dict__" 433 180,eR P "__weakref__" 435 181,⟨bZ P "__doc__",(.str "__doc__" 436),.none⟩] 4),#[]⟩)::
 (nat_lit 179,⟨(.type "type"),none,(.cls (.mk "Opener" [(.type "object")] [(.ref 179),(.type "object")] 178 "Opener" true [] [] false none false)),#[none,none,(some (.str "Opener" 334)),(some (.str "Opener" 342)),(some (.builtin "object.__new__")),(some (.bool true))]⟩)::
 (nat_lit 180,⟨(.type "getset_descriptor"),none,(.fields #[(.str "__dict__" 432),(.ref 179),(.builtin "function.__dict__"),(.builtin "function.__dict__#set")]),#[]⟩)::
 (nat_lit 181,⟨(.type "getset_descriptor"),none,(.fields #[(.str "__weakref__" 434),(.ref 179),(.builtin "ExceptionGroup.__weakref__"),.none]),#[]⟩)::
 (nat_lit 189,cP 189 "opened" 439 147 1 445)::
 (nat_lit 190,g0 "opened" qKf 189)::
 (nat_lit 194,⟨(.type "code"),none,(.fields #[(.str "slots_read" 450),(.str "slots_read" 451),(.str "/claim/cut.py" 452),(.int 155 0),(.int 1 0),(.int 0 0),(.int 0 0),(.int 3 0),(.ref 191),(.bool true),(.int 181 0),(.ref 192),.none,.none,.none,(.ref 193),(.int 453 0),(.int 155 0),(.str "/claim/cut.py" 454)]),#[]⟩)::
 (nat_lit 195,g1 "slots_read" qVy 194)::
 (nat_lit 199,⟨(.type "code"),none,(.fields #[(.str "leans" 456),(.str "leans" 457),(.str "/claim/cut.py" 458),(.int 165 0),(.int 1 0),(.int 0 0),(.int 0 0),(.int 3 0),(.ref 196),(.bool true),(.int 181 0),(.ref 197),.none,.none,.none,(.ref 198),(.int 459 0),(.int 165 0),(.str "/claim/cut.py" 460)]),#[]⟩)::
 (nat_lit 200,g1 "leans" vV1 199)::
 (nat_lit 204,⟨(.type "code"),none,(.fields #[(.str "seekers" 462),(.str "seekers" 463),(.str "/claim/cut.py" 464),(.int 173 0),(.int 1 0),(.int 0 0),(.int 0 0),(.int 3 0),(.ref 201),(.bool true),(.int 181 0),(.ref 202),.none,.none,.none,(.ref 203),(.int 465 0),(.int 173 0),(.str "/claim/cut.py" 466)]),#[]⟩)::
 (nat_lit 205,g1 "seekers" qXf 204)::
 (nat_lit 209,⟨(.type "code"),none,(.fields #[(.str "wanted_by" 468),(.str "wanted_by" 469),(.str "/claim/cut.py" 470),(.int 176 0),(.int 2 0),(.int 0 0),(.int 0 0),(.int 3 0),(.ref 206),(.bool true),(.int 181 0),(.ref 207),.none,.none,.none,(.ref 208),(.int 471 0),(.int 176 0),(.str "/claim/cut.py" 472)]),#[]⟩)::
 (nat_lit 210,g1 "wanted_by" qZy 209)::
 (nat_lit 216,cP 216 "wanted" 474 183 1 478)::
 (nat_lit 217,g1 "wanted" qKe 216)::
 (nat_lit 221,⟨(.type "code"),none,(.fields #[(.str "left" 481),(.str "left" 482),(.str "/claim/cut.py" 483),(.int 185 0),(.int 1 0),(.int 0 0),(.int 0 0),(.int 3 0),(.ref 218),(.bool true),(.int 181 0),(.ref 219),.none,.none,.none,(.ref 220),(.int 484 0),(.int 185 0),(.str "/claim/cut.py" 485)]),#[]⟩)::
 (nat_lit 222,g1 "left" vWi 221)::
 (nat_lit 226,⟨(.type "code"),none,(.fields #[(.str "_law_parts" 489),(.str "_law_parts" 490),(.str "/claim/cut.py" 491),(.int 188 0),(.int 1 0),(.int 0 0),(.int 0 0),(.int 3 0),(.ref 223),(.bool true),(.int 181 0),(.ref 224),.none,.none,.none,(.ref 225),(.int 492 0),(.int 188 0),(.str "/claim/cut.py" 493)]),#[]⟩)::
 (nat_lit 227,g2 "_law_parts" qZz 226)::
 (nat_lit 231,⟨(.type "code"),none,(.fields #[(.str "_law_count" 495),(.str "_law_count" 496),(.str "/claim/cut.py" 497),(.int 200 0),(.int 1 0),(.int 0 0),(.int 0 0),(.int 3 0),(.ref 228),(.bool true),(.int 181 0),(.ref 229),.none,.none,.none,(.ref 230),(.int 498 0),(.int 200 0),(.str "/claim/cut.py" 499)]),#[]⟩)::
 (nat_lit 232,g2 "_law_count" qZ3 231)::
 (nat_lit 236,⟨(.type "code"),none,(.fields #[(.str "_law_drawn" 501),(.str "_law_drawn" 502),(.str "/claim/cut.py" 503),(.int 204 0),(.int 2 0),(.int 0 0),(.int 0 0),(.int 3 0),(.ref 233),(.bool true),(.int 181 0),(.ref 234),.none,.none,.none,(.ref 235),(.int 504 0),(.int 204 0),(.str "/claim/cut.py" 505)]),#[]⟩)::
 (nat_lit 237,g2 "_law_drawn" qZ2 236)::
 (nat_lit 243,cP 243 "_law_term" 507 212 4 519)::
 (nat_lit 244,g2 "_law_term" qJ4 243)::
 (nat_lit 248,⟨(.type "code"),none,(.fields #[(.str "_law_rows" 522),(.str "_law_rows" 523),(.str "/claim/cut.py" 524),(.int 235 0),(.int 3 0),(.int 0 0),(.int 0 0),(.int 3 0),(.ref 245),(.bool true),(.int 181 0),(.ref 246),.none,.none,.none,(.ref 247),(.int 525 0),(.int 235 0),(.str "/claim/cut.py" 526)]),#[]⟩)::
 (nat_lit 249,g2 "_law_rows" qJ5 248)::
 (nat_lit 255,cP 255 "_law_helpers" 528 254 0 533)::
 (nat_lit 256,g2 "_law_helpers" qQz 255)::
 (nat_lit 262,cP 262 "_law_program" 536 258 2 541)::
 (nat_lit 263,g2 "_law_program" qQy 262)::
 (nat_lit 269,cP 269 "_law_names" 544 260 1 550)::
 (nat_lit 270,g2 "_law_names" qZ0 269)::
 (nat_lit 274,⟨(.type "code"),none,(.fields #[(.str "_law_leans" 553),(.str "_law_leans" 554),(.str "/claim/cut.py" 555),(.int 267 0),(.int 1 0),(.int 0 0),(.int 0 0),(.int 3 0),(.ref 271),(.bool true),(.int 181 0),(.ref 272),.none,.none,.none,(.ref 273),(.int 556 0),(.int 267 0),(.str "/claim/cut.py" 557)]),#[]⟩)::
 (nat_lit 275,g2 "_law_leans" qZ1 274)::
 (nat_lit 281,cP 281 "_law_ends" 559 279 1 566)::
 (nat_lit 282,g2 "_law_ends" qJ6 281)::
 (nat_lit 288,cP 288 "_law_closed" 569 290 2 577)::
 (nat_lit 289,g2 "_law_closed" qVz 288)::
 (nat_lit 295,cP 295 "_law_alike" 580 298 4 587)::
 (nat_lit 296,g2 "_law_alike" qZ4 295)::
 (nat_lit 300,⟨(.type "code"),none,(.fields #[(.str "law" 590),(.str "law" 591),(.str "/claim/cut.py" 592),(.int 302 0),(.int 1 0),(.int 0 0),(.int 0 0),(.int 3 0),(.ref 297),(.bool true),(.int 181 0),(.ref 298),.none,.none,.none,(.ref 299),(.int 593 0),(.int 302 0),(.str "/claim/cut.py" 594)]),#[]⟩)::
 (nat_lit 301,g2 "law" zVh 300):: []
noncomputable def KA:List aX:=[2,3,15,22,23,24,25,28,40,41,42,43,44,47,54,55,56,69,70,71,72,73,74,75,81,82,88,89,95,96,100,101,107,108,112,113,126,127,133,134,140,141,147,148,154,155,161,162,168,169,175,176,177,178,179,180,181,189,190,194,195,199,200,204,205,209,210,216,217,221,222,226,227,231,232,236,237,243,244,248,249,255,256,262,263,269,270,274,275,281,282,288,289,295,296,300,301]
theorem KAs(P:Params):KA=List.map (fun x=>x.fst) (KF P):=by kernel_rfl
noncomputable abbrev pg:aA:=PySem.Challenge.rw_flipwright_k52_left.row.toRowW.prog
noncomputable def vw:aA:={pg with main:={pg.main with body:=pg.main.body.drop 37}}
noncomputable def ev0:Env:={scope:=pg.main.scope,locals:=mainNs,globals:=mainNs,cells:=[],code:=.ref 13,frame:=some 14}
noncomputable def Sa(w:bW)(os:OsState):aY:=match PySem.W.topGo treeTable pg w 11 (some (.ref 6)) 12 ⟨PySem.W.boot_heap w.params,Array.mk [],PySem.W.boot_drawn,PySem.W.boot_toks,os⟩ (PySem.W.topStub pg) with|some r=>r.1|none=>⟨PySem.W.boot_heap w.params,Array.mk [],PySem.W.boot_drawn,PySem.W.boot_toks,os⟩
theorem jZm(w:bW)(os:OsState):PySem.W.topGo treeTable pg w 11 (some (.ref 6)) 12 ⟨PySem.W.boot_heap w.params,Array.mk [],PySem.W.boot_drawn,PySem.W.boot_toks,os⟩ (PySem.W.topStub pg)=
   some (Sa w os,⟨denote treeTable (.body (PySem.W.behindTheImports pg) ev0),.body (PySem.W.behindTheImports pg) ev0,default,[PySem.W.topFrame default]⟩):=by kernel_rfl
theorem zYz(w:bW)(os:OsState):(TH.ofS (Sa w os)).abs =Sa w os:=by kernel_rfl
theorem zWb:blockStart (PySem.W.behindTheImports pg) ev0=.pure ():=by kernel_rfl
theorem zY0(w:bW):((PySem.W.boot_heap w.params).isNs cH,(PySem.W.boot_heap w.params).objs.size,(PySem.W.boot_heap w.params).nsMap cH "__annotations__")=(true,11,some (.ref 6)):=by kernel_rfl
set_option maxHeartbeats 0 in
theorem jZl(w:bW)(os:OsState):TH.vXq pg w 11 (some (.ref 6)) (PySem.W.behindTheImports pg) ev0 (.body (PySem.W.behindTheImports pg) ev0) default default 2212 (TH.ofS (Sa w os)) (TH.zVl pg vw pg.boundNames (fun s=>PySem.W.xlAt vw [] s && PySem.W.recOk (PySem.W.RowW.records (PySem.W.OpenRow.toRowW PySem.Challenge.rw_flipwright_k52_left.row)) s) (PySem.W.Hook.obs (PySem.W.kHook KF KA KAs)) true (PySem.W.boot_heap w.params))=some (true,PySem.W.openGood vw pg.boundNames,PySem.W.Hook.val (PySem.W.kHook KF KA KAs) w):=by kernel_rfl
end X52
namespace L2
open PySem PySem.Spec PyProof.Rows
variable{us:List Value}{H:Hp}{α:Type}{g':Array GenState}{t' i j n:Nat}{d':Drawn}{ch fp:List aX}{it dx C:aX}{N ps:List Str}{M:Model}{A:cQ}{Q:Value->aY->Prop}{X:Cx}{pos:Pos}{pins:List (aX×Obj)}{y:V}{K:aQ}{es:List Expr}{tg:Expr}{te:TE}{g:Int->Int->Int}{body:List Stmt}{kw:List (Str×Value)}{mg:Str->Option Value}{base:Heap}{CX:CXT}{fd:bJ}{sp:Sp}{outer:List Env}{vs:List V}{kindOf:Str->Option NameKind}{qual:Str}{scope:Scope}
noncomputable abbrev Key:=Sum Int Str
noncomputable def qYu:Key->Value->Bool
 |.inl k,v=>Value.isInt k v
 |.inr x,v=>Value.isStrOf x v
noncomputable def keyH(w:bW):Key->Int
 |.inl k=>hashInt k
 |.inr x=>hashStr w x
theorem zJ:∀{k:Key} {v:Value},qYu k v=true->(∃i t,k=Sum.inl i/\v=Value.int i t)\/(∃x t,k=Sum.inr x/\v=Value.str x t)
 | .inl i,v,h=>by
   obtain⟨t,e⟩:=Value.isInt_shape (k:=i) (v:=v) h;exact .inl ⟨i,t,rfl,e⟩
 | .inr x,v,h=>by
   obtain⟨t,e⟩:=Value.isStrOf_shape (x:=x) (v:=v) h;exact .inr ⟨x,t,rfl,e⟩
theorem zQe(i:Int)(t:Tok):qYu (.inl i) (.int i t)=true:=by simp[qYu,Value.isInt]
theorem zQd(x:Str)(t:Tok):qYu (.inr x) (.str x t)=true:=by simp[qYu,Value.isStrOf]
theorem jV7(a b:Int):decide ((Sum.inl a:Key)=Sum.inl b)=(a == b):=by
 grind
theorem jV4(a b:Str):decide ((Sum.inr a:Key)=Sum.inr b)=decide (a=b):=by
 grind
theorem jV6(a:Int)(b:Str):decide ((Sum.inl a:Key)=Sum.inr b)=false:=decide_eq_false (fun q=>nomatch q)
theorem jV5(a:Str)(b:Int):decide ((Sum.inr a:Key)=Sum.inl b)=false:=decide_eq_false (fun q=>nomatch q)
noncomputable def zH(prog:aA)(w:bW):PySem.KeyKind prog w Key where
 is:=qYu;hash:=keyH w;inj:=fun v a b ha hb=>by
  rcases zJ ha with⟨i,t,rfl,rfl⟩|⟨x,t,rfl,rfl⟩
  ·rcases zJ hb with⟨j,u,rfl,e⟩ | ⟨y,u,rfl,e⟩
   ·injection e with e1 _;rw[e1]
   ·exact nomatch e
  ·rcases zJ hb with⟨j,u,rfl,e⟩ | ⟨y,u,rfl,e⟩
   ·exact nomatch e
   ·injection e with e1 _;rw[e1]
 byValue:=fun k v h=>by
  rcases zJ h with⟨i,t,rfl,rfl⟩|⟨x,t,rfl,rfl⟩ <;> rfl
 pyHash:=fun c h=>by
  rcases zJ c with⟨i,t,rfl,rfl⟩|⟨x,t,rfl,rfl⟩
  ·exact wpAny_pyHash_int h
  ·exact wpAny_pyHash_str h
 eqBool:=fun d c h=>by
  rcases zJ d with⟨i,t,rfl,rfl⟩|⟨x,t,rfl,rfl⟩
  ·rcases zJ c with⟨j,u,rfl,rfl⟩ | ⟨y,u,rfl,rfl⟩
   ·rw[jV7]at h;exact wpAny_eqBool_int h
   ·rw[jV6]at h;exact SeqAt.EqAt.int_str i t y u _ _ _ _ h
  ·rcases zJ c with⟨j,u,rfl,rfl⟩ | ⟨y,u,rfl,rfl⟩
   ·rw[jV5]at h;exact SeqAt.EqAt.str_int x t j u _ _ _ _ h
   ·rw[jV4]at h;exact wpAny_eqBool_str h
 «strs»:=fun k x t v h=>by
  rcases zJ h with⟨i,u,rfl,e⟩|⟨y,u,rfl,e⟩
  ·exact nomatch e
  ·injection e with e1 _
   subst e1;cases v <;> rfl
theorem vJ4(prog:aA)(w:bW)(i:Int)(t:Tok):(zH prog w).is (.inl i) (.int i t)=true:=zQe i t
theorem vJ3(prog:aA)(w:bW)(x:Str)(t:Tok):(zH prog w).is (.inr x) (.str x t)=true:=zQd x t
inductive V where
 |non|bl (b:Bool)|int (i:Int)|str (x:Str)|byt (b:Array UInt8)|flt (b:UInt64)|ref (a:aX)|ty (n:String)
 deriving DecidableEq
noncomputable def RelV:V->Value->Prop
 |.non,u=>u=Value.none
 |.bl b,u=>u=Value.bool b
 |.int i,u=>∃t,u=Value.int i t
 |.str x,u=>∃t,u=Value.str x t
 |.byt b,u=>∃t,u=Value.bytes b t
 |.flt b,u=>∃t,u=Value.float b t
 |.ref a,u=>u=Value.ref a
 |.ty n,u=>u=Value.type n
noncomputable abbrev Vals:List V->List Value->Prop:=Paired RelV
theorem Vals.length{xs:List V}(r:Vals xs us):xs.length=us.length:=Paired.length r
theorem Vals.get:∀{xs:List V} {us:List Value} {i:Nat} {x:V},Vals xs us->xs[i]?=some x->∃u,us[i]?=some u/\RelV x u
 |_,_,_,_,.nil,e=>by simp at e
 |_,_,0,_,.cons r _,e=>by simp at e;subst e;exact⟨_,rfl,r⟩
 | _,_,i + 1,x, .cons _ t,e=>by
   obtain⟨u,a,b⟩:=Vals.get (i:=i) (x:=x) t (by simpa using e);exact⟨u,by simpa using a,b⟩
theorem Vals.set{x:V}{u:Value}(r:RelV x u):∀{xs:List V} {us:List Value} (i:Nat),Vals xs us->Vals (xs.set i x) (us.set i u)
 |_,_,_,.nil =>.nil
 |_,_,0,.cons _ t=>.cons r t
 |_,_,i+1,.cons q t=>.cons q (Vals.set r i t)
theorem Vals.append:∀{xs ys:List V} {us ws:List Value},Vals xs us->Vals ys ws->Vals (xs ++ ys) (us ++ ws)
 |_,_,_,_,.nil,s=>s
 |_,_,_,_,.cons r t,s=>.cons r (Vals.append t s)
theorem Vals.take:∀{xs:List V} {us:List Value} (n:Nat),Vals xs us->Vals (xs.take n) (us.take n)
 |_,_,0,_=>.nil
 |_,_,_+1,.nil =>.nil
 |_,_,n+1,.cons r t=>.cons r (Vals.take n t)
theorem Vals.drop:∀{xs:List V} {us:List Value} (n:Nat),Vals xs us->Vals (xs.drop n) (us.drop n)
 |_,_,0,r=>r
 |_,_,_+1,.nil =>.nil
 |_,_,n+1,.cons _ t=>Vals.drop n t
noncomputable def RelO:Option V->Option Value->Prop
 |some v,some u=>RelV v u
 |none,none=>True
 |_,_=>False
noncomputable def KV{κ:Type}:List (κ×V)->List (κ×Value)->Prop:=Paired fun(p:κ×V) (q:κ×Value)=>p.1=q.1/\RelV p.2 q.2
noncomputable def kV:Key->V
 |.inl i=>.int i
 |.inr x=>.str x
inductive HO where
  |lst (xs:List V)
  |tup (xs:List V)
  |dK (kvs:List (Key×V))|dT (kvs:List (List Key×V))
  |set (S:Int->Bool) (n:Nat)
  |ins (C dx:aX) (fs:List (Str×V))
  |own (x:aX)
  |xd (fs:List (Str×V))
  |met (f x:aX)
  |rng (lo hi:Int)
  |frz (o:Obj) (u:HO)
  |tbl (ps:Array Value)
 | tab (l c:Nat) (q:Str)
   |ext (φ:Heap->Prop)
noncomputable abbrev Hp:=aX->Option HO
noncomputable def upd(H:Hp)(a:aX)(o:HO):Hp:=fun b=>if b=a then some o else H b
theorem upd_same{a:aX}{o:HO}:upd H a o a=some o:=by unfold upd;rw[if_pos rfl]
theorem qT{a b:aX}{o:HO}(h:b≠a):upd H a o b=H b:=by unfold upd;rw[if_neg h]
theorem jJx{a b:aX}{o u:HO}(h:H a=some o)(h' :H b=some u)(d:o≠u):a≠b:=by
 intro e;subst e;rw[h]at h';exact d (Option.some.inj h')
theorem zK{a b:aX}{o:HO}(h:H a=some o)(h' :H b=none):a≠b:=by
 grind
noncomputable def TabL(H:Hp)(h:Heap)(a:aX)(l c:Nat)(q:Str)(ps:List Value):Prop:=ps=[]\/∃b d fs t,ps=[rawInt l,rawInt c,.ref b]/\H b=some (.own a)/\h.get? b=some d/\d.data=.fields fs/\fs[1]?=some (.str q t)
section
variable(P:aA)(w:bW)
noncomputable def zW(H:Hp)(h:Heap)(a:aX):HO->Prop
 |.lst d=>d.length<=aS/\∃(b:List Value) (n:Nat),Vals d b/\h.get? a=some {cls:=.type "list",data:=.seq b.toArray n}
 |.tup d=>d.length<=aS/\∃b:List Value,Vals d b/\IsTup h a b.toArray
 |.dK kvs=>kvs.length<=aS/\(a == eZ)=false/\∃g,KV kvs g/\h.DictOf (zH P w) a g
 | .dT kvs=>kvs.length<=aS/\(a == eZ)=false/\∃d:List (List Key×aX×Value),
   Paired (fun(p:List Key×V) (q:List Key×aX×Value)=>p.1=q.1/\H q.2.1=some (.tup (p.1.map kV))/\RelV p.2 q.2.2) kvs d/\
   ∃o i m,h.get? a=some o/\o.ExactDict/\o.data=.dict i m/\i.toList=d.map (entryOfKey (tupleKind (zH P w)))/\(d.map (·.1)).Nodup
 |.set S n=>h.SetOf (intKind P w) a S n
 | .ins C dx fs=>H dx=some (.own a)/\fs.length<=1000/\dx≠a/\h.get? a=some (dR C dx)/\
   ∃mA,h.Ns1 dx mA/\(∀f,RelO (fs.lookup f) (mA f))/\PySem.Within mA (fs.map (·.1))
 |.own _=>∃o,h.get? a=some o
 |.xd fs=>∃mA,h.Ns1 a mA/\∀f,RelO (fs.lookup f) (mA f)
 |.rng lo hi=>∃t u v,h.get? a=some {cls:=.type "range",data:=.fields #[.int lo t,.int hi u,.int 1 v]}
 |.frz o u=>h.get? a=some o/\zW H h a u
 |.tbl e=>h.get? a=some {cls:=.none,data:=.fields e}
 |.tab l c q=>∃e,h.get? a=some {cls:=.none,data:=.fields e}/\TabL H h a l c q e.toList
 |.met f x=>h.get? a=some (PySem.W.methodObj (.ref f) (.ref x))
 |.ext φ=>φ h/\(∃o,h.get? a=some o)/\∀j k:Heap,φ j->(∀o,j.get? a=some o->k.get? a=some o)->φ k
noncomputable def HOk(H:Hp)(h:Heap):Prop:=∀a o,H a=some o->zW P w H h a o
end
section
variable{P:aA}{w:bW}{H H' :Hp}{h h' :Heap}{a:aX}{o:HO}
theorem zW.lt(x:zW P w H h a o):a<h.objs.size:=by
 cases o with
 |lst xs=>obtain⟨_,_,_,_,e⟩:=x;exact aE e
 |tup xs=>obtain⟨_,_,_,p⟩:=x;exact p.lt
 |dK kvs=>obtain⟨_,_,_,_,o,_,_,e,_⟩:=x;exact aE e
 |dT kvs=>obtain⟨_,_,_,_,o,_,_,e,_⟩:=x;exact aE e
 |set S n=>obtain⟨o,_,_,_,e,_⟩:=x;exact aE e
 |ins C dx fs=>obtain⟨_,_,_,e,_⟩:=x;exact aE e
 |own y=>obtain⟨_,e⟩:=x;exact aE e
 |xd fs=>obtain⟨_,⟨_,_,_,e,_⟩,_⟩:=x;exact aE e
 |rng lo hi=>obtain⟨_,_,_,e⟩:=x;exact aE e
 |frz ob u=>obtain⟨e,_⟩:=x;exact aE e
 |tbl ps=>exact aE (show h.get? a=some _ from x)
 |tab l c q=>obtain⟨_,e,_⟩:=x;exact aE e
 |met f y=>exact aE (show h.get? a=some _ from x)
 |ext φ=>obtain⟨_,⟨_,e⟩,_⟩:=x;exact aE e
theorem Paired.mapP{β:Type}{F G:α->β->Prop}:∀{l₁:List α} {l₂:List β},Paired F l₁ l₂->(∀a b,F a b->G a b)->Paired G l₁ l₂
 |_,_,.nil,_=>.nil
 |_,_,.cons r t,f=>.cons (f _ _ r) (Paired.mapP t f)
theorem zW.stay(x:zW P w H h a o)(k:∀b u,(b=a\/H b=some (.own a))->h.get? b=some u->h'.get? b=some u)(B:∀b,H b=some (.own a)->H' b=some (.own a))(F:∀b xs,H b=some (.tup xs)->H' b=some (.tup xs)):zW P w H' h' a o:=by
 induction o with
 |lst xs=>obtain⟨z,m,n,r,e⟩:=x;exact⟨z,m,n,r,k _ _ (.inl rfl) e⟩
 |tup xs=>obtain⟨z,m,r,g,e,c⟩:=x;exact⟨z,m,r,g,k _ _ (.inl rfl) e,c⟩
 |dK kvs=>obtain⟨z,y,G,r,g,i,j,e,c⟩:=x;exact⟨z,y,G,r,g,i,j,k _ _ (.inl rfl) e,c⟩
 | dT kvs=>
   obtain⟨z,y,xs,r,g,i,j,e,c⟩:=x;exact⟨z,y,xs,Paired.mapP r fun p q z=>⟨z.1,F _ _ z.2.1,z.2.2⟩,g,i,j,k _ _ (.inl rfl) e,c⟩
 |set S n=>obtain⟨g,i,j,t,e,c⟩:=x;exact⟨g,i,j,t,k _ _ (.inl rfl) e,c⟩
 | ins C dx fs=>
   obtain⟨d,z,ne,e,mA,⟨A,i,j,I,c⟩,r⟩:=x;exact⟨B _ d,z,ne,k _ _ (.inl rfl) e,mA,⟨A,i,j,k _ _ (.inr d) I,c⟩,r⟩
 |own y=>obtain⟨g,e⟩:=x;exact⟨g,k _ _ (.inl rfl) e⟩
 |xd fs=>obtain⟨mA,⟨A,i,j,e,c⟩,r⟩:=x;exact⟨mA,⟨A,i,j,k _ _ (.inl rfl) e,c⟩,r⟩
 |rng lo hi=>obtain⟨t,u,v,e⟩:=x;exact⟨t,u,v,k _ _ (.inl rfl) e⟩
 |frz g u ih=>obtain⟨e,q⟩:=x;exact⟨k _ _ (.inl rfl) e,ih q⟩
 | tbl s=>
   have e:h.get? a=some {cls:=.none,data:=.fields s}:=x;show h'.get? a=some {cls:=.none,data:=.fields s};exact k a _ (.inl rfl) e
 | tab l c q=>
   obtain⟨s,e,t⟩:=x;refine⟨s,k a _ (.inl rfl) e,?_⟩;rcases t with t|⟨c,D,fs,J,K,E,L,M⟩
   ·exact .inl t
   ·exact .inr ⟨c,D,fs,J,K,B c E,k c D (.inr E) L,M⟩
 | met f y=>
   have e:h.get? a=some (PySem.W.methodObj (.ref f) (.ref y)):=x;show h'.get? a=some (PySem.W.methodObj (.ref f) (.ref y));exact k a _ (.inl rfl) e
 |ext φ=>obtain⟨p,⟨o,e⟩,st⟩:=x;exact⟨st _ _ p fun o q=>k _ _ (.inl rfl) q,⟨o,k _ _ (.inl rfl) e⟩,st⟩
theorem HOk.lt(x:HOk P w H h)(e:H a=some o):a<h.objs.size:=(x a o e).lt
theorem HOk.fresh(x:HOk P w H h)(e:h.objs.size<=a):H a=none:=by
 cases q:H a with
 |none=>rfl
 |some u=>exact absurd (aT (x.lt q) e) (bR _)
theorem HOk.kept(x:HOk P w H h)(k:∀b u,h.get? b=some u->h'.get? b=some u):HOk P w H h' :=fun a o e=>
 (x a o e).stay (fun b u _ q=>k b u q) (fun _ q=>q) fun _ _ q=>q
theorem HOk.laid(x:HOk P w H h)(k:∀b u,h.get? b=some u->h'.get? b=some u)(f:h.objs.size<=a)(new:zW P w (upd H a o) h' a o):HOk P w (upd H a o) h' :=fun b u e=>by
 have d:=x.fresh f;by_cases hb:b=a
 ·subst hb;rw[upd_same]at e;cases e;exact new
 ·rw [qT hb] at e;exact(x b u e).stay (fun c v _ q=>k c v q) (fun c q=>by rw[qT (zK q d)];exact q) fun c g q=>by rw[qT (zK q d)];exact q
end
noncomputable def Rd(H:Hp)(a:aX)(u:HO):Prop:=H a=some u\/∃o,H a=some (.frz o u)
theorem Rd.ok{P:aA}{w:bW}{h:Heap}{a:aX}{u:HO}(r:Rd H a u)(x:HOk P w H h):zW P w H h a u:=by
 rcases r with r|⟨o,r⟩
 ·exact x a u r
 ·obtain⟨_,q⟩:=x a _ r;exact q
noncomputable def Mut:Option HO->Prop
 |some (.lst _)=>True
 |some (.dK _)=>True
 |some (.dT _)=>True
 |some (.set _ _)=>True
 |some (.ins _ _ _)=>True
 |some (.ext _)=>True
 |_=>False
section
variable{P:aA}{w:bW}{H:Hp}{h h' :Heap}{x e:aX}{o' :HO}
theorem HOk.write(ok:HOk P w H h)(g:Mut (H x))(l:e=x\/H e=some (.own x))(k:∀b u,b≠e->h.get? b=some u->h'.get? b=some u)(j:∃u,h'.get? e=some u)(new:zW P w (upd H x o') h' x o'):HOk P w (upd H x o') h' :=fun b u q=>by
 have d:∀c y,H c=some (.own y)->c≠x:=fun c y r z=>by subst z;rw[r]at g;exact g
 have f:∀c i,H c=some (.tup i)->c≠x:=fun c i r z=>by subst z;rw[r]at g;exact g
 by_cases hb:b=x
 ·subst hb;rw[upd_same]at q;cases q;exact new
 ·rw [qT hb] at q;by_cases a:b=e
  ·have m :H b=some (.own x):=by
    rcases l with z|z
    ·exact absurd (a.trans z) hb
    ·rw[a];exact z
   rw[q]at m;cases m;obtain⟨v,n⟩:=j;exact⟨v,by rw[a];exact n⟩
  ·refine(ok b u q).stay (fun c v hc r=>k c v ?_ r) (fun c r=>by rw [qT (d c b r)];exact r) fun c i r=>by rw [qT (f c i r)];exact r
   rcases hc with rfl|hc
   ·exact a
   ·rintro rfl;rcases l with z|z
    ·exact d c b hc z
    ·rw[hc]at z;cases z;exact hb rfl
end
structure Un(fs ex:List aX)(H H' :Hp)(h h' :Heap):Prop where
 keep:∀b o,h.get? b=some o->H b=none->b∉fs->b∉ex->h'.get? b=some o
 slot:∀b o,h.get? b=some o->H b=none->b∈fs->b∉ex->∃sl,h'.get? b=some {o with slots:=sl}
 free:∀b o,h.get? b=some o->H b=none->b∉ex->H' b=none
 there:∀b o,h.get? b=some o->b∉ex->∃o',h'.get? b=some o'
 tups:∀b xs,H b=some (.tup xs)->H' b=some (.tup xs)
 frzs:∀b o u,H b=some (.frz o u)->H' b=some (.frz o u)
 tbls:∀b ps,H b=some (.tbl ps)->∃more,H' b=some (.tbl (ps ++ more))
section
variable{fs fs' ex ex' :List aX}{H H1 H2:Hp}{h h1 h2 h' :Heap}{a x e:aX}{o:HO}
theorem Un.any(u:Un fs ex H H1 h h1){b:aX}{a:Obj}(q:h.get? b=some a)(n:H b=none)(c:b∉ex):∃sl,h1.get? b=some {a with slots:=sl}:=by
 by_cases hb:b∈fs
 ·exact u.slot b a q n hb c
 ·exact⟨a.slots,u.keep b a q n hb c⟩
theorem Un.kept(k:∀b u,h.get? b=some u->h'.get? b=some u):Un fs ex H H h h' :=
 ⟨fun b a q _ _ _=>k b a q,fun b a q _ _ _=>⟨a.slots,k b a q⟩,fun _ _ _ n _=>n,fun b a q _=>⟨a,k b a q⟩,fun _ _ q=>q,fun _ _ _ q=>q,fun _ c q=>⟨#[],by rw[q];simp⟩⟩
theorem Un.refl:Un fs ex H H h h:=Un.kept fun _ _ q=>q
theorem Un.laid(k:∀b u,h.get? b=some u->h'.get? b=some u)(d:h.objs.size<=a)(c:H a=none):Un fs ex H (upd H a o) h h' where
 keep:=fun b u q _ _ _=>k b u q
 slot:=fun b u q _ _ _=>⟨u.slots,k b u q⟩
 free:=fun b u q n _=>by rw[qT (bQ (aT (aE q) d))];exact n
 there:=fun b u q _=>⟨u,k b u q⟩
 tups:=fun b e q=>by rw[qT (zK q c)];exact q
 frzs:=fun b u e q=>by rw[qT (zK q c)];exact q
 tbls:=fun b f q=>⟨#[],by rw[qT (zK q c),q];simp⟩
theorem Un.write(a:Mut (H x))(j:e=x\/H e=some (.own x))(k:∀b u,b≠e->h.get? b=some u->h'.get? b=some u)(d:∃u,h'.get? e=some u):Un fs ex H (upd H x o) h h' :=by
 have f:∀b,H b=none->b≠x:=fun b n z=>by subst z;rw[n]at a;exact a
 have hb:∀b,H b=none->b≠e:=fun b n z=>by
  grind
 have c:∀b u,H b=some u->¬Mut (some u)->b≠x:=fun b u q g z=>by subst z;rw[q]at a;exact g a
 refine⟨fun b u q n _ _=>k b u (hb b n) q,fun b u q n _ _=>⟨u.slots,k b u (hb b n) q⟩,fun b u q n _=>by rw[qT (f b n)];exact n,fun b u q _=>?_,
  fun b i q=>by rw[qT (c b _ q fun z=>z)];exact q,fun b u i q=>by rw[qT (c b _ q fun z=>z)];exact q,fun b l q=>⟨#[],by rw[qT (c b _ q fun z=>z),q];simp⟩⟩
 grind
end
noncomputable def trk(h:Heap)(H:Hp):List aX:=(List.range h.objs.size).filter fun a=>(H a).isSome
noncomputable def hidT(h:Heap)(H:Hp):Heap:=PySem.W.hideAll h (trk h H)
theorem zQi(h:Heap)(H:Hp):(hidT h H).objs.size=h.objs.size:=PySem.W.hideAll_size _ _
theorem zJ9{h:Heap}{b:aX}{o:Obj}(e:h.get? b=some o)(n:H b=none):(hidT h H).get? b=some o:=
 PySem.W.hideAll_get _ e fun a=>by
  have q:(H b).isSome =true:=(List.mem_filter.mp a).2;grind
theorem zYj{h:Heap}{b:aX}{o:Obj}(e:(hidT h H).get? b=some o):h.get? b=some o/\H b=none:=by
 have a :h.get? b=some o:=PySem.W.of_hideAll (trk h H) e;refine⟨a,?_⟩;cases q:H b with
 |none=>rfl
 | some x=>
   have c:b∈trk h H:=List.mem_filter.mpr ⟨dL.mpr (aE a),by simp[q]⟩;have z:(hidT h H).get? b=none:=PySem.W.hideAll_none (trk h H) c;grind
structure Mod(K:aQ)(mg:Str->Option Value)(base:Heap):Prop where
 kin:K.In base
 glob:base.Ns cH mg
 blt:∃mb,base.Ns builtinsNs mb/\∀x:Str,x≠"__name__"->mb x=cR x
 nolimit:base.NoLimit
structure Cx where
 prog:aA
 w:bW
 K:aQ
 mg:Str->Option Value
 base:Heap
 A:cQ
 N:List Str
 s₀:aY
 H₀:Hp
 env:Env
 outer:List Env
 stack:List Env
 ex:List aX
 fn:Str->Bool
 calm:Bool
 pn:List (aX×Obj)
 xe:Value->aY->Prop
noncomputable def frs(l:List Env):List aX:=l.filterMap (·.frame)
noncomputable abbrev Cx.fs(X:Cx):List aX:=frs X.outer
noncomputable def Vis(sc:Scope)(x:Str):Prop:=sc.names.lookup x=some .local \/sc.names.lookup x=some .cell \/sc.names.lookup x=some .free
noncomputable def Loc(sc:Scope)(x:Str):Prop:=sc.names.lookup x=some .local \/sc.names.lookup x=some .cell
noncomputable def Look(env:Env)(h:Heap)(m:Str->Option Value)(x:Str)(u:Value):Prop:=
 (env.kindOf x=some .local /\m x=some u)\/((env.kindOf x=some .cell \/env.kindOf x=some .free)/\∃c,env.cells.lookup x=some c/\h.IsCell c (some u))
structure Cx.Ok(X:Cx):Prop where
 mod:Mod X.K X.mg X.base
 kind:X.env.scope.kind=.function
 glob:X.env.globals=cH
 blt:X.env.builtins=builtinsNs
 above:X.s₀.heap.objs.size<=X.env.locals
 inj:∀x y c,X.env.cells.lookup x=some c->X.env.cells.lookup y=some c->x=y
 has:∀x,(X.env.kindOf x=some .cell \/X.env.kindOf x=some .free)->∃c,X.env.cells.lookup x=some c
 cab:∀x c,X.fn x=true->X.env.cells.lookup x=some c->X.s₀.heap.objs.size<=c
 hd:X.calm=true->X.A.handled=none
 frames:X.A.frames=some X.stack
 stk:X.stack=X.outer\/(X.stack=X.env::X.outer/\X.env.frame=some X.env.locals)
 exf:∀b∈X.ex,b≠X.env.locals/\∀x c,X.env.cells.lookup x=some c->c≠b
 bs:∀b o,X.base.get? b=some o->X.s₀.heap.get? b=some o/\X.H₀ b=none
 bsz:X.base.objs.size<=X.s₀.heap.objs.size
 noex:∀b o,X.base.get? b=some o->b∉X.ex
 exfs:∀b∈X.ex,b∉X.fs
 funs:X.s₀.heap.FunFrames X.base X.outer
 frf:∀b∈X.fs,X.H₀ b=none
structure Inv(X:Cx)(pins:List (aX×Obj))(σ:List (Option V))(H:Hp)(s:aY):Prop where
 ok:X.Ok
 os:s.os=X.s₀.os
 bare:AllBare s.gens
 base:Un X.fs X.ex X.H₀ H X.s₀.heap s.heap
 loc:∃m,s.heap.Ns X.env.locals m/\∀(i:Nat) (x:Str) (v:V),X.N[i]?=some x->σ[i]?=some (some v)->Vis X.env.scope x->∃u,RelV v u/\Look X.env s.heap m x u
 cell:∀x c,X.env.cells.lookup x=some c->∃v,s.heap.IsCell c v
 free:H X.env.locals=none
 freeC:∀x c,X.env.cells.lookup x=some c->H c=none
 pin:∀p∈X.pn ++ pins,s.heap.get? p.1=some p.2/\H p.1=none/\p.1≠X.env.locals/\p.1∉X.fs/\∀v,p.2.data≠ .cell v
 hok:HOk X.prog X.w H s.heap
 len:σ.length=X.N.length
section
variable{X:Cx}{pins:List (aX×Obj)}{σ:List (Option V)}{H H' :Hp}{s:aY}{h' :Heap}
theorem Cx.Ok.nofr(ok:X.Ok){b:aX}{o:Obj}(e:X.base.get? b=some o):b∉X.fs:=fun hb=>by
 have:=(ok.funs.mem hb).1;grind
theorem Inv.bs(I:Inv X pins σ H s):∀b o,X.base.get? b=some o->s.heap.get? b=some o/\H b=none:=fun b o e=>
 ⟨I.base.keep b o (I.ok.bs b o e).1 (I.ok.bs b o e).2 (I.ok.nofr e) (I.ok.noex b o e),I.base.free b o (I.ok.bs b o e).1 (I.ok.bs b o e).2 (I.ok.noex b o e)⟩
theorem Inv.bk(I:Inv X pins σ H s):∀b o,X.base.get? b=some o->s.heap.get? b=some o:=fun b o e=>(I.bs b o e).1
theorem Inv.mod(I:Inv X pins σ H s):Mod X.K X.mg X.base:=I.ok.mod
theorem Inv.kIn(I:Inv X pins σ H s):X.K.In s.heap:=I.ok.mod.kin.keeps I.bk
theorem Inv.lt(I:Inv X pins σ H s):X.env.locals<s.heap.objs.size:=let ⟨_,hn,_⟩:=I.loc;hn.lt
theorem Inv.sz(I:Inv X pins σ H s):X.s₀.heap.objs.size<=s.heap.objs.size:=aR I.ok.above (dH I.lt)
theorem Inv.nofs(I:Inv X pins σ H s){a:aX}(h:s.heap.objs.size<=a):a∉X.fs:=fun hb=>by
 obtain⟨_,o,b,_⟩:=I.ok.funs.mem hb;exact absurd (aT (aE b) (aR I.sz h)) (bR _)
theorem Inv.cne(I:Inv X pins σ H s):∀x c,X.env.cells.lookup x=some c->c≠X.env.locals:=fun x c e z=>by
 obtain⟨v,o,d,f⟩:=I.cell x c e;obtain⟨m,⟨g,h,i,a,b,_⟩,_⟩:=I.loc;grind
theorem Inv.funs(I:Inv X pins σ H s):s.heap.FunFrames X.base X.outer:=by
 have all:∀(l:List Env),(∀b∈frs l,b∈X.fs)->X.s₀.heap.FunFrames X.base l->s.heap.FunFrames X.base l:=by
  intro l;induction l with
  |nil=>intro _ _;trivial
  | cons env r ih=>
    intro hs d;obtain⟨f,⟨L,o,a,g,h,i⟩,j⟩:=d;have c:L∈X.fs:=hs L (by unfold frs;rw[cM,a];exact dM);obtain⟨sl,e⟩:=I.base.slot L o h (I.ok.frf L c) c fun z=>I.ok.exfs L z c
    exact⟨f,⟨L,_,a,g,e,i⟩,ih (fun b hb=>hs b (by unfold frs;rw[cM,a];exact aI _ hb)) j⟩
 exact all X.outer (fun _ hb=>hb) I.ok.funs
theorem Inv.stack(I:Inv X pins σ H s):s.heap.FunFrames X.base X.stack:=by
 rcases I.ok.stk with e|⟨e,a⟩
 ·rw[e];exact I.funs
 ·rw [e];obtain⟨m,b,_⟩:=I.loc;refine .cons (by rw[I.ok.kind];decide) a b ?_ I.funs;exact Heap.get?_none_of_le (aR I.ok.bsz I.ok.above)
theorem Inv.stkSub(I:Inv X pins σ H s):∀b∈frs X.stack,b∈X.env.locals::X.fs:=fun b hb=>by
 rcases I.ok.stk with e|⟨e,a⟩
 ·grind
 ·rw [e] at hb;unfold frs at hb;rw[cM,a]at hb;exact hb
theorem Inv.stkFree(I:Inv X pins σ H s):∀b∈frs X.stack,H b=none:=fun b hb=>by
 rcases aG.mp (I.stkSub b hb) with e|hb
 ·rw[e];exact I.free
 ·obtain⟨_,o,a,_⟩:=I.ok.funs.mem hb;exact I.base.free b o a (I.ok.frf b hb) fun z=>I.ok.exfs b z hb
theorem Inv.step(I:Inv X pins σ H s)(g:∀b∈ch,(b∈X.ex\/X.s₀.heap.objs.size<=b)/\b≠X.env.locals/\(∀x c,X.env.cells.lookup x=some c->c≠b)/\∀p∈X.pn ++ pins,p.1≠b)(keep:∀b o,b≠X.env.locals->b∉X.fs->b∉ch->s.heap.get? b=some o->H b=none->h'.get? b=some o)(A:∀b o,b≠X.env.locals->b∈X.fs->b∉ch->s.heap.get? b=some o->H b=none->∃sl,h'.get? b=some {o with slots:=sl})(f:∀b o,b∉ch->s.heap.get? b=some o->H b=none->H' b=none)(B:∀b o,b∉ch->s.heap.get? b=some o->∃o',h'.get? b=some o')(D:∀b xs,H b=some (.tup xs)->H' b=some (.tup xs))(E:∀b o u,H b=some (.frz o u)->H' b=some (.frz o u))(F:∀b ps,H b=some (.tbl ps)->∃more,H' b=some (.tbl (ps ++ more)))(ns:∀m,s.heap.Ns X.env.locals m->h'.Ns X.env.locals m)(K:HOk X.prog X.w H' h')(Q:AllBare g'):
  Inv X pins σ H' {s with heap:=h',gens:=g',drawn:=d',toks:=t' }:=by
 have G:∀b o,X.s₀.heap.get? b=some o->b≠X.env.locals:=fun b o e=>bQ (aT (aE e) I.ok.above)
 have t:∀b o,X.s₀.heap.get? b=some o->b∉X.ex->b∉ch:=fun b o e a hb=>by
  rcases(g b hb).1 with z|z
  ·exact a z
  ·exact absurd (aT (aE e) z) (bR _)
 have h:∀x c,X.env.cells.lookup x=some c->∀v,s.heap.IsCell c v->h'.IsCell c v:=fun x c e v ⟨o,C,L⟩=>by
  have j:c∉ch:=fun z=>(g c z).2.2.1 x c e rfl
  by_cases N:c∈X.fs
  ·obtain⟨sl,q⟩:=A c o (I.cne x c e) N j C (I.freeC x c e);exact⟨_,q,L⟩
  ·exact⟨o,keep c o (I.cne x c e) N j C (I.freeC x c e),L⟩
 refine⟨I.ok,I.os,Q,⟨fun b o e n hb a=>?_,fun b o e n hb a=>?_,fun b o e n a=>?_,fun b o e a=>?_,fun b xs e=>D b xs (I.base.tups b xs e),fun b o xs e=>E b o xs (I.base.frzs b o xs e),fun b ps e=>?_⟩,?_,fun x c e=>?_,?_,fun x c e=>?_,fun p O=>?_,K,I.len⟩
 ·exact keep b o (G b o e) hb (t b o e a) (I.base.keep b o e n hb a) (I.base.free b o e n a)
 ·obtain⟨sl,y⟩:=I.base.slot b o e n hb a;obtain⟨M,J⟩:=A b _ (G b o e) hb (t b o e a) y (I.base.free b o e n a);exact⟨M,J⟩
 ·obtain⟨o',y⟩:=I.base.there b o e a;exact f b o' (t b o e a) y (I.base.free b o e n a)
 ·obtain⟨o',y⟩:=I.base.there b o e a;exact B b o' (t b o e a) y
 ·obtain⟨R,y⟩:=I.base.tbls b ps e;obtain⟨S,J⟩:=F b _ y;exact⟨R ++ S,by rw[J,Array.append_assoc]⟩
 ·obtain⟨m,T,U⟩:=I.loc;refine⟨m,ns m T,fun i x v y J V=>?_⟩;obtain⟨u,r,l⟩:=U i x v y J V;refine⟨u,r,?_⟩;rcases l with l|⟨k,c,e,z⟩
  ·exact .inl l
  ·exact .inr ⟨k,c,e,h x c e _ z⟩
 ·obtain⟨v,z⟩:=I.cell x c e;exact⟨v,h x c e v z⟩
 ·obtain⟨m,⟨o,_,_,C,_⟩,_⟩:=I.loc;exact f _ o (fun z=>(g _ z).2.1 rfl) C I.free
 ·obtain⟨v,o,C,L⟩:=I.cell x c e;exact f c o (fun z=>(g c z).2.2.1 x c e rfl) C (I.freeC x c e)
 ·obtain⟨e,n,ne,P,d⟩:=I.pin p O;have j:p.1∉ch:=fun z=>(g p.1 z).2.2.2 p O rfl
  exact⟨keep p.1 p.2 ne P j e n,f p.1 p.2 j e n,ne,P,d⟩
theorem Inv.un(I:Inv X pins σ H s)(u:Un X.fs [] H H' s.heap h')(c:HOk X.prog X.w H' h'):Inv X pins σ H' {s with heap:=h',toks:=t' }:=by
 obtain⟨m,⟨o,k,l,g,r⟩,_⟩:=id I.loc;obtain⟨sl,h⟩:=u.any g I.free (by simp);exact I.step (g' :=s.gens) (d' :=s.drawn) (ch:=[]) (fun _ z=>nomatch z) (fun b o _ hb _ e n=>u.keep b o e n hb (by simp)) (fun b o _ hb _ e n=>u.slot b o e n hb (by simp)) (fun b o _ e n=>u.free b o e n (by simp)) (fun b o _ e=>u.there b o e (by simp)) u.tups u.frzs u.tbls (fun p i=>by
  obtain⟨q,d,f,a,j⟩:=i;rw[g]at a;cases a;exact⟨_,d,f,h,j⟩) c I.bare
theorem Inv.call(I:Inv X pins σ H s)(u:Un (frs X.stack) ch H H' s.heap h')(g:HOk X.prog X.w H' h')(l:AllBare g')(d:∀b∈ch,(b∈X.ex\/X.s₀.heap.objs.size<=b)/\b≠X.env.locals/\(∀x c,X.env.cells.lookup x=some c->c≠b)/\∀p∈X.pn ++ pins,p.1≠b):
  Inv X pins σ H' {s with heap:=h',gens:=g',drawn:=d',toks:=t' }:=by
 obtain⟨m,⟨o,v,y,k,r⟩,_⟩:=id I.loc;obtain⟨sl,h⟩:=u.any k I.free fun z=>(d _ z).2.1 rfl
 exact I.step (ch:=ch) d (fun b o h hb a e n=>u.keep b o e n (fun z=>(aG.mp (I.stkSub b z)).elim h hb) a) (fun b o _ _ a e n=>u.any e n a) (fun b o a e n=>u.free b o e n a) (fun b o a e=>u.there b o e a) u.tups u.frzs u.tbls (fun A q=>by
  obtain⟨B,i,j,f,t⟩:=q;rw[k]at f;cases f;exact⟨_,i,j,h,t⟩) g l
theorem Inv.turned(I:Inv X pins σ H s)(k:∀b o,b≠it->s.heap.get? b=some o->h'.get? b=some o)(g:H it=none)(f:it≠X.env.locals)(h1:it∈X.ex\/X.s₀.heap.objs.size<=it)(h2:∀x c,X.env.cells.lookup x=some c->c≠it)(h:∀p∈X.pn ++ pins,p.1≠it):Inv X pins σ H {s with heap:=h',toks:=t' }:=by
 have d:∀b u,H b=some u->b≠it:=fun b u e z=>by rw[z,g]at e;cases e
 refine I.step (g' :=s.gens) (d' :=s.drawn) (ch:=[it]) (fun b hb=>?_) (fun b o _ _ a e _=>k b o (fun z=>a (by simp[z])) e) (fun b o _ _ a e _=>⟨o.slots,k b o (fun z=>a (by simp[z])) e⟩) (fun _ _ _ _ n=>n)
  (fun b o a e=>⟨o,k b o (fun z=>a (by simp[z])) e⟩) (fun _ _ e=>e) (fun _ _ _ e=>e) (fun b w e=>⟨#[],by rw[e];simp⟩) (fun m i=>?_) (fun b u e=>?_) I.bare
 ·have e:b=it:=by simpa using hb
  subst e;exact⟨h1,f,h2,h⟩
 ·obtain⟨o,j,l,t,r⟩:=i;exact⟨o,j,l,k _ o (Ne.symm f) t,r⟩
 ·refine(I.hok b u e).stay (fun c v a q=>k c v ?_ q) (fun _ q=>q) fun _ _ q=>q
  rcases a with z|z
  ·rw[z];exact d b u e
  ·exact d c _ z
theorem Inv.tok(I:Inv X pins σ H s)(t:Nat):Inv X pins σ H {s with toks:=t}:=I.un (h' :=s.heap) (t' :=t) Un.refl I.hok
theorem Inv.kept(I:Inv X pins σ H s)(k:∀b u,s.heap.get? b=some u->h'.get? b=some u):Inv X pins σ H {s with heap:=h',toks:=t' }:=I.un (Un.kept k) (I.hok.kept k)
theorem Inv.laid{a:aX}{o:HO}(I:Inv X pins σ H s)(k:∀b u,s.heap.get? b=some u->h'.get? b=some u)(c:s.heap.objs.size<=a)(new:zW X.prog X.w (upd H a o) h' a o):
  Inv X pins σ (upd H a o) {s with heap:=h',toks:=t' }:=I.un (Un.laid k c (I.hok.fresh c)) (I.hok.laid k c new)
theorem Inv.write{x e:aX}{o:HO}(I:Inv X pins σ H s)(c:Mut (H x))(d:e=x\/H e=some (.own x))(k:∀b u,b≠e->s.heap.get? b=some u->h'.get? b=some u)(a:∃u,h'.get? e=some u)(new:zW X.prog X.w (upd H x o) h' x o):Inv X pins σ (upd H x o) {s with heap:=h',toks:=t' }:=I.un (Un.write c d k a) (I.hok.write c d k a new)
theorem Inv.pins_of{a :List (aX×Obj)}(I:Inv X pins σ H s)(h:∀p∈a,s.heap.get? p.1=some p.2/\H p.1=none/\p.1≠X.env.locals/\p.1∉X.fs/\∀v,p.2.data≠ .cell v):Inv X a σ H s:=
 ⟨I.ok,I.os,I.bare,I.base,I.loc,I.cell,I.free,I.freeC,fun p b=>(cN.mp b).elim (fun z=>I.pin p (List.mem_append_left _ z)) (h p),I.hok,I.len⟩
theorem vJp(c:N.Nodup){x:Str}(a:N[i]?=some x)(b:N[j]?=some x):i=j:=by
 obtain⟨f,d⟩:=aM.mp a;obtain⟨g,e⟩:=aM.mp b;exact(List.getElem_inj c).mp (d.trans e.symm)
theorem vKo{E:Value->aY->Prop}{x:Str}{v:V}{u:Value}{Q:Unit->aY->Prop}(I:Inv X pins σ H s)(hN:X.N.Nodup)(G:X.N[i]?=some x)(l:Loc X.env.scope x)(r:RelV v u)(h:∀s',Inv X pins (σ.set i (some v)) H s' ->(∃a,eX a s.heap s'.heap/\(a=X.env.locals\/X.env.cells.lookup x=some a))->Q () s')(hf:X.fn x=true\/X.env.scope.names.lookup x=some .local :=by first|exact .inl rfl|exact .inr rfl|assumption):aH M A (storeName X.env x u) Q E s:=by
 obtain⟨m,T,hl⟩:=id I.loc;have J:(X.env.scope.kind ==.class || (X.env.scope.kind ==.module && X.env.locals != X.env.globals))=false:=by rw[I.ok.kind];rfl
 have hiσ:i < σ.length:=by rw[I.len];exact(aM.mp G).1
 have cne:=I.cne;have f:∀{a:aX} {F :Heap},(∃o,s.heap.get? a=some o/\H a=none)->eX a s.heap F ->HOk X.prog X.w H F :=fun {a F} ha hs b ob e=>by
  obtain⟨_,_,t⟩:=ha;refine(I.hok b ob e).stay (fun c R hc q=>(hs.2 c ?_).trans q) (fun _ q=>q) fun _ _ q=>q
  rintro rfl;rcases hc with rfl|hc
  ·rw[t]at e;cases e
  ·rw[t]at hc;cases hc
 rcases l with hk|hk
 ·refine wpAny_storeName_local hk T (fun F U hs=>?_) J;obtain⟨oL,_,_,W,_⟩:=id T;refine h _ ⟨I.ok,I.os,I.bare,⟨fun b o e n hb l=>?_,fun b o e n hb l=>?_,I.base.free,fun b o e l=>?_,I.base.tups,I.base.frzs,I.base.tbls⟩,⟨_,U,fun j y Y g B Z=>?_⟩,fun y c e=>?_,I.free,I.freeC,fun p hp=>?_,f ⟨oL,W,I.free⟩ hs,by simpa using I.len⟩ ⟨_,hs,.inl rfl⟩
  ·exact(hs.2 b (bQ (aT (aE e) I.ok.above))).trans (I.base.keep b o e n hb l)
  ·obtain⟨sl,g⟩:=I.base.slot b o e n hb l;exact⟨sl,(hs.2 b (bQ (aT (aE e) I.ok.above))).trans g⟩
  ·obtain⟨o',g⟩:=I.base.there b o e l;exact⟨o',(hs.2 b (bQ (aT (aE e) I.ok.above))).trans g⟩
  ·by_cases C:j=i
   ·subst C;rw[G]at g;cases g;rw[List.getElem?_set_self hiσ]at B;cases B;exact⟨u,r,.inl ⟨hk,by simp⟩⟩
   ·rw [cC (Ne.symm C)] at B;obtain⟨u',r',q⟩:=hl j y Y g B Z;refine⟨u',r',?_⟩;rcases q with⟨k,e⟩|⟨k,c,e,z⟩
    ·refine .inl ⟨k,?_⟩;have:y≠x:=fun e=>C (vJp hN g (e▸G))
     simp[this,e]
    ·exact .inr ⟨k,c,e,z.sameBut hs (cne y c e)⟩
  ·obtain⟨R,z⟩:=I.cell y c e;exact⟨R,z.sameBut hs (cne y c e)⟩
  ·obtain⟨e,n,ne,nf,d⟩:=I.pin p hp;exact⟨(hs.2 p.1 ne).trans e,n,ne,nf,d⟩
 ·have D:X.fn x=true:=by
   rcases hf with z|z
   ·exact z
   ·rw[z]at hk;cases hk
  obtain⟨c,hc⟩:=I.ok.has x (.inl hk);obtain⟨R,z⟩:=I.cell x c hc;refine wpAny_storeName_cell I.ok.kind hk hc z (fun F K hs=>?_);obtain⟨oc,L,O⟩:=id z;refine h {s with heap:=F } ⟨I.ok,I.os,I.bare,⟨fun b o e n hb l=>?_,fun b o e n hb l=>?_,I.base.free,fun b o e l=>?_,I.base.tups,I.base.frzs,I.base.tbls⟩,⟨m,T.sameBut hs (Ne.symm (cne x c hc)),fun j y Y g B Z=>?_⟩,fun y S e=>?_,I.free,I.freeC,fun p hp=>?_,f ⟨oc,L,I.freeC x c hc⟩ hs,by simpa using I.len⟩ ⟨c,hs,.inr hc⟩
  ·exact(hs.2 b (bQ (aT (aE e) (I.ok.cab x c D hc)))).trans (I.base.keep b o e n hb l)
  ·obtain⟨sl,g⟩:=I.base.slot b o e n hb l;exact⟨sl,(hs.2 b (bQ (aT (aE e) (I.ok.cab x c D hc)))).trans g⟩
  ·obtain⟨o',g⟩:=I.base.there b o e l;exact⟨o',(hs.2 b (bQ (aT (aE e) (I.ok.cab x c D hc)))).trans g⟩
  ·by_cases C:j=i
   ·subst C;rw[G]at g;cases g;rw[List.getElem?_set_self hiσ]at B;cases B;exact⟨u,r,.inr ⟨.inl hk,c,hc,K⟩⟩
   ·rw [cC (Ne.symm C)] at B;obtain⟨u',r',q⟩:=hl j y Y g B Z;refine⟨u',r',?_⟩;rcases q with q|⟨k,S,e,z'⟩
    ·exact .inl q
    ·refine .inr ⟨k,S,e,z'.sameBut hs ?_⟩;rintro rfl;exact C (vJp hN g (I.ok.inj _ _ _ e hc▸G))
  ·by_cases P:S =c
   ·subst P;exact⟨_,K⟩
   ·obtain⟨w2,z2⟩:=I.cell y S e;exact⟨w2,z2.sameBut hs P⟩
  ·obtain⟨e,n,ne,nf,d⟩:=I.pin p hp;refine⟨(hs.2 p.1 ?_).trans e,n,ne,nf,d⟩;intro q;rw[q,L]at e;have q' :oc=p.2:=Option.some.inj e;exact d R (by rw[←q'];exact O)
theorem qKc{E:Value->aY->Prop}{x:Str}{v:V}{u:Value}{Q:Unit->aY->Prop}(I:Inv X pins σ H s)(b:X.N.Nodup)(c:X.N[i]?=some x)(d:Loc X.env.scope x)(r:RelV v u)(h:∀a,Inv X pins (σ.set i (some v)) H a ->Q () a)(e:X.fn x=true\/X.env.scope.names.lookup x=some .local :=by first|exact .inl rfl|exact .inr rfl|assumption):aH M A (storeName X.env x u) Q E s:=
 vKo I b c d r (fun a f _=>h a f) e
theorem Inv.call'{a :aY}(I:Inv X pins σ H s)(g:a.os=s.os)(u:Un (frs X.stack) ch H H' s.heap a.heap)(d:HOk X.prog X.w H' a.heap)(h:AllBare a.gens)(f:∀b∈ch,(b∈X.ex\/X.s₀.heap.objs.size<=b)/\b≠X.env.locals/\(∀x c,X.env.cells.lookup x=some c->c≠b)/\∀p∈X.pn ++ pins,p.1≠b):Inv X pins σ H' a :=by
 obtain⟨j,g',d',t',i⟩:=a;have e:i =s.os:=g;subst e;exact I.call (g' :=g') (t' :=t') (d' :=d') u d h f
end
noncomputable abbrev XK:=Value->Option aX->Hp->Prop
noncomputable abbrev St:=List (Option V)
noncomputable abbrev VK:=V->Hp->Prop
noncomputable abbrev TE:=St->Hp->VK->Prop
noncomputable abbrev TT:=St->Hp->(Bool->Hp->Prop)->Prop
noncomputable abbrev TA:=St->Hp->(List V->Hp->Prop)->Prop
structure Ends where
 nx:St->Hp->Prop
 rt:VK
 bk:St->Hp->Prop:=fun _ _=>False
 ct:St->Hp->Prop:=fun _ _=>False
noncomputable abbrev TS:=Ends->St->Hp->Prop
noncomputable def EP(X:Cx)(a:List (aX×Obj))(σ:St)(Q:VK)(u:Value)(c :aY):Prop:=∃v b,Inv X a σ b c /\RelV v u/\Q v b
noncomputable def TP(X:Cx)(a:List (aX×Obj))(σ:St)(Q:Bool->Hp->Prop)(b:Bool)(d :aY):Prop:=∃c,Inv X a σ c d /\Q b c
noncomputable def AP(X:Cx)(a:List (aX×Obj))(σ:St)(Q:List V->Hp->Prop)(us:List Value)(d :aY):Prop:=∃b c,Inv X a σ c d /\Vals b us/\Q b c
noncomputable def SP(X:Cx)(a:List (aX×Obj))(D:Ends)(f:Flow)(b :aY):Prop:=
 match f with
 |.next =>∃σ' H',Inv X a σ' H' b /\D.nx σ' H'
 |.brk =>∃σ' H',Inv X a σ' H' b /\D.bk σ' H'
 |.cont =>∃σ' H',Inv X a σ' H' b /\D.ct σ' H'
 |.ret u=>∃v σ' H',Inv X a σ' H' b /\RelV v u/\D.rt v H'
noncomputable def PE(X:Cx)(e:Expr)(t:TE):Prop:=
 ∀(pins:List (aX×Obj)) (s:aY) (σ:St) (H:Hp) (Q:VK),Inv X pins σ H s->t σ H Q->aH (model X.prog X.w) X.A (eval e X.env) (EP X pins σ Q) X.xe s
noncomputable def PT(X:Cx)(e:Expr)(t:TT):Prop:=
 ∀(pins:List (aX×Obj)) (s:aY) (σ:St) (H:Hp) (Q:Bool->Hp->Prop),Inv X pins σ H s->t σ H Q->aH (model X.prog X.w) X.A (isTrue e X.env (eval e X.env)) (TP X pins σ Q) X.xe s
noncomputable def PW(X:Cx)(e:Expr)(t:TT):Prop:=
 ∀(whole:Sem Value) (pins:List (aX×Obj)) (s:aY) (σ:St) (H:Hp) (Q:Bool->Hp->Prop),Inv X pins σ H s->t σ H Q->aH (model X.prog X.w) X.A (isTrue e X.env whole) (TP X pins σ Q) X.xe s
theorem PW.pt{e:Expr}{t:TT}(h:PW X e t):PT X e t:=h _
noncomputable def PA(X:Cx)(es:List Expr)(t:TA):Prop:=
 ∀(pos:Pos) (pins:List (aX×Obj)) (s:aY) (σ:St) (H:Hp) (Q:List V->Hp->Prop),Inv X pins σ H s->t σ H Q->aH (model X.prog X.w) X.A (spliced (cK pos (aK es X.env))) (AP X pins σ Q) X.xe s
noncomputable def PS(X:Cx)(st:Stmt)(t:TS):Prop:=
 ∀(pins:List (aX×Obj)) (s:aY) (σ:St) (H:Hp) (D:Ends),Inv X pins σ H s->t D σ H->aH (model X.prog X.w) X.A (exec st X.env) (SP X pins D) X.xe s
noncomputable def PSs(X:Cx)(st:List Stmt)(t:TS):Prop:=
 ∀(pins:List (aX×Obj)) (s:aY) (σ:St) (H:Hp) (D:Ends),Inv X pins σ H s->t D σ H->aH (model X.prog X.w) X.A (execs st X.env) (SP X pins D) X.xe s
theorem thn{t:Sem α}{Q b :α->aY->Prop}{E:Value->aY->Prop}{s:aY}(h:aH M A t Q E s)(c:∀a s,Q a s->b a s):aH M A t b E s:=fZ h c fun _ _ x=>x
section
variable{X:Cx}
noncomputable def tVar(i:Nat):TE:=fun σ H Q=>∃v,σ[i]?=some (some v)/\Q v H
noncomputable def tC(v:V):TE:=fun _ H Q=>Q v H
theorem jVi{x:Str}(k:X.N[i]?=some x)(n:Vis X.env.scope x)(f:(x == ("__debug__":Str))=false:=by decide)(g:(x == ("__classdict__":Str))=false:=by decide):PE X (.Name x pos) (tVar i):=by
 intro d s σ H Q I h;obtain⟨v,e,h⟩:=h;obtain⟨m,o,p⟩:=I.loc;obtain⟨u,r,l⟩:=p i x v k e n;have b:EP X d σ Q u s:=⟨v,H,I,r,h⟩
 rcases l with⟨hk,q⟩|⟨hk,c,j,a⟩
 ·exact wpAny_Name (wpAny_loadName_local I.ok.kind hk o q b) f
 ·rcases hk with hk | hk
  ·exact wpAny_Name (wpAny_loadName_cell I.ok.kind hk j a b) f
  ·exact wpAny_Name (wpAny_loadName_free I.ok.kind hk j a b g) f
theorem jVp{i j pos}:PE X (.Constant (.int i) j pos) (tC (.int i)):=fun _ _ _ H _ I h=>wpAny_Constant_int ⟨.int i,H,I.tok _,⟨_,rfl⟩,h⟩
theorem jJk{b j pos}:PE X (.Constant (.bool b) j pos) (tC (.bl b)):=fun _ _ _ H _ I h=>Constant_bool ⟨.bl b,H,I,rfl,h⟩
theorem jVl{x j pos}:PE X (.Constant (.str x) j pos) (tC (.str x)):=fun _ _ _ H _ I h=>Calls.Constant_str ⟨.str x,H,I.tok _,⟨_,rfl⟩,h⟩
noncomputable def Gl(X:Cx)(x:Str):Prop:=X.env.kindOf x=some .globalImplicit
theorem qWq{E:Value->aY->Prop}{s:aY}{σ:St}{x:Str}{u:Value}(I:Inv X pins σ H s)(a:Gl X x)(b:X.mg x=some u)(h:Q u s)(c:(x == ("__debug__":Str))=false:=by decide):aH (model X.prog X.w) X.A (eval (.Name x pos) X.env) Q E s:=
 Calls.Name_function_global I.ok.kind a (Calls.loadGlobal_global (by rw[I.ok.glob];exact I.mod.glob.keeps I.bk) b h) c
theorem qQv{E:Value->aY->Prop}{s:aY}{σ:St}{x:Str}{u:Value}(I:Inv X pins σ H s)(a:Gl X x)(b:X.mg x=none)(c:cR x=some u)(h:Q u s)(d:x≠"__name__":=by decide)(e:(x == ("__debug__":Str))=false:=by decide):aH (model X.prog X.w) X.A (eval (.Name x pos) X.env) Q E s:=by
 obtain⟨i,f,g⟩:=I.mod.blt;exact Calls.Name_function_global I.ok.kind a (Calls.loadGlobal_builtin (by rw[I.ok.glob];exact I.mod.glob.keeps I.bk) b (by rw[I.ok.blt];exact f.keeps I.bk) ((g x d).trans c) h) e
theorem qYe{x:Str}{v:V}{u:Value}(a:Gl X x)(b:X.mg x=some u)(r:RelV v u)(c:(x == ("__debug__":Str))=false:=by decide):PE X (.Name x pos) (tC v):=
 fun _ _ _ H _ I h=>qWq I a b ⟨v,H,I,r,h⟩ c
theorem zX8{x:Str}{v:V}{u:Value}(a:Gl X x)(b:X.mg x=none)(c:cR x=some u)(r:RelV v u)(d:x≠"__name__":=by decide)(e:(x == ("__debug__":Str))=false:=by decide):PE X (.Name x pos) (tC v):=
 fun _ _ _ H _ I h=>qQv I a b c ⟨v,H,I,r,h⟩ d e
variable{a b:Expr}{ta tb:TE}{pos:Pos}
noncomputable def tB(t:TE):TT:=fun σ H Q=>t σ H fun x a=>∃c,x=.bl c/\Q c a
theorem jQ4{e:Expr}{t:TE}(h:PE X e t)(b:∀whole,isTrue e X.env whole=(do let v ←whole;standAt e.pos;holding [v] (truthy v)):=by intro _;rfl):PT X e (tB t):=by
 intro a s σ H Q I hw;refine isTrue_plain (thn (h a s σ H _ I hw) fun v j ⟨x,c,f,g,i⟩=>?_) (b _);obtain⟨d,rfl,q⟩:=i;cases g;exact wpAny_truthy_bool ⟨c,f,q⟩
variable{tA tB' :TT}{rest:List Expr}
noncomputable def tAnd(t u:TT):TT:=fun σ H Q=>t σ H fun c a=>if c=true then u σ a Q else Q false a
noncomputable def tOr(t u:TT):TT:=fun σ H Q=>t σ H fun c a=>if c=true then Q true a else u σ a Q
noncomputable def tNot(t:TT):TT:=fun σ H Q=>t σ H fun c a=>Q (!c) a
theorem zXm(ha:PT X a tA):PW X (.BoolOp .And [a] pos) tA:=by
 intro d b s σ H Q I h;refine isTrue_and (thn (ha b s σ H Q I h) fun c f e=>?_);cases c with
 |true=>exact isTrue_and_nil e
 |false=>exact e
theorem jQz(ha:PT X a tA):PW X (.BoolOp .Or [a] pos) tA:=by
 intro d b s σ H Q I h;refine isTrue_or (thn (ha b s σ H Q I h) fun c f e=>?_);cases c with
 |false=>exact isTrue_or_nil e
 |true=>exact e
theorem jQ0(ha:PT X a tA)(hb:PW X (.BoolOp .And (b::rest) pos) tB'):PW X (.BoolOp .And (a::b::rest) pos) (tAnd tA tB'):=by
 intro i d s σ H Q I h;refine isTrue_and (thn (ha d s σ H _ I h) fun c j ⟨e,f,g⟩=>?_);cases c with
 |true=>exact hb i d j σ e Q f g
 |false=>exact⟨e,f,g⟩
theorem jJd(ha:PT X a tA)(hb:PW X (.BoolOp .Or (b::rest) pos) tB'):PW X (.BoolOp .Or (a::b::rest) pos) (tOr tA tB'):=by
 intro i d s σ H Q I h;refine isTrue_or (thn (ha d s σ H _ I h) fun c j ⟨e,f,g⟩=>?_);cases c with
 |true=>exact⟨e,f,g⟩
 |false=>exact hb i d j σ e Q f g
theorem jQ5(ha:PT X a tA):PT X (.UnaryOp .Not a pos) (tNot tA):=by
 intro b s σ H Q I h;exact isTrue_not (ha b s σ H (fun c d=>Q (!c) d) I h)
noncomputable def jZ6(b d:TE):TE:=fun σ H Q=>b σ H fun x a=>∃c,x=.bl c/\if c=true then d σ a Q else Q (.bl false) a
noncomputable def tOrV(b d:TE):TE:=fun σ H Q=>b σ H fun x a=>∃c,x=.bl c/\if c=true then Q (.bl true) a else d σ a Q
noncomputable def jZ4(a:TE):TE:=fun σ H Q=>a σ H fun x b=>∃c,x=.bl c/\Q (.bl (!c)) b
theorem jVm{op}{t:TE}(h:PE X a t):PE X (.BoolOp op [a] pos) t:=fun b s σ H Q I c=>BoolOp_one (h b s σ H Q I c)
theorem jVr(ha:PE X a ta)(hb:PE X (.BoolOp .And (b::rest) pos) tb):PE X (.BoolOp .And (a::b::rest) pos) (jZ6 ta tb):=by
 intro d s σ H Q I h;refine BoolOp_and (thn (ha d s σ H _ I h) fun v i ⟨x,f,g,j,e⟩=>?_);obtain⟨c,rfl,e⟩:=e;cases j;refine wpAny_truthy_bool ?_
 cases c with
 |true=>exact hb d i σ f Q g e
 |false=>exact⟨.bl false,f,g,rfl,e⟩
theorem jJi(ha:PE X a ta)(hb:PE X (.BoolOp .Or (b::rest) pos) tb):PE X (.BoolOp .Or (a::b::rest) pos) (tOrV ta tb):=by
 intro d s σ H Q I h;refine BoolOp_or (thn (ha d s σ H _ I h) fun v i ⟨x,f,g,j,e⟩=>?_);obtain⟨c,rfl,e⟩:=e;cases j;refine wpAny_truthy_bool ?_
 cases c with
 |false=>exact hb d i σ f Q g e
 |true=>exact⟨.bl true,f,g,rfl,e⟩
theorem jVn(ha:PE X a ta):PE X (.UnaryOp .Not a pos) (jZ4 ta):=by
 intro b s σ H Q I h;refine UnaryOp_ (thn (ha b s σ H _ I h) fun v i ⟨x,e,f,g,d⟩=>?_);obtain⟨c,rfl,d⟩:=d;cases g;exact not_of (wpAny_truthy_bool ⟨.bl (!c),e,f,rfl,d⟩)
end
noncomputable def SqL(K:aQ)(H:Hp)(a:aX)(xs:List V):Prop:=
 Rd H a (.lst xs)\/
  ∃(o:Obj) (its:Array Value) (n:Nat),K.lookup a=some o/\o.cls=.type "list"/\o.dict=none/\o.data=.seq its n/\its.size<=aS/\Vals xs its.toList
noncomputable def SqT(K:aQ)(H:Hp)(a:aX)(xs:List V):Prop:=
 Rd H a (.tup xs)\/
  ∃(o:Obj) (its:Array Value) (n:Nat),K.lookup a=some o/\o.cls=.type "tuple"/\o.data=.seq its n/\its.size<=aS/\Vals xs its.toList
noncomputable def absV:Value->Option V
 |.none =>some .non
 |.bool b=>some (.bl b)
 |.int i _=>some (.int i)
 |.str x _=>some (.str x)
 |.bytes b _=>some (.byt b)
 |.float b _=>some (.flt b)
 |.ref a=>some (.ref a)
 |.type n=>some (.ty n)
 |_=>none
theorem RelV.abs{x:V}{u:Value}(r:RelV x u):absV u=some x:=by
 cases x with
 |non=>cases r;rfl
 |bl _=>cases r;rfl
 |int _=>obtain⟨t,rfl⟩:=r;rfl
 |str _=>obtain⟨t,rfl⟩:=r;rfl
 |byt _=>obtain⟨t,rfl⟩:=r;rfl
 |flt _=>obtain⟨t,rfl⟩:=r;rfl
 |ref _=>cases r;rfl
 |ty _=>cases r;rfl
theorem RelV.inj{x:V}{u:Value}(r:RelV x u)(q:RelV y u):x=y:=Option.some.inj (r.abs.symm.trans q.abs)
theorem Vals.inj:∀{xs ys:List V} {us:List Value},Vals xs us->Vals ys us->xs=ys
 |_,_,_,.nil,.nil =>rfl
 |_,_,_,.cons r t,.cons r' t' =>by rw[r.inj r',Vals.inj t t']
section
variable{X:Cx}{pins:List (aX×Obj)}{σ:St}{H:Hp}{s:aY}{a:aX}{xs ys:List V}
theorem SqL.of(h:H a=some (.lst xs)):SqL K H a xs:=.inl (.inl h)
theorem SqT.of(h:H a=some (.tup xs)):SqT K H a xs:=.inl (.inl h)
theorem Inv.list(I:Inv X pins σ H s)(h:SqL X.K H a xs):∃its:List Value,Vals xs its/\PlainL s.heap a its.toArray/\xs.length<=aS:=by
 rcases h with h|⟨o,its,n,b,c,d,hs,f,r⟩
 ·obtain⟨z,its,n,r,e⟩:=h.ok I.hok;exact⟨its,r,⟨_,n,e,rfl,rfl,rfl⟩,z⟩
 ·refine⟨its.toList,r,⟨o,n,I.kIn a o b,c,d,by simpa using hs⟩,?_⟩;have e:=r.length;simp only[Array.length_toList]at e;omega
theorem Inv.tuple(I:Inv X pins σ H s)(h:SqT X.K H a xs):∃its:List Value,Vals xs its/\IsTup s.heap a its.toArray/\xs.length<=aS:=by
 rcases h with h|⟨o,its,n,b,c,hs,d,r⟩
 ·obtain⟨z,its,r,p⟩:=h.ok I.hok;grind
 ·refine⟨its.toList,r,⟨o,I.kIn a o b,c,n,by simpa using hs⟩,?_⟩;have e:=r.length;grind
theorem Inv.list_inj(I:Inv X pins σ H s)(h:SqL X.K H a xs)(h' :SqL X.K H a ys):xs=ys:=by
 obtain⟨c,r,⟨o,n,e,_,_,d⟩,_⟩:=I.list h;obtain⟨b,i,⟨j,k,f,_,_,g⟩,_⟩:=I.list h';rw[e]at f;cases f;rw[d]at g;injection g with d1 _
 have:c=b :=by simpa using congrArg Array.toList d1
 subst this;exact r.inj i
theorem Inv.tuple_inj(I:Inv X pins σ H s)(h:SqT X.K H a xs)(h' :SqT X.K H a ys):xs=ys:=by
 obtain⟨c,r,⟨o,e,_,n,d⟩,_⟩:=I.tuple h;obtain⟨b,i,⟨j,f,_,k,g⟩,_⟩:=I.tuple h';rw[e]at f;cases f;rw[d]at g;injection g with d1 _
 have:c=b :=by simpa using congrArg Array.toList d1
 subst this;exact r.inj i
end
section
variable{X:Cx}{st:Stmt}{rest:List Stmt}{t u:TS}{e:Expr}{te:TE}{pos:Pos}
noncomputable def tNext:TS:=fun D σ H=>D.nx σ H
noncomputable def tSeq(t u:TS):TS:=fun D σ H=>t {D with nx:=u D} σ H
theorem zXr:PSs X [] tNext:=fun _ _ σ H _ I h=>wpAny_execs_nil ⟨σ,H,I,h⟩
theorem zZ8(h1:PS X st t)(h2:PSs X rest u):PSs X (st::rest) (tSeq t u):=by
 intro a s σ H D I h;refine wpAny_execs_cons (thn (h1 a s σ H {D with nx:=u D} I h) fun f b q=>?_);cases f with
 | next=>
   obtain⟨σ',c,d,q⟩:=q;exact h2 a b σ' c D d q
 |ret v=>exact q
 |brk=>exact q
 |cont=>exact q
theorem zXq(h1:PS X st t):PSs X [st] t:=by
 intro a s σ H D I h;refine wpAny_execs_cons (thn (h1 a s σ H D I h) fun f b q=>?_);cases f with
 |next=>exact wpAny_execs_nil q
 |ret v=>exact q
 |brk=>exact q
 |cont=>exact q
theorem Inv.quiet{σ:St}{s:aY}(I:Inv X pins σ H s):interactive X.env=false:=by simp[interactive,I.ok.kind]
noncomputable def jZ5(a:TE):TS:=fun D σ H=>a σ H fun _ b=>D.nx σ b
theorem zXs(b:PE X e te)(hs:swapsWith e none pos.line X.env=pure false:=by rfl):PS X (.Expr e pos) (jZ5 te):=by
 intro a s σ H D I h;exact wpAny_Expr_any (thn (b a s σ H _ I h) fun v g ⟨x,c,d,i,f⟩=>⟨σ,c,d,f⟩) I.quiet hs
noncomputable def tRet(a:TE):TS:=fun D σ H=>a σ H D.rt
theorem jQ7(b:PE X e te):PS X (.Return (some e) pos) (tRet te):=by
 intro a s σ H D I h;exact wpAny_Return_some (thn (b a s σ H _ I h) fun v i ⟨x,c,d,f,g⟩=>⟨x,σ,c,d,f,g⟩)
noncomputable def tIfS(c:TT)(t u:TS):TS:=fun D σ H=>c σ H fun b a=>if b=true then t D σ a else u D σ a
theorem jJe{c:Expr}{a b:List Stmt}{f:TT}(l:PT X c f)(ha:PSs X a t)(hb:PSs X b u):PS X (.If c a b pos) (tIfS f t u):=by
 intro e s σ H D I h;refine wpAny_If (thn (l e s σ H _ I h) fun d g ⟨i,j,k⟩=>?_);cases d with
 |true=>exact ha e g σ i D j k
 |false=>exact hb e g σ i D j k
end
noncomputable abbrev TG:=V->St->Hp->(St->Hp->Prop)->Prop
noncomputable abbrev TGs:=List V->St->Hp->(St->Hp->Prop)->Prop
noncomputable def PG(X:Cx)(a:Expr)(t:TG):Prop:=
 ∀(pins:List (aX×Obj)) (s:aY) (σ:St) (H:Hp) (v:V) (u:Value) (Q:St->Hp->Prop),Inv X pins σ H s->RelV v u->t v σ H Q->
  aH (model X.prog X.w) X.A (assign a X.env u) (fun _ b =>∃σ' H',Inv X pins σ' H' b /\Q σ' H') X.xe s
noncomputable def PGs(X:Cx)(a:List Expr)(t:TGs):Prop:=
 ∀(pins:List (aX×Obj)) (s:aY) (σ:St) (H:Hp) (vs:List V) (us:List Value) (Q:St->Hp->Prop),Inv X pins σ H s->Vals vs us->t vs σ H Q->
  aH (model X.prog X.w) X.A (assignInOrder ((assignEach a X.env).map (·.2)) us) (fun _ b =>∃σ' H',Inv X pins σ' H' b /\Q σ' H') X.xe s
noncomputable abbrev TSet:=V->V->V->Hp->(Hp->Prop)->Prop
noncomputable def PSet(X:Cx)(t:TSet):Prop:=
 ∀(pins:List (aX×Obj)) (s:aY) (σ:St) (H:Hp) (o i v:V) (ov iv u:Value) (Q:Hp->Prop),Inv X pins σ H s->RelV o ov->RelV i iv->RelV v u->t o i v H Q->
  aH (model X.prog X.w) X.A (setItem ov iv u) (fun _ b =>∃a,Inv X pins σ a b /\Q a) X.xe s
noncomputable abbrev TIp:=V->V->Hp->VK->Prop
noncomputable def PIp(X:Cx)(op:Operator)(t:TIp):Prop:=
 ∀(pins:List (aX×Obj)) (s:aY) (σ:St) (H:Hp) (x y:V) (v u:Value) (Q:VK),Inv X pins σ H s->RelV x v->RelV y u->t x y H Q->
  aH (model X.prog X.w) X.A (inplaceOp op v u) (EP X pins σ Q) X.xe s
section
variable{X:Cx}{pos:Pos}
noncomputable def vXt(i:Nat):TG:=fun v σ H Q=>Q (σ.set i (some v)) H
theorem zX3{x:Str}(b:X.N.Nodup)(c:X.N[i]?=some x)(d:Loc X.env.scope x)(e:X.fn x=true\/X.env.scope.names.lookup x=some .local :=by first|exact .inl rfl|exact .inr rfl|assumption):PG X (.Name x pos) (vXt i):=by
 intro a s σ H v u Q I r h;exact wpAny_assign_Name (qKc I b c d r (fun g f =>⟨_,H,f,h⟩) e)
noncomputable def gNil:TGs:=fun a σ H Q=>a=[]/\Q σ H
noncomputable def jJ9(t:TG)(u:TGs):TGs:=fun a σ H Q=>∃v r,a=v::r/\t v σ H fun σ' b =>u r σ' b Q
theorem zX2:PGs X [] gNil:=by
 intro a s σ H vs us Q I r h;obtain⟨e,h⟩:=h;subst e;exact assignInOrder_nil ⟨σ,H,I,h⟩
theorem zJe{e:Expr}{t:TG}{u:TGs}(h1:PG X e t)(h2:PGs X es u)(hs:(assignEach (e::es) X.env).map (·.2)=assign e X.env::(assignEach es X.env).map (·.2):=by rfl):PGs X (e::es) (jJ9 t u):=by
 intro a s σ H vs us Q I r h;obtain⟨v,i,b,h⟩:=h;subst b;cases r with
 | cons r rr=>
   rw[hs];refine assignInOrder_cons (thn (h1 a s σ H _ _ _ I r h) fun _ c ⟨σ1,d,f,g⟩=>?_);exact h2 a c σ1 d _ _ Q f rr g
noncomputable def gTup(K:aQ)(n:Nat)(t:TGs):TG:=fun v σ H Q=>∃a b,v=.ref a/\SqT K H a b/\b.length=n/\t b σ H Q
theorem jVg{k:Nat}{t:TGs}(i:X.calm=true)(h:PGs X es t)(j:(assignEach es X.env).length =n:=by rfl)(d:(assignEach es X.env).findIdx? (·.1)=none:=by rfl):PG X (.Tuple es k pos) (gTup X.K n t):=by
 intro c s σ H v u Q I r f;obtain⟨a,l,m,p,q,f⟩:=f;subst m;cases r;obtain⟨w,g,x,B⟩:=I.tuple p;refine assign_Tuple_tuple (I.ok.hd i) x (by simp[j,←q,g.length]) d fun y z=>?_
 have A:Inv X c σ H {s with heap:=y }:=I.kept (t' :=s.toks) fun b o e=>z b o (bQ (aE e)) e
 exact h c _ σ H l _ Q A (by simpa using g) f
noncomputable def gSub(to a:TE)(t:TSet):TG:=fun v σ H Q=>to σ H fun o b=>a σ b fun i c=>t o i v c fun d=>Q σ d
theorem jVh{o i:Expr}{to d:TE}{t:TSet}(e:PE X o to)(f:PE X i d)(hs:PSet X t)(ha:∀v,assign (.Subscript o i pos) X.env v=(do
   let b ←holding [v] (eval o X.env);let c ←holding [v,b] (eval i X.env);standAt pos;holding [v,b,c] (setItem b c v);release [v,b,c] []):=by intro _;rfl):PG X (.Subscript o i pos) (gSub to d t):=by
 intro a s σ H v u Q I r h;rw[ha];refine aV (dP (thn (e a s σ H _ I h) fun b g ⟨x,j,k,l,m⟩=>?_));refine aV (dP (thn (f a g σ j _ k m) fun c n ⟨y,p,q,w,z⟩=>?_));refine aV (wpAny_standAt (aV (dP (thn (hs a n σ p x y v b c u _ q l w r z) fun _ D ⟨A,B,C⟩=>?_))));exact wpAny_release ⟨σ,A,B,C⟩
noncomputable def tAsg(a:TE)(g:TG):TS:=fun D σ H=>a σ H fun x b=>g x σ b D.nx
theorem jVa{e:Expr}{g:TG}(b:PE X e te)(c:PG X tg g)(hs:swapsWithSole [tg] e pos.line X.env=pure false:=by rfl)(d:swappedStores [tg] e X.env=pure none:=by rfl)(h1:(assignEach [tg] X.env).map (·.2)=[assign tg X.env]:=by rfl):PS X (.Assign [tg] e pos) (tAsg te g):=by
 intro a s σ H D I h;refine wpAny_Assign_stores (thn (b a s σ H _ I h) fun v f ⟨x,i,j,k,l⟩=>?_) hs d;rw[h1];exact thn (c a f σ i x v _ j k l) fun _ m q=>q
theorem jQ6{x:Str}{e:Expr}{a :Pos}(c:X.N.Nodup)(d:X.N[i]?=some x)(f:Loc X.env.scope x)(g:PE X e te)(hs:swapsWith e (some (.Name x a)) pos.line X.env=pure false:=by rfl)(j:X.fn x=true\/X.env.scope.names.lookup x=some .local :=by first|exact .inl rfl|exact .inr rfl|assumption):
  PS X (.Assign [.Name x a] e pos) (tAsg te (vXt i)):=by
 intro b s σ H D I h;refine wpAny_Assign_Name (thn (g b s σ H _ I h) fun v p ⟨y,k,l,m,n⟩=>?_) hs;exact qKc l c d f m (fun q o=>⟨_,k,o,n⟩) j
noncomputable def ipI(f:Int->Int->Int):TIp:=fun x y H Q=>∃i j,x=.int i/\y=.int j/\Q (.int (f i j)) H
theorem zZe:PIp X .Add (ipI fun i j=>i+j):=by
 intro a s σ H x y v u Q I r1 r2 h;obtain⟨i,j,b,c,q⟩:=h;subst b;subst c;obtain⟨t,rfl⟩:=r1;obtain⟨d,rfl⟩:=r2;exact iadd_int ⟨.int _,H,I.tok _,⟨_,rfl⟩,q⟩
end
structure It where
 go:Nat->Hp->Prop
 yld:Nat->Hp->V->Hp->Prop
 stop:Nat->Hp->Prop
noncomputable def FpOk(X:Cx)(a:List (aX×Obj))(H:Hp)(b:aX):Prop:=
 H b=none/\b≠X.env.locals/\b∉X.fs/\(b∈X.ex\/X.s₀.heap.objs.size<=b)/\(∀x c,X.env.cells.lookup x=some c->c≠b)/\∀p∈X.pn ++ a,p.1≠b
theorem Inv.fpOk{σ:St}{H':Hp}{s:aY}{b:aX}(I:Inv X pins σ H s)(hb:s.heap.objs.size<=b)(a:H' b=none):FpOk X pins H' b:=by
 refine⟨a,dD (aT I.lt hb),I.nofs hb,.inr (aR I.sz hb),fun x c e z=>?_,fun p d z=>?_⟩
 ·obtain⟨v,q⟩:=I.cell x c e;exact absurd (aT q.lt (by rw[z];exact hb)) (bR _)
 ·exact absurd (aT (aE (I.pin p d).1) (by rw[z];exact hb)) (bR _)
structure Turn(P:aA)(w:bW)(K:aQ)(tg:Expr)(J:It)(fp:List aX)(it:aX)(tn:Nat->Heap->Prop):Prop where
 mem:it∈fp
 obj:∀i h,tn i h->∀b∈fp,∃o,h.get? b=some o/\∀v,o.data≠ .cell v
 keep:∀i h h',tn i h->(∀b∈fp,∀o,h.get? b=some o->h'.get? b=some o)->tn i h'
 item:∀(X:Cx),X.prog=P->X.w=w->X.K=K->X.calm=true->∀(i:Nat) (pins:List (aX×Obj)) (s:aY) (σ:St) (H:Hp) (E:Value->aY->Prop),Inv X pins σ H s->(∀b∈fp,FpOk X pins H b)->tn i s.heap->J.go i H->
  aH (model P w) X.A (pyNext (.ref it)) (fun r s1=>∃u,r=some u/\
   aH (model P w) X.A (letOwnedTupleGo tg (.ref it) u) (fun _ s2=>∃x H',Inv X pins σ H' s2/\RelV x u/\J.yld i H x H' /\tn (i+1) s2.heap/\∀b∈fp,H' b=none) E s1) E s
 done:∀(X:Cx),X.prog=P->X.w=w->X.K=K->X.calm=true->∀(i:Nat) (pins:List (aX×Obj)) (s:aY) (σ:St) (H:Hp) (E:Value->aY->Prop),Inv X pins σ H s->(∀b∈fp,FpOk X pins H b)->tn i s.heap->J.stop i H->
  aH (model P w) X.A (pyNext (.ref it)) (fun r s1=>r=none/\Inv X pins σ H s1) E s
 self:∀(A:cQ) (i:Nat) (s:aY) (Q:Value->aY->Prop) (E:Value->aY->Prop),tn i s.heap->Q (.ref it) s->aH (model P w) A (pyIter (.ref it)) Q E s
noncomputable abbrev TI:=St->Hp->(It->Hp->Prop)->Prop
noncomputable def PIE(X:Cx)(a:List (aX×Obj))(σ:St)(e:Expr)(R:It->Hp->Prop)(c:Value)(d:aY):Prop:=
 ∃(it:aX) (fp:List aX) (tn:Nat->Heap->Prop) (J:It) (H' :Hp),c=.ref it/\Inv X a σ H' d/\Turn X.prog X.w X.K e J fp it tn/\tn 0 d.heap/\(∀b∈fp,FpOk X a H' b)/\R J H'
noncomputable def PI(X:Cx)(b a:Expr)(c:TI):Prop:=
 ∀(pins:List (aX×Obj)) (s:aY) (σ:St) (H:Hp) (R:It->Hp->Prop),Inv X pins σ H s->c σ H R->
  aH (model X.prog X.w) X.A (eval a X.env) (fun v d=>aH (model X.prog X.w) X.A (pyIter v) (PIE X pins σ b R) X.xe d) X.xe s
theorem vZ6{E:Value->aY->Prop}{s:aY}{u:Value}{o:Obj}{n:String}{vs:Array Value}{Q:Unit->aY->Prop}(b:s.heap.get? it=some o)(c:o.cls=.type n)(d:o.data=.fields vs)(e: ["enumerate","zip","dict_itemiterator","dict_reverseitemiterator","odict_iterator","itertools.zip_longest","itertools.pairwise"].contains n=false)(a:Q () s):aH M A (letOwnedTupleGo tg (.ref it) u) Q E s:=by
 unfold letOwnedTupleGo
 cases tg <;> first
  |exact aW a
  | (cases u <;> first
    |exact aW a
    | (refine aV (wpAny_load b ?_)
       rw[c,d];show aH M A (if(["enumerate","zip","dict_itemiterator","dict_reverseitemiterator","odict_iterator","itertools.zip_longest","itertools.pairwise"].contains n && vs[0]? == some (rawInt _))=true then _ else _) Q E s;rw[if_neg (by intro h;rw[e,Bool.false_and]at h;cases h)];exact aW a))
noncomputable def Itl(K:aQ)(a:aX):It:=
 ⟨fun i H=>∃b x,SqL K H a b/\b[i]?=some x,fun i H x c =>c =H/\∀b,SqL K H a b->b[i]?=some x,fun i H=>∃b,SqL K H a b/\b.length<=i⟩
noncomputable def Itt(K:aQ)(a:aX):It:=
 ⟨fun i H=>∃b x,SqT K H a b/\b[i]?=some x,fun i H x c =>c =H/\∀b,SqT K H a b->b[i]?=some x,fun i H=>∃b,SqT K H a b/\b.length<=i⟩
noncomputable def Itr(lo:Int)(n:Nat):It:=⟨fun i _=>i<n,fun i H x a =>a =H/\x=.int (lo+i),fun i _=>n<=i⟩
theorem vKl{P:aA}{w:bW}(a it:aX):Turn P w K tg (Itl K a) [it] it (fun i h=>h.IsListIter it a i) where
 mem:=by simp
 obj:=fun i h st b hb=>by
  have e:b=it:=by simpa using hb
  subst e;obtain⟨o,e,c,d⟩:=st;grind
 keep:=fun i h j st k=>st.at fun o e=>k it (by simp) o e
 item:=by
  intro X m n q C i f s σ H E I hf st hg;subst m n q;obtain⟨D,x,l,r⟩:=hg;obtain⟨t,v,p,F⟩:=I.list l;obtain⟨u,G,J⟩:=v.get r;obtain⟨y,f1,L,z,A,B⟩:=hf it (by simp);refine wpAny_pyNext_list_item st p.isList (x:=u) (by simpa using G) fun j g sb=>?_
  have M:Inv X f σ H {s with heap:=j }:=I.turned (t' :=s.toks) (fun b o hb e=>(sb.2 b hb).trans e) y f1 z A B;obtain⟨o,e,c,d⟩:=id g;exact⟨u,rfl,vZ6 (s:={s with heap:=j }) e c d (by decide) ⟨x,H,M,J,⟨rfl,fun Q N=>by rw[I.list_inj N l];exact r⟩,g,fun b hb=>(hf b hb).1⟩⟩
 done:=by
  intro X m n q C i f s σ H E I hf st hg;subst m n q;obtain⟨D,l,r⟩:=hg;obtain⟨t,v,p,F⟩:=I.list l;obtain⟨y,f1,L,z,A,B⟩:=hf it (by simp);have R:=v.length;exact wpAny_pyNext_list_end (I.ok.hd C) st p.isList (by simp;omega) fun j O=>⟨rfl,I.turned (t' :=s.toks) (fun b o hb e=>O b o hb e) y f1 z A B⟩
 self:=fun _ _ _ _ _ st h=>wpAny_pyIter_listiter st h
theorem vWx{P:aA}{w:bW}(a it:aX):Turn P w K tg (Itt K a) [it] it (fun i h=>h.IsTupleIter it a i) where
 mem:=by simp
 obj:=fun i h st b hb=>by
  have e:b=it:=by simpa using hb
  subst e;obtain⟨o,e,c,d⟩:=st;grind
 keep:=fun i h l st k=>st.at fun o e=>k it (by simp) o e
 item:=by
  intro X n q r C i f s σ H E I hf st hg;subst n q r;obtain⟨D,x,m,t⟩:=hg;obtain⟨g,v,p,F⟩:=I.tuple m;obtain⟨u,G,J⟩:=v.get t;obtain⟨y,f1,L,z,A,B⟩:=hf it (by simp);refine wpAny_pyNext_tuple_item st (show s.heap.IsTuple a g.toArray from p) (x:=u) (by simpa using G) fun l j sb=>?_
  have M:Inv X f σ H {s with heap:=l }:=I.turned (t' :=s.toks) (fun b o hb e=>(sb.2 b hb).trans e) y f1 z A B;obtain⟨o,e,c,d⟩:=id j;exact⟨u,rfl,vZ6 (s:={s with heap:=l }) e c d (by decide) ⟨x,H,M,J,⟨rfl,fun Q N=>by rw[I.tuple_inj N m];exact t⟩,j,fun b hb=>(hf b hb).1⟩⟩
 done:=by
  intro X n q r C i f s σ H E I hf st hg;subst n q r;obtain⟨D,m,t⟩:=hg;obtain⟨g,v,p,F⟩:=I.tuple m;obtain⟨y,f1,L,z,A,B⟩:=hf it (by simp);have R:=v.length;exact wpAny_pyNext_tuple_end (I.ok.hd C) st (show s.heap.IsTuple a g.toArray from p) (by simp;omega) fun l O=>⟨rfl,I.turned (t' :=s.toks) (fun b o hb e=>O b o hb e) y f1 z A B⟩
 self:=fun _ _ _ _ _ st h=>wpAny_pyIter_tupleiter st h
theorem vWy{P:aA}{w:bW}(it:aX)(lo:Int)(n:Nat):Turn P w K tg (Itr lo n) [it] it (fun i h=>IsRangeIter h it (lo+(i:Nat) * 1) ((n:Int) - (i:Nat)) 1) where
 mem:=by simp
 obj:=fun i h st b hb=>by
  grind
 keep:=fun i h d st k=>k it (by simp) _ st
 item:=by
  intro X p q r f i a s σ H E I hf st hg;subst p q r;obtain⟨g,f1,x,j,l,m⟩:=hf it (by simp);have W:=Walks.range (prog:=X.prog) (w:=X.w) (I.ok.hd f) it lo 1 n;refine W.item i s _ _ hg st fun v d u y c z=>?_
  obtain⟨t,rfl⟩:=y;have A:Inv X a σ H {s with heap:=d,toks:=u}:=I.turned (fun b o hb e=>z b o (by simpa using hb) e) g f1 j l m;refine⟨_,rfl,vZ6 (s:={s with heap:=d,toks:=u}) (n:="range_iterator") c rfl rfl (by decide) ⟨.int (lo+i),H,A,⟨t,?_⟩,⟨rfl,rfl⟩,c,fun b hb=>(hf b hb).1⟩⟩;grind
 done:=by
  intro X p q r f i a s σ H E I hf st hg;obtain⟨g,f1,x,j,l,m⟩:=hf it (by simp);exact wpAny_pyNext_range_end (I.ok.hd f) st (by have:n<=i:=hg;omega) fun d B=>⟨rfl,I.turned (t' :=s.toks) (fun b o hb e=>B b o hb e) g f1 j l m⟩
 self:=fun _ _ _ _ _ st h=>wpAny_pyIter_rangeiter st h
section
variable{X:Cx}{tg:Expr}
theorem zZ7{σ:St}{s:aY}{R:It->Hp->Prop}{E:Value->aY->Prop}{lo a:Int}{t u v:Tok}{c:Nat}(I:Inv X pins σ H s)(h1: -(2 ^ 62)<=lo)(h2:lo<2 ^ 62)(f: -(2 ^ 62)<=a)(g:a<2 ^ 62)(q:R (Itr lo (a - lo).toNat) H):aH (model X.prog X.w) X.A (pyIter (.ref s.heap.objs.size)) (PIE X pins σ tg R) E {s with heap:=s.heap.push {cls:=.type "range",data:=.fields #[.int lo t,.int a u,.int 1 v]},toks:=c}:=by
 refine wpAny_pyIter_range (IsRange.new ..) (small_one h1 h2 f g) ?_
 have d:Inv X pins σ H {s with heap:=s.heap.push {cls:=.type "range",data:=.fields #[.int lo t,.int a u,.int 1 v]},toks:=c}:=I.kept fun b o e=>aJ _ e
 refine⟨(s.heap.push {cls:=.type "range",data:=.fields #[.int lo t,.int a u,.int 1 v]}).objs.size,[(s.heap.push {cls:=.type "range",data:=.fields #[.int lo t,.int a u,.int 1 v]}).objs.size],_,_,H,rfl,
  d.kept (t' :=c) fun b o e=>aJ _ e,vWy _ lo (a - lo).toNat,?_,fun b hb=>?_,q⟩
 ·have h:lo + ((0:Nat):Int) * 1=lo:=by simp
  have i:(((a - lo).toNat :Nat):Int) - ((0:Nat):Int)=Builtin.Range.rangeSize lo a 1:=by rw[rangeSize_one];split <;> omega
  show IsRangeIter _ _ (lo+((0:Nat):Int) * 1) ((((a - lo).toNat :Nat):Int) - ((0:Nat):Int)) 1;rw[h,i];exact aP _ rfl
 ·have e:b=(s.heap.push {cls:= .type "range",data:= .fields #[.int lo t, .int a u, .int 1 v]}).objs.size:=by simpa using hb
  subst e;exact d.fpOk (aC _) (d.hok.fresh (aC _))
noncomputable def jJ6(a:TA):TI:=fun σ H R=>a σ H fun b c=>∃j:Int,b=[.int j]/\ -(2 ^ 62)<=j/\j<2 ^ 62/\R (Itr 0 j.toNat) c
theorem vKy{a:Expr}{d:TA}{p:Pos}(f:Gl X "range")(g:X.mg "range"=none)(ha:PA X [a] d)(hs:aK [a] X.env=[(false,eval a X.env)]:=by rfl):PI X tg (.Call (.Name "range" p) [a] [] pos) (jJ6 d):=by
 intro b s σ H R I h;refine Call_ (qQv I f g boot_range (bH (thn (ha pos b s σ H _ I h) fun m n ⟨o,u,i,k,c⟩=>?_) hs rfl));obtain⟨j,e,c,l,q⟩:=c;subst e;cases k with
 | cons r rr=>
   cases rr;obtain⟨t,rfl⟩:=r;exact call_range_1 (zZ7 i (by omega) (by omega) c l (by simpa using q))
noncomputable def tFor(c:TI)(g:TG)(d:TS):TS:=fun D σ H=>c σ H fun J e=>∃W:Nat->Nat->St->Hp->Prop,(∃m,W 0 m σ e)/\∀i m σ H,W i m σ H->
 (J.stop i H/\D.nx σ H)\/(J.go i H/\∃N:St->Hp->Prop,(∀σ' a,N σ' a ->∃b,b<m/\W (i+1) b σ' a)/\∀x a,J.yld i H x a ->g x σ a fun σ2 f=>d {D with nx:=N,ct:=N,bk:=D.nx} σ2 f)
noncomputable def qY1(a:List aX)(h:Heap):List (aX×Obj):=a.filterMap fun b=>(h.get? b).map fun o=>(b,o)
theorem qVp{h:Heap}{b:aX}{o:Obj}(hb:b∈fp)(e:h.get? b=some o):(b,o)∈qY1 fp h:=List.mem_filterMap.mpr ⟨b,hb,by rw[e];rfl⟩
theorem vK5{h:Heap}{p:aX×Obj}(a:p∈qY1 fp h):p.1∈fp/\h.get? p.1=some p.2:=by
 obtain⟨b,hb,e⟩:=List.mem_filterMap.mp a;cases q:h.get? b with
 |none=>grind
 |some o=>grind
theorem Inv.pinned{σ:St}{s:aY}(I:Inv X pins σ H s)(a:∀b∈fp,FpOk X pins H b)(d:∀b∈fp,∃o,s.heap.get? b=some o/\∀v,o.data≠ .cell v):Inv X (pins ++ qY1 fp s.heap) σ H s:=
 I.pins_of fun p c=>(cN.mp c).elim (fun z=>I.pin p (bU _ z)) fun z=>by
  obtain⟨hb,e⟩:=vK5 z;obtain⟨f,f1,g,_⟩:=a p.1 hb;grind
theorem Inv.unpinned{pl:List (aX×Obj)}{σ:St}{s:aY}(I:Inv X (pins ++ pl) σ H s):Inv X pins σ H s:=I.pins_of fun p a=>I.pin p (bU _ (List.mem_append_left _ a))
theorem jQ8{c:Expr}{Q:TI}{g:TG}{R:TS}(y:PassesOwn (model X.prog X.w) X.A X.env X.xe)(S:X.calm=true)(hi:PI X tg c Q)(hg:PG X tg g)(hb:PSs X body R)(hs:∀x,foldedSetIterable c X.env x=pure x:=by intro _;rfl):PS X (.For tg c body [] pos) (tFor Q g R):=by
 intro a s σ H D I h;refine wpAny_For (thn (hi a s σ H _ I h) fun v s1 h1=>thn h1 fun itv s2 h2=>?_) hs;obtain⟨it,z,U,J,H2,e,I2,T,K,V,W,⟨m0,w0⟩,turn⟩:=h2;subst e;have j:∀{H' :Hp},(∀b∈z,H' b=none)->∀b∈z,FpOk X a H' b:=fun hn b hb=>⟨hn b hb,(V b hb).2⟩
 refine codeAny_forLoop_any (fun n Y =>∃i σ' H',Inv X a σ' H' Y /\U i Y.heap/\(∀b∈z,H' b=none)/\W i n σ' H') ?_ m0 ⟨0,σ,H2,I2,K,fun b hb=>(V b hb).1,w0⟩;rintro n Z ⟨i,σ3,G,I3,B,C,w3⟩;rcases turn i n σ3 G w3 with⟨E,qn⟩|⟨go,N,hN,step⟩
 ·refine wpAny_passesOwn y (thn (T.done X rfl rfl rfl S i a Z σ3 G X.xe I3 (j C) B E) fun r s4 ⟨L,I4⟩=>?_);subst L;exact wpAny_execs_nil ⟨σ3,G,I4,qn⟩
 ·refine wpAny_passesOwn y (thn (T.item X rfl rfl rfl S i a Z σ3 G X.xe I3 (j C) B go) fun r s4 ⟨u,L,h4⟩=>?_);subst L;refine wpAny_passesOwn y (thn h4 fun _ s5 ⟨x,H5,I5,r5,y5,t,M⟩=>?_);have O :=I5.pinned (j M) (T.obj _ _ t);refine wpAny_passesOwn y (thn (hg _ s5 σ3 H5 x u _ O r5 (step x H5 y5)) fun _ s6 ⟨σ6,H6,I6,q6⟩=>?_);refine wpAny_passesOwn y (thn (hb _ s6 σ6 H6 _ I6 q6) fun f P q=>?_);have k:∀{σ7:St} {l:Hp},Inv X (a ++ qY1 z s5.heap) σ7 l P->N σ7 l->∃m,m<n/\∃i σ' H',Inv X a σ' H' P/\U i P.heap/\(∀b∈z,H' b=none)/\W i m σ' H' :=fun {σ7 l} p F=>by
   obtain⟨m',hm,w7⟩:=hN σ7 l F;refine⟨m',hm,i+1,σ7,l,p.unpinned,T.keep _ _ _ t fun b hb o e=>(p.pin (b,o) (bU _ (bU _ (qVp hb e)))).1,fun b hb=>?_,w7⟩;obtain⟨o,e,d⟩:=T.obj _ _ t b hb;exact(p.pin (b,o) (bU _ (bU _ (qVp hb e)))).2.1
  cases f with
  |next=>obtain⟨σ7,l,p,F⟩:=q;exact k p F
  |cont=>obtain⟨σ7,l,p,F⟩:=q;exact k p F
  |brk=>obtain⟨σ7,l,p,q⟩:=q;exact⟨σ7,l,p.unpinned,q⟩
  |ret v=>obtain⟨x7,σ7,l,p,r7,q⟩:=q;exact⟨x7,σ7,l,p.unpinned,r7,q⟩
end
noncomputable abbrev R2:=V->V->Hp->VK->Prop
noncomputable def OpR(X:Cx)(f:Value->Value->Sem Value)(r:R2):Prop:=
 ∀(pins:List (aX×Obj)) (s:aY) (σ:St) (H:Hp) (x y:V) (v u:Value) (Q:VK),Inv X pins σ H s->RelV x v->RelV y u->r x y H Q->
  aH (model X.prog X.w) X.A (f v u) (EP X pins σ Q) X.xe s
noncomputable def UnR(X:Cx)(f:Value->Sem Value)(r:V->Hp->VK->Prop):Prop:=
 ∀(pins:List (aX×Obj)) (s:aY) (σ:St) (H:Hp) (x:V) (v:Value) (Q:VK),Inv X pins σ H s->RelV x v->r x H Q->
  aH (model X.prog X.w) X.A (f v) (EP X pins σ Q) X.xe s
noncomputable def zC(X:Cx)(f:Value)(r:List V->Hp->VK->Prop):Prop:=
 ∀(pins:List (aX×Obj)) (s:aY) (σ:St) (H:Hp) (xs:List V) (us:List Value) (Q:VK),Inv X pins σ H s->Vals xs us->r xs H Q->
  aH (model X.prog X.w) X.A (call f us) (EP X pins σ Q) X.xe s
noncomputable def tOp(r:R2)(a b:TE):TE:=fun σ H Q=>a σ H fun x c=>b σ c fun y d=>r x y d Q
noncomputable def tUn(r:V->Hp->VK->Prop)(a:TE):TE:=fun σ H Q=>a σ H fun x b=>r x b Q
noncomputable def rI(C:Int->Int->Prop)(g:Int->Int->V):R2:=fun x y H Q=>∃i j,x=.int i/\y=.int j/\C i j/\Q (g i j) H
noncomputable def rI0(g:Int->Int->V):R2:=fun x y H Q=>∃i j,x=.int i/\y=.int j/\Q (g i j) H
noncomputable def rU(g:Int->V):V->Hp->VK->Prop:=fun x H Q=>∃i,x=.int i/\Q (g i) H
section
variable{X:Cx}{a b c:Expr}{ta tb tc:TE}{pos:Pos}
theorem binT(ha:PE X a ta)(hb:PE X b tb){s:aY}{σ:St}{R:V->V->Hp->Prop}(I:Inv X pins σ H s)(h:ta σ H fun x H1=>tb σ H1 fun y c=>R x y c){f:Value->Value->Sem Value}(e:∀v u d x y c,Inv X pins σ c d->RelV x v->RelV y u->R x y c->aH (model X.prog X.w) X.A (f v u) Q X.xe d):
  aH (model X.prog X.w) X.A (eval a X.env) (fun v s₁=>aH (model X.prog X.w) X.A (eval b X.env) (fun u s₂=>aH (model X.prog X.w) X.A (f v u) Q X.xe s₂) X.xe s₁) X.xe s:=by
 refine thn (ha pins s σ H _ I h) fun v g ⟨x,H1,i,j,k⟩=>?_
 refine thn (hb pins g σ H1 _ i k) fun u d ⟨y,c,l,m,n⟩=>?_
 exact e v u d x y c l j m n
theorem zVk{op:Operator}{r:R2}(d:OpR X (binaryOp op) r)(ha:PE X a ta)(hb:PE X b tb):PE X (.BinOp a op b pos) (tOp r ta tb):=by
 intro c s σ H Q I h;exact wpAny_BinOp (binT ha hb I h fun v u e x y f g i j q=>d c e σ f x y v u Q g i j q)
theorem jJh{op:UnaryOp}{r:V->Hp->VK->Prop}(c:UnR X (unaryOp op) r)(ha:PE X a ta):PE X (.UnaryOp op a pos) (tUn r ta):=by
 intro b s σ H Q I h;exact UnaryOp_ (thn (ha b s σ H _ I h) fun v d ⟨x,e,f,g,i⟩=>c b d σ e x v Q f g i)
theorem opI{f:Value->Value->Sem Value}{C:Int->Int->Prop}(a:∀(i j:Int) (t u:Tok) (s:aY) (Q:Value->aY->Prop) (E:Value->aY->Prop),C i j->Q (.int (g i j) s.toks) {s with toks:=s.toks+1}->aH (model X.prog X.w) X.A (f (.int i t) (.int j u)) Q E s):
  OpR X f (rI C fun i j=>.int (g i j)):=by
 intro b s σ H x y v u Q I rx ry h;obtain⟨i,j,rfl,rfl,c,q⟩:=h;obtain⟨t,rfl⟩:=rx;obtain⟨d,rfl⟩:=ry;exact a i j t d s _ _ c ⟨.int (g i j),H,I.tok _,⟨_,rfl⟩,q⟩
theorem opI0{f:Value->Value->Sem Value}(a:∀(i j:Int) (t u:Tok) (s:aY) (Q:Value->aY->Prop) (E:Value->aY->Prop),Q (.int (g i j) s.toks) {s with toks:=s.toks+1}->aH (model X.prog X.w) X.A (f (.int i t) (.int j u)) Q E s):
  OpR X f (rI0 fun i j=>.int (g i j)):=by
 intro b s σ H x y v u Q I rx ry h;obtain⟨i,j,rfl,rfl,q⟩:=h;obtain⟨t,rfl⟩:=rx;obtain⟨c,rfl⟩:=ry;exact a i j t c s _ _ ⟨.int (g i j),H,I.tok _,⟨_,rfl⟩,q⟩
theorem opB0{f:Value->Value->Sem Value}{g:Int->Int->Bool}(a:∀(i j:Int) (t u:Tok) (s:aY) (Q:Value->aY->Prop) (E:Value->aY->Prop),Q (.bool (g i j)) s->aH (model X.prog X.w) X.A (f (.int i t) (.int j u)) Q E s):
  OpR X f (rI0 fun i j=>.bl (g i j)):=by
 intro b s σ H x y v u Q I rx ry h;obtain⟨i,j,rfl,rfl,q⟩:=h;obtain⟨t,rfl⟩:=rx;obtain⟨c,rfl⟩:=ry;exact a i j t c s _ _ ⟨.bl (g i j),H,I,rfl,q⟩
noncomputable def CPow(i j:Int):Prop:=0<=j/\j<=1000000/\i.natAbs<2 ^ 64
theorem jVz:OpR X (binaryOp .Add) (rI0 fun i j=>.int (i+j)):=opI0 fun _ _ _ _ _ _ _ q=>add_int q
theorem jVt:OpR X (binaryOp .Sub) (rI0 fun i j=>.int (i - j)):=opI0 fun _ _ _ _ _ _ _ q=>sub_int q
theorem jVw:OpR X (binaryOp .Mod) (rI (fun _ j=>0<j) fun i j=>.int (i % j)):=opI fun i j _ _ _ _ _ a q=>by
 have b:(0:Int)<j:=a;exact mod_int' (by omega) (by rw[Int.fmod_eq_emod_of_nonneg i (by omega)];exact q)
theorem jVu:OpR X (binaryOp .Pow) (rI CPow fun i j=>.int (i ^ j.toNat)):=opI fun _ _ _ _ _ _ _ a q=>pow_int_small a.1 a.2.1 a.2.2 q
theorem unI{f:Value->Sem Value}{g:Int->Int}(a:∀(i:Int) (t:Tok) (s:aY) (Q:Value->aY->Prop) (E:Value->aY->Prop),Q (.int (g i) s.toks) {s with toks:=s.toks+1}->aH (model X.prog X.w) X.A (f (.int i t)) Q E s):
  UnR X f (rU fun i=>.int (g i)):=by
 intro b s σ H x v Q I rx h;obtain⟨i,rfl,q⟩:=h;obtain⟨t,rfl⟩:=rx;exact a i t s _ _ ⟨.int (g i),H,I.tok _,⟨_,rfl⟩,q⟩
theorem jQk:UnR X (unaryOp .USub) (rU fun i=>.int (-i)):=unI fun _ _ _ _ _ q=>neg_int q
end
noncomputable def scal:V->V->Bool
 |.non,.non =>true|.non,.int _=>true|.int _,.non =>true|.non,.bl _=>true|.bl _,.non =>true|.non,.str _=>true|.str _,.non =>true
 |.int _,.int _=>true|.bl _,.bl _=>true|.str _,.str _=>true|.byt _,.byt _=>true
 |.int _,.str _=>true|.str _,.int _=>true|.bl _,.str _=>true|.str _,.bl _=>true
 |_,_=>false
noncomputable def rEq:R2:=fun x y H Q=>scal x y=true/\Q (.bl (decide (x=y))) H
noncomputable def rNe:R2:=fun x y H Q=>scal x y=true/\Q (.bl (!decide (x=y))) H
theorem vV8{i j:Int}:decide (V.int i=V.int j)=(i == j):=by
 rw[Bool.eq_iff_iff];simp
theorem vWr{i j:Bool}:decide (V.bl i=V.bl j)=(i == j):=by
 grind
theorem vY9{i j:Str}:decide (V.str i=V.str j)=(i == j):=by
 rw[Bool.eq_iff_iff];simp
theorem vKa{i j:Array UInt8}:decide (V.byt i=V.byt j)=(i.toList == j.toList):=by
 rw[Bool.eq_iff_iff];simp_all
section
variable{X:Cx}{a b c:Expr}{ta tb tc:TE}{pos:Pos}
theorem vE{σ:St}{s:aY}{Q:VK}{k a :Bool}(I:Inv X pins σ H s)(q:Q (.bl k) H)(e:k=a):EP X pins σ Q (.bool a) s:=by
 subst e;exact⟨.bl k,H,I,rfl,q⟩
theorem zKy:OpR X (dX .Eq) rEq:=by
 intro b s σ H x y v u Q I rx ry h;obtain⟨hs,q⟩:=h;cases x with
 | non=>
   cases rx;cases y with
   |non=>cases ry;exact PySem.EqNone.eq_none_none (vE I q (by simp))
   |bl j=>cases ry;exact PySem.EqNone.eq_none_bool (vE I q (by simp))
   |int j=>obtain⟨a,rfl⟩:=ry;exact PySem.EqNone.eq_none_int (vE I q (by simp))
   |str j=>obtain⟨a,rfl⟩:=ry;exact PySem.EqNone.eq_none_str (vE I q (by simp))
   |_=>exact absurd (show false=true from hs) aO
 | bl i=>
   cases rx;cases y with
   |non=>cases ry;exact PySem.EqNone.eq_bool_none (vE I q (by simp))
   |bl j=>cases ry;exact eq_bool (vE I q vWr)
   |str j=>obtain⟨a,rfl⟩:=ry;exact PySem.EqMixed.eq_bool_str (vE I q (by simp))
   |_=>exact absurd (show false=true from hs) aO
 | int i=>
   obtain⟨t,rfl⟩:=rx;cases y with
   |non=>cases ry;exact PySem.EqNone.eq_int_none (vE I q (by simp))
   |int j=>obtain⟨a,rfl⟩:=ry;exact eq_int (vE I q vV8)
   |str j=>obtain⟨a,rfl⟩:=ry;exact PySem.EqMixed.eq_int_str (vE I q (by simp))
   |_=>exact absurd (show false=true from hs) aO
 | str i=>
   obtain⟨t,rfl⟩:=rx;cases y with
   |non=>cases ry;exact PySem.EqNone.eq_str_none (vE I q (by simp))
   |bl j=>cases ry;exact PySem.EqMixed.eq_str_bool (vE I q (by simp))
   |int j=>obtain⟨a,rfl⟩:=ry;exact PySem.EqMixed.eq_str_int (vE I q (by simp))
   |str j=>obtain⟨a,rfl⟩:=ry;exact eq_str (vE I q vY9)
   |_=>exact absurd (show false=true from hs) aO
 | byt i=>
   obtain⟨t,rfl⟩:=rx;cases y with
   |byt j=>obtain⟨a,rfl⟩:=ry;exact PySem.W.eq_bytes (vE I q vKa)
   |_=>exact absurd (show false=true from hs) aO
 |_=>cases y <;> exact absurd (show false=true from hs) aO
theorem zKv:OpR X (dX .NotEq) rNe:=by
 intro b s σ H x y v u Q I rx ry h;obtain⟨hs,q⟩:=h;cases x with
 | non=>
   cases rx;cases y with
   |non=>cases ry;exact PySem.EqNone.ne_none_none (vE I q (by simp))
   |bl j=>cases ry;exact PySem.EqNone.ne_none_bool (vE I q (by simp))
   |int j=>obtain⟨a,rfl⟩:=ry;exact PySem.EqNone.ne_none_int (vE I q (by simp))
   |str j=>obtain⟨a,rfl⟩:=ry;exact PySem.EqNone.ne_none_str (vE I q (by simp))
   |_=>exact absurd (show false=true from hs) aO
 | bl i=>
   cases rx;cases y with
   |non=>cases ry;exact PySem.EqNone.ne_bool_none (vE I q (by simp))
   |bl j=>cases ry;exact ne_bool (vE I q (congrArg not vWr))
   |str j=>obtain⟨a,rfl⟩:=ry;exact PySem.EqMixed.ne_bool_str (vE I q (by simp))
   |_=>exact absurd (show false=true from hs) aO
 | int i=>
   obtain⟨t,rfl⟩:=rx;cases y with
   |non=>cases ry;exact PySem.EqNone.ne_int_none (vE I q (by simp))
   |int j=>obtain⟨a,rfl⟩:=ry;exact ne_int (vE I q (congrArg not vV8))
   |str j=>obtain⟨a,rfl⟩:=ry;exact PySem.EqMixed.ne_int_str (vE I q (by simp))
   |_=>exact absurd (show false=true from hs) aO
 | str i=>
   obtain⟨t,rfl⟩:=rx;cases y with
   |non=>cases ry;exact PySem.EqNone.ne_str_none (vE I q (by simp))
   |bl j=>cases ry;exact PySem.EqMixed.ne_str_bool (vE I q (by simp))
   |int j=>obtain⟨a,rfl⟩:=ry;exact PySem.EqMixed.ne_str_int (vE I q (by simp))
   |str j=>obtain⟨a,rfl⟩:=ry;exact ne_str (vE I q (congrArg not vY9))
   |_=>exact absurd (show false=true from hs) aO
 | byt i=>
   obtain⟨t,rfl⟩:=rx;cases y with
   |byt j=>obtain⟨a,rfl⟩:=ry;exact PySem.W.ne_bytes (vE I q (congrArg not vKa))
   |_=>exact absurd (show false=true from hs) aO
 |_=>cases y <;> exact absurd (show false=true from hs) aO
theorem zKw:OpR X (dX .Lt) (rI0 fun i j=>.bl (decide (i<j))):=opB0 fun _ _ _ _ _ _ _ q=>lt_int q
theorem jJl:OpR X (dX .LtE) (rI0 fun i j=>.bl (decide (i<=j))):=opB0 fun _ _ _ _ _ _ _ q=>le_int q
theorem zKx:OpR X (dX .Gt) (rI0 fun i j=>.bl (decide (j<i))):=opB0 fun _ _ _ _ _ _ _ q=>gt_int q
theorem OpR.or{f:Value->Value->Sem Value}{r b :R2}(h:OpR X f r)(h' :OpR X f b):OpR X f (fun x y H Q=>r x y H Q\/b x y H Q):=by
 intro a s σ H x y v u Q I rx ry q;rcases q with q|q
 ·exact h a s σ H x y v u Q I rx ry q
 ·exact h' a s σ H x y v u Q I rx ry q
theorem xS(b:Expr){op:CmpOp}(h:op≠ .In :=by decide)(h2:op≠ .NotIn :=by decide):behindInMarks op b=false:=by
 have a:(op == CmpOp.In)=false:=by cases op <;> first|rfl|exact absurd rfl h
 have c:(op == CmpOp.NotIn)=false:=by cases op <;> first|rfl|exact absurd rfl h2
 cases b <;> simp[behindInMarks,a,c]
theorem zX6{op:CmpOp}{r:R2}(d:OpR X (dX op) r)(ha:PE X a ta)(hb:PE X b tb)(e:behindInMarks op b=false):PE X (.Compare a [op] [b] pos) (tOp r ta tb):=by
 intro c s σ H Q I h;exact wpAny_Compare1 (binT ha hb I h fun v u f x y g i j k q=>d c f σ g x y v u Q i j k q) e
noncomputable def jZ2(t:TE):TT:=fun σ H Q=>t σ H fun x a =>∃k,x=.bl k/\Q k a
theorem zXp{op:CmpOp}{r:R2}(f:OpR X (dX op) r)(ha:PE X a ta)(hb:PE X b tb)(g:behindInMarks op b=false):PT X (.Compare a [op] [b] pos) (jZ2 (tOp r ta tb)):=by
 intro d s σ H Q I h;refine wpAny_isTrue_Compare1 (thn (ha d s σ H _ I h) fun v i ⟨x,j,l,m,n⟩=>thn (hb d i σ j _ l n) fun u o ⟨y,p,q,t,w⟩=>
  thn (f d o σ p x y v u _ q m t w) fun c E ⟨z,A,B,C,k,e,D⟩=>?_) g
 subst e;cases C;exact wpAny_truthy_bool ⟨A,B,D⟩
theorem qW8:(aS:Nat)<2 ^ 63:=by decide
theorem vW9:OpR X (binaryOp .Add) (fun x y H Q=>∃i j,x=.str i/\y=.str j/\i.length+j.length<=aS/\Q (.str (i ++ j)) H):=by
 intro a s σ H x y v u Q I rx ry h;obtain⟨i,j,rfl,rfl,b,q⟩:=h;obtain⟨t,rfl⟩:=rx;obtain⟨c,rfl⟩:=ry;exact add_str (fun c d=>⟨.str (i ++ j),H,I.tok _,⟨_,rfl⟩,q⟩) b
theorem yG{x:V}(r:Vals [x] us):∃u,us=[u]/\RelV x u:=by
 cases r with
 |cons r1 r2=>cases r2;exact⟨_,rfl,r1⟩
theorem vXn{x:V}(r:Vals [x,y] us):∃u a,us=[u,a]/\RelV x u/\RelV y a :=by
 cases r with
 | cons r1 r2=>
   cases r2 with
   |cons r3 r4=>cases r4;exact⟨_,_,rfl,r1,r3⟩
theorem zQ8:zC X (.type "int") (fun xs H Q=>(∃i,xs=[.int i]/\Q (.int i) H)\/∃k,xs=[.bl k]/\Q (.int (if k then 1 else 0)) H):=by
 intro a s σ H xs us Q I r h;rcases h with⟨i,rfl,q⟩|⟨k,rfl,q⟩
 ·obtain⟨u,rfl,t,rfl⟩:=yG r;exact call_int_int ⟨.int i,H,I,⟨_,rfl⟩,q⟩
 ·obtain⟨u,rfl,b⟩:=yG r;cases b;exact call_int_bool ⟨.int (if k then 1 else 0),H,I.tok _,⟨_,rfl⟩,q⟩
end
structure ObjM(h:Heap)(x dx C:aX)(mA:Str->Option Value):Prop where
 obj:h.get? x=some (dR C dx)
 ns:h.Ns1 dx mA
 ne:dx≠x
theorem vK8{h:Heap}{mA:Str->Option Value}(n:h.Ns1 dx mA):∃c,h.get? dx=some c/\∀name,PySem.W.lookIn name c=some (mA name):=by
 obtain⟨o,d,l,f,g,i,_,j⟩:=n;refine⟨o,f,fun name=>?_⟩;have e:=j name;unfold nsFind findBy at e;rw[←Array.find?_toList]at e;unfold PySem.W.lookIn;rw[g];dsimp only;split
 ·grind
 ·rename_i q;rw[q]at e;have a:d.toList.any (·.refKey)=false:=by
   rw[List.any_eq_false];intro y k;obtain⟨z,t,b⟩:=i y (Array.mem_toList_iff.mp k);simp[DictEntry.refKey,b]
  grind
theorem ObjM.look{h:Heap}{x:aX}{mA:Str->Option Value}(I:ObjM h x dx C mA):∃a,PySem.W.InstAt h x (dR C dx) C (some a)/\∀name,PySem.W.lookIn name a=some (mA name):=
 let ⟨a,ho,hl⟩:=vK8 I.ns
 ⟨a,⟨I.obj,rfl,rfl,ho⟩,hl⟩
section
variable{prog:aA}{w:bW}{A:cQ}{E:Value->aY->Prop}{s:aY}{K:aQ}{x dx C f:aX}{mA:Str->Option Value}{name:Str}{v:Value}
theorem zY3{a:Bool}(X:K.In s.heap)(I:ObjM s.heap x dx C mA)(c:PySem.W.plainGet K C name=true)(d:PySem.W.hasDictIn K C=true)(ha:dQ K (.ref C) name=some none)(e:mA name=some v)(b :PySem.W.handedIn v=true)(h:Q v {s with toks:=s.toks+1}):
  aH (model prog w) A (getAttr (.ref x) name a) Q E s:=by
 obtain⟨g,J,f⟩:=I.look;exact PySem.W.get_value X J (PySem.W.plainGet_of c).1 (PySem.W.findObj_own d ha rfl (by rw[f,e])) b h
theorem zWc{pl:Sem Bool}{Q:Value×List Value->aY->Prop}(X:K.In s.heap)(I:ObjM s.heap x dx C mA)(a:PySem.W.plainGet K C name=true)(b:dQ K (.ref C) name=some (some (.ref f)))(c:PySem.W.isFn K (.ref f)=true)(d:mA name=none)(h:Q (.ref f,[.ref x]) s):
  aH (model prog w) A (getMethod (.ref x) name pl) Q E s:=by
 obtain⟨e,J,g⟩:=I.look;exact PySem.W.method_fn X J (PySem.W.plainGet_of a).1 (PySem.W.plainGet_of a).2 b (beq_iff_eq.mp c) (by show(PySem.W.lookIn name e).map (·.isSome)=some false;rw[g,d];rfl) h
theorem zW5{ns:List Str}{Q:Unit->aY->Prop}(X:K.In s.heap)(I:ObjM s.heap x dx C mA)(hs:dQ K (.ref C) "__setattr__"=some (some (.builtin "object.__setattr__")))(j:PySem.W.plainOver K C=true)(k:PySem.W.takerIn K C name=some none)(l:PySem.W.hasDictIn K C=true)(m:PySem.Within mA ns)(hsz:ns.length<=aS)(h:∀h',ObjM h' x dx C (fun y=>if y=name then some v else mA y)->eX dx s.heap h' ->Q () {s with heap:=h',toks:=s.toks+2}):
  aH (model prog w) A (setAttr (.ref x) name v) Q E s:=by
 obtain⟨t,J,u⟩:=I.look;refine PySem.W.set_plain X J hs (PySem.W.osa_open (s:={s with toks:=s.toks+1}) (r:=none) X J j k fun b=>?_);obtain⟨z,n,e⟩:=PySem.W.any_some l;have o:s.heap.get? x=some ⟨.ref C,some dx,.plain,#[]⟩:=I.obj;refine aV (aW (aV (aV (wpAny_loadPart o (aV (PySem.W.Looks.here (s:={s with toks:=s.toks+1}) (PySem.W.looks_clsIn X n) ?_))))));rw[e];refine aW (a:=some dx) (aV (aW (aV ?_)));refine wpAny_nsSet1 (s:={s with toks:=s.toks+1}) I.ns fun h' c d=>?_
 obtain⟨oD,p,q,f,g,i⟩:=c.count (PySem.Within.cons name v m);refine aV (wpAny_lookBehind f (by rw[g];exact pastItsLine_dict (aR i (by rw[aU];omega))) ?_);exact aW (h _ ⟨(d.2 _ (Ne.symm I.ne)).trans I.obj,c,I.ne⟩ d)
theorem zJv{R:Result->aY->Prop}{vs:List Value}(X:K.In s.heap)(b:PySem.W.makesIn K C=true)(c:dQ K (.ref C) "__init__"=some (some (.ref f)))(e:PySem.W.typeIn K (.ref f)=some (.type "function"))(h:codeAny (model prog w) (A.under (.builtin "type.__call__" ⟨.ref C::vs,kw⟩)) (.call (.ref f) ⟨.ref (s.heap.objs.size+1)::vs,kw⟩) (PySem.W.InitBack (s.heap.objs.size+1) R)
   {s with heap:=(s.heap.push dJ).push (dR C s.heap.objs.size)}):
  codeAny (model prog w) A (.call (.ref C) ⟨vs,kw⟩) R s:=by
 obtain⟨i,g,d,t,j⟩:=s;exact PySem.W.make_core (PySem.W.makes_of X b) (PySem.W.looks_findIn X c) (fun a=>PySem.W.bind_fn X a e) (.inl rfl) h
end
noncomputable def putF(f:Str)(v:V):List (Str×V)->List (Str×V)
 |[]=> [(f,v)]
 |(g,x)::r=>if g=f then(g,v)::r else(g,x)::putF f v r
theorem qX3(f g:Str)(v:V):∀fs:List (Str×V),(putF f v fs).lookup g=if g=f then some v else fs.lookup g
 | []=>by
   show List.lookup g [(f,v)]=_;grind
 | (k,x)::r=>by
   have a:=qX3 f g v r;rw[show putF f v ((k,x)::r)=(if k=f then(k,v)::r else(k,x)::putF f v r) from rfl];grind
theorem qXo(f:Str)(v:V):∀fs:List (Str×V),f∈(putF f v fs).map (·.1)/\∀g,g∈fs.map (·.1)->g∈(putF f v fs).map (·.1)
 |[]=>⟨by simp[putF],fun g h=>by simp at h⟩
 | (k,x)::r=>by
   obtain⟨a,i2⟩:=qXo f v r;rw[show putF f v ((k,x)::r)=(if k=f then(k,v)::r else(k,x)::putF f v r) from rfl];grind
theorem qX4(f:Str)(v:V):∀fs:List (Str×V),(putF f v fs).length <=fs.length+1
 |[]=>by simp[putF]
 | (k,x)::r=>by
   have a:=qX4 f v r;rw[show putF f v ((k,x)::r)=(if k=f then(k,v)::r else(k,x)::putF f v r) from rfl];grind
theorem RelO.some_of{v:V}{o:Option Value}(r:RelO (some v) o):∃u,o=some u/\RelV v u:=by
 cases o with
 |none=>exact(show False from r).elim
 |some u=>exact⟨u,rfl,r⟩
theorem RelO.none_of{o:Option Value}(r:RelO none o):o=none:=by
 cases o with
 |none=>rfl
 |some u=>exact(show False from r).elim
theorem zQj{v:V}{u:Value}(r:RelV v u):PySem.W.handedIn u=true:=by
 cases v with
 |non=>cases(show u=Value.none from r);rfl
 |bl b=>cases(show u=Value.bool b from r);rfl
 |int i=>obtain⟨t,e⟩:=(show∃t,u=Value.int i t from r);cases e;rfl
 |str x=>obtain⟨t,e⟩:=(show∃t,u=Value.str x t from r);cases e;rfl
 |byt b=>obtain⟨t,e⟩:=(show∃t,u=Value.bytes b t from r);cases e;rfl
 |flt b=>obtain⟨t,e⟩:=(show∃t,u=Value.float b t from r);cases e;rfl
 |ref a=>cases(show u=Value.ref a from r);rfl
 |ty n=>cases(show u=Value.type n from r);rfl
section
variable{P:aA}{w:bW}{H H' :Hp}{h h' :Heap}{a C dx:aX}{fs fs' :List (Str×V)}
theorem qYh(b:HOk P w H h)(e:H a=some (.ins C dx fs)):∃mA,ObjM h a dx C mA/\(∀f,RelO (fs.lookup f) (mA f))/\PySem.Within mA (fs.map (·.1))/\fs.length<=1000/\H dx=some (.own a):=by
 obtain⟨d,z,ne,c,mA,n,r,q⟩:=(show zW P w H h a (.ins C dx fs) from b a _ e)
 exact⟨mA,⟨c,n,ne⟩,r,q,z,d⟩
end
structure Cls(K:aQ)(C:aX):Prop where
 pg:PySem.W.plainGet K C Str.empty=true
 hd:PySem.W.hasDictIn K C=true
 po:PySem.W.plainOver K C=true
 sa:dQ K (.ref C) "__setattr__"=some (some (.builtin "object.__setattr__"))
theorem Cls.get(c:Cls K C)(f:Str):PySem.W.plainGet K C f=true:=c.pg
noncomputable def xB(K:aQ)(C:aX)(f:Str):Prop:=dQ K (.ref C) f=some none
theorem xB.taker{f:Str}(n:xB K C f):PySem.W.takerIn K C f=some none:=by
 unfold PySem.W.takerIn;rw[show dQ K (.ref C) f=some none from n];rfl
structure Meth(K:aQ)(C:aX)(m:Str)(f:aX):Prop where
 at_:dQ K (.ref C) m=some (some (.ref f))
 fn:PySem.W.isFn K (.ref f)=true
 kp:cT K (.ref f)=true
section
variable{X:Cx}{pins:List (aX×Obj)}{σ:St}{H:Hp}{s:aY}{a C dx:aX}{fs:List (Str×V)}{f:Str}{v:V}{A:cQ}{E:Value->aY->Prop}
theorem qK1{b:Bool}(I:Inv X pins σ H s)(e:H a=some (.ins C dx fs))(c:Cls X.K C)(n:xB X.K C f)(l:fs.lookup f=some v)(h:∀u s',Inv X pins σ H s' ->RelV v u->Q u s'):aH (model X.prog X.w) A (getAttr (.ref a) f b) Q E s:=by
 obtain⟨mA,O,r,_,_,_⟩:=qYh I.hok e;obtain⟨u,g,d⟩:=RelO.some_of (v:=v) (o:=mA f) (by rw[←l];exact r f);exact zY3 I.kIn O (c.get f) c.hd n g (zQj d) (h u _ (I.tok _) d)
theorem qK0{m:Str}{g:aX}{pl:Sem Bool}{Q:Value×List Value->aY->Prop}(I:Inv X pins σ H s)(e:H a=some (.ins C dx fs))(c:Cls X.K C)(k:Meth X.K C m g)(l:fs.lookup m=none)(h:Q (.ref g,[.ref a]) s):aH (model X.prog X.w) A (getMethod (.ref a) m pl) Q E s:=by
 obtain⟨mA,O,r,_,_,_⟩:=qYh I.hok e;have b:mA m=none:=RelO.none_of (by rw[←l];exact r m);exact zWc I.kIn O (c.get m) k.at_ k.fn b h
theorem qKt{u:Value}{Q:Unit->aY->Prop}(I:Inv X pins σ H s)(e:H a=some (.ins C dx fs))(c:Cls X.K C)(n:xB X.K C f)(hl:fs.length<1000)(k:RelV y u)(h:∀s',Inv X pins σ (upd H a (.ins C dx (putF f y fs))) s' ->Q () s'):aH (model X.prog X.w) A (setAttr (.ref a) f u) Q E s:=by
 obtain⟨mA,O,r,i,_,j⟩:=qYh I.hok e;have l:(fs.map (·.1)).length <=aS:=by rw[aZ,sizeLine_eq];omega
 refine zW5 I.kIn O c.sa c.po n.taker c.hd i l fun m d sb=>h _ ?_
 have p:∃o,m.get? dx=some o:=let ⟨o,_,_,e',_⟩:=d.ns;⟨o,e'⟩;refine I.write (x:=a) (e:=dx) (by rw[e];exact True.intro) (.inr j) (fun b q hb z=>(sb.2 b hb).trans z) p ?_
 refine⟨by rw[qT O.ne];exact j,?_,O.ne,d.obj,_,d.ns,fun g=>?_,fun g t=>?_⟩
 ·have:=qX4 f y fs;omega
 ·show RelO ((putF f y fs).lookup g) (if g=f then some u else mA g);rw[qX3];by_cases q:g=f
  ·rw[if_pos q,if_pos q];exact k
  ·grind
 ·by_cases q:g=f
  ·rw[q];exact(qXo f y fs).1
  ·refine(qXo f y fs).2 g (i g fun z=>t ?_);grind
theorem Inv.made(I:Inv X pins σ H s):Inv X pins σ (upd (upd H s.heap.objs.size (.own (s.heap.objs.size+1))) (s.heap.objs.size+1) (.ins C s.heap.objs.size []))
  {s with heap:=(s.heap.push dJ).push (dR C s.heap.objs.size)}:=by
 have c:(s.heap.push dJ).get? s.heap.objs.size=some dJ:=aP s.heap rfl;have d:((s.heap.push dJ).push (dR C s.heap.objs.size)).get? (s.heap.objs.size+1)=some (dR C s.heap.objs.size):=by
  have:=aP (s.heap.push dJ) (o:=dR C s.heap.objs.size) rfl;rwa [bP]at this
 have f:(s.heap.push dJ).Ns s.heap.objs.size (fun _=>none):=⟨dJ,#[],_,c,rfl,(fun e g=>absurd g (by simp)),fun _=>rfl⟩
 have h:=I.laid (a:=s.heap.objs.size) (o:=.own (s.heap.objs.size+1)) (h' :=s.heap.push dJ) (t' :=s.toks) (fun b u q=>aJ _ q) (aC _) ⟨_,c⟩;refine h.laid (a:=s.heap.objs.size+1) (o:=.ins C s.heap.objs.size []) (t' :=s.toks) (fun b u q=>aJ _ q) (Nat.le_of_eq (bP _ _)) ?_
 have ne:s.heap.objs.size≠s.heap.objs.size+1:=bQ (Nat.lt_succ_self _);refine⟨by rw[qT ne,upd_same],cF _,ne,d,fun _=>none,(Heap.Ns1.of_empty f).at fun o q=>aJ _ q,fun _=>True.intro,fun y i=>absurd rfl i⟩
theorem zKi{prog:aA}{w:bW}{env:Env}{e:Expr}{f:Str}{s:aY}(hb:attributeBase e f env (eval e env)=eval e env)(h:aH (model prog w) A (eval e env) (fun o s₁=>aH (model prog w) A (getAttr o f true) Q E s₁) E s):aH (model prog w) A (eval (.Attribute e f pos) env) Q E s:=
 Attribute_any_ h (by rw[arm_eval_Attribute,hb])
end
noncomputable def tFld(K:aQ)(c:TE)(f:Str):TE:=fun σ H Q=>c σ H fun x b=>∃a C d fs v,x=.ref a/\b a=some (.ins C d fs)/\Cls K C/\xB K C f/\fs.lookup f=some v/\Q v b
noncomputable def sFld(K:aQ)(d e:TE)(f:Str):TS:=fun D σ H=>e σ H fun y g=>d σ g fun x b=>∃a C c fs,x=.ref a/\b a=some (.ins C c fs)/\Cls K C/\xB K C f/\fs.length<1000/\
 D.nx σ (upd b a (.ins C c (putF f y fs)))
noncomputable def InOp(X:Cx)(op:Operator)(a:V->V->Hp->VK->Prop):Prop:=
 ∀(pins:List (aX×Obj)) (s:aY) (σ:St) (H:Hp) (x y:V) (u v:Value) (Q:VK),Inv X pins σ H s->RelV x u->RelV y v->a x y H Q->aH (model X.prog X.w) X.A (inplaceOp op u v) (EP X pins σ Q) X.xe s
noncomputable def zXc(K:aQ)(g h:TE)(i:V->V->Hp->VK->Prop)(f:Str):TS:=fun D σ H=>g σ H fun x d=>∃a C j fs v,x=.ref a/\d a=some (.ins C j fs)/\Cls K C/\xB K C f/\fs.lookup f=some v/\
 h σ d fun y k=>i v y k fun z e=>∃c b,e a=some (.ins C c b)/\b.length<1000/\D.nx σ (upd e a (.ins C c (putF f z b)))
section
variable{X:Cx}{o e value:Expr}{f:Str}{pos pos' tpos:Pos}{ta tv:TE}
theorem jVq(d:PE X e ta)(hb:attributeBase e f X.env (eval e X.env)=eval e X.env):PE X (.Attribute e f pos) (tFld X.K ta f):=by
 intro b s σ H Q I h;refine zKi hb (thn (d b s σ H _ I h) fun u r ⟨x,g,i,j,a,C,t,fs,v,k,m,c,n,l,q⟩=>?_);subst k;obtain rfl:u=Value.ref a:=j;exact qK1 i m c n l fun w y o p=>⟨v,g,o,p,q⟩
theorem jQ9(ha:PE X o ta)(d:PE X value tv)(hs:swapsWith value (some (.Attribute o f pos')) pos.line X.env=pure false):PS X (.Assign [.Attribute o f pos'] value pos) (sFld X.K ta tv f):=by
 intro b s σ H D I h;refine plainObj_wpAny_Assign_Attribute (thn (d b s σ H _ I h) fun u e ⟨y,g,i,j,q⟩=>thn (ha b e σ g _ i q) fun k z ⟨x,A,m,p,a,C,B,fs,r,t,c,n,l,v⟩=>?_) hs;subst r;obtain rfl:k=Value.ref a:=p;exact qKt m t c n l j fun E w=>⟨σ,_,w,v⟩
theorem vKs{op:Operator}{g:V->V->Hp->VK->Prop}(ha:PE X o ta)(i:PE X value tv)(d:InOp X op g):PS X (.AugAssign (.Attribute o f tpos) op value pos) (zXc X.K ta tv g f):=by
 intro b s σ H D I h;refine wpAny_AugAssign_AttributeAny (thn (ha b s σ H _ I h) fun j U ⟨x,k,m,p,a,C,W,fs,v,r,t,c,n,l,q⟩=>?_);subst r;obtain rfl:j=Value.ref a:=p;refine qK1 m t c n l fun u w A B=>thn (i b w σ k _ A q) fun E F ⟨y,G,J,L,M⟩=>thn (d b F σ G v y u E _ J B L M) fun Y Z ⟨z,H3,N,O,P,Q,e,R,S⟩=>?_
 exact qKt N e c n R O fun s5 T=>⟨σ,_,T,S⟩
end
section
variable{X:Cx}{pins:List (aX×Obj)}{σ:St}{H:Hp}{s:aY}{A:cQ}{E:Value->aY->Prop}{Q:Value->aY->Prop}{c:Value}{b:Bool}
inductive TyOf(K:aQ)(H:Hp):V->Value->Prop where
 |non:TyOf K H .non (.type "NoneType")
 |bl (x:Bool):TyOf K H (.bl x) (.type "bool")
 |int (i:Int):TyOf K H (.int i) (.type "int")
 |str (x:Str):TyOf K H (.str x) (.type "str")
 |flt (x:UInt64):TyOf K H (.flt x) (.type "float")
 |lst {a:aX} {xs:List V} (e:H a=some (.lst xs)):TyOf K H (.ref a) (.type "list")
 |frz {a:aX} {o:Obj} {xs:List V} (e:H a=some (.frz o (.lst xs))):TyOf K H (.ref a) (.type "list")
 |tup {a:aX} {xs:List V} (e:H a=some (.tup xs)):TyOf K H (.ref a) (.type "tuple")
 |dK {a:aX} {kvs:List (Key×V)} (e:H a=some (.dK kvs)):TyOf K H (.ref a) (.type "dict")
 |dZ {a:aX} {o:Obj} {kvs:List (Key×V)} (e:H a=some (.frz o (.dK kvs))):TyOf K H (.ref a) (.type "dict")
 |dT {a:aX} {kvs:List (List Key×V)} (e:H a=some (.dT kvs)):TyOf K H (.ref a) (.type "dict")
 | ins {a C dx:aX} {fs:List (Str×V)} (e:H a=some (.ins C dx fs)) (cl:Cls K C) (ha:dQ K (.ref C) "__class__"=some (some (.builtin "object.__class__")))
   (hn:PySem.W.specialIn K (.builtin "object.__class__") "__get__"=some (some (.builtin "getset_descriptor.__get__"))) (htk:PySem.W.takesIn K (.builtin "object.__class__")=some true)
   (hm:PySem.W.mroIn K C (.type "object")=some true):TyOf K H (.ref a) (.ref C)
theorem vQ7{x:V}{u t:Value}(I:Inv X pins σ H s)(d:RelV x u)(m:TyOf X.K H x t)(e:cX X.K t c=some b)(h:∀tk,Q (.bool b) {s with toks:=tk}):
  aH (model X.prog X.w) A (call (.builtin "isinstance") [u,c]) Q E s:=by
 cases m with
 |non=>cases(show u=Value.none from d);exact bA PySem.W.kitx_none I.kIn True.intro e (fun z=>nomatch z) h
 |bl y=>cases(show u=Value.bool y from d);exact bA PySem.W.kitx_bool I.kIn True.intro e (fun z=>nomatch z) h
 |int i=>obtain⟨t,q⟩:=(show∃t,u=Value.int i t from d);cases q;exact bA PySem.W.kitx_int I.kIn True.intro e (fun z=>nomatch z) h
 |str y=>obtain⟨t,q⟩:=(show∃t,u=Value.str y t from d);cases q;exact bA PySem.W.kitx_str I.kIn True.intro e (fun z=>nomatch z) h
 |flt y=>obtain⟨t,q⟩:=(show∃t,u=Value.float y t from d);cases q;exact bA PySem.W.kitx_float I.kIn True.intro e (fun z=>nomatch z) h
 | @lst a j ea=>
   cases(show u=Value.ref a from d);obtain⟨_,_,n,_,f⟩:=(show zW X.prog X.w H s.heap a (.lst j) from I.hok a _ ea)
   exact bA PySem.W.kitx_list I.kIn ⟨_,f,rfl⟩ e (fun z=>nomatch z) h
 | @frz a ob j ea=>
   cases(show u=Value.ref a from d);obtain⟨_,_,_,n,_,f⟩:=(show zW X.prog X.w H s.heap a (.frz ob (.lst j)) from I.hok a _ ea)
   exact bA PySem.W.kitx_list I.kIn ⟨_,f,rfl⟩ e (fun z=>nomatch z) h
 | @tup a j ea=>
   cases(show u=Value.ref a from d);obtain⟨_,_,_,p⟩:=(show zW X.prog X.w H s.heap a (.tup j) from I.hok a _ ea)
   obtain⟨o,f,g,_⟩:=p;exact bA PySem.W.kitx_tuple I.kIn ⟨o,f,g⟩ e (fun z=>nomatch z) h
 | @dK a kvs ea=>
   cases(show u=Value.ref a from d);obtain⟨_,_,r,_,p⟩:=(show zW X.prog X.w H s.heap a (.dK kvs) from I.hok a _ ea)
   obtain⟨o,k,l,f,g,_⟩:=p;exact bA PySem.W.kitx_dict I.kIn ⟨o,f,g.1⟩ e (fun z=>nomatch z) h
 | @dZ a ob kvs ea=>
   cases(show u=Value.ref a from d);obtain⟨_,_,_,r,_,p⟩:=(show zW X.prog X.w H s.heap a (.frz ob (.dK kvs)) from I.hok a _ ea)
   obtain⟨o,k,l,f,g,_⟩:=p;exact bA PySem.W.kitx_dict I.kIn ⟨o,f,g.1⟩ e (fun z=>nomatch z) h
 | @dT a kvs ea=>
   cases(show u=Value.ref a from d);obtain⟨_,_,j,_,o,k,l,f,g,_⟩:=(show zW X.prog X.w H s.heap a (.dT kvs) from I.hok a _ ea)
   exact bA PySem.W.kitx_dict I.kIn ⟨o,f,g.1⟩ e (fun z=>nomatch z) h
 | @ins a C dx fs ea cl ha hn htk hm=>
   cases(show u=Value.ref a from d);obtain⟨mA,O,_⟩:=qYh I.hok ea;obtain⟨v,J,_⟩:=O.look;exact bA (PySem.W.kitx_own (cl.get _) cl.hd ha hn htk hm) I.kIn J e (fun z=>nomatch z) h
end
structure Room(k:Nat)(A:cQ):Prop where
 hd:A.handled=none
 dp:A.depth+3 * k+5<recursionLimit
 un:A.units+16 * k+200<eA
 gd:A.guards=some []
theorem Room.mono{k:Nat}(r:Room k A)(h:j<=k):Room j A:=⟨r.hd,by have:=r.dp;omega,by have:=r.un;omega,r.gd⟩
theorem Room.deeper{k:Nat}(r:Room (k+1) A)(env:Env):Room k (A.deeper env):=
 ⟨r.hd,by have:=r.dp;show A.depth+1+3 * k+5<_;omega,by have:=r.un;show A.units+3+16 * k+200<_;omega,r.gd⟩
theorem vXc:(A.under (.builtin "type.__call__" ⟨.ref C::us,kw⟩)).depth =A.depth+1:=by
 first|rfl|simp[guardIds]
theorem vXb:(A.under (.builtin "type.__call__" ⟨.ref C::us,kw⟩)).units =A.units+1:=by
 first|rfl|simp[Code.frames]
theorem vJ5:(A.under (.builtin "type.__call__" ⟨.ref C::us,kw⟩)).guards =A.guards:=by
 first|rfl|simp[guardIds]
theorem Room.make{k:Nat}(r:Room (k+1) A)(C:aX)(us:List Value)(a:List (Str×Value)):Room k (A.under (.builtin "type.__call__" ⟨.ref C::us,a⟩)):=
 ⟨r.hd,by have:=r.dp;rw[vXc];omega,by have:=r.un;rw[vXb];omega,by rw[vJ5];exact r.gd⟩
theorem Room.depth{k:Nat}(r:Room k A):A.depth<recursionLimit:=by have:=r.dp;omega
theorem Room.units{k:Nat}(r:Room k A):A.units+64<eA:=by have:=r.un;omega
noncomputable def tNil:TA:=fun _ H Q=>Q [] H
noncomputable def vZz(a:TE)(b:TA):TA:=fun σ H Q=>a σ H fun x c=>b σ c fun d e=>Q (x::d) e
section
variable{X:Cx}{e:Expr}{es:List Expr}{te:TE}{t:TA}{pos:Pos}
theorem qJ0:PA X [] tNil:=fun _ _ _ _ H Q I h=>Calls.spliced_nil ⟨[],H,I,.nil,h⟩
theorem yY(ha:PE X e te)(c:PA X es t)(hs:aK (e::es) X.env=(false,eval e X.env)::aK es X.env:=by rfl):PA X (e::es) (vZz te t):=by
 intro b a s σ H Q I h;rw[hs];refine Calls.spliced_cons (thn (ha a s σ H _ I h) fun u d ⟨x,f,g,i,j⟩=>?_);exact thn (c b a d σ f _ g j) fun p q ⟨k,l,m,n,o⟩=>⟨x::k,l,m,.cons i n,o⟩
noncomputable def tTup(t:TA):TE:=fun σ H Q=>t σ H fun a b=>a.length<=aS/\∀p,b p=none->Q (.ref p) (upd b p (.tup a))
noncomputable def tLst(t:TA):TE:=fun σ H Q=>t σ H fun a b=>a.length<=aS/\∀p,b p=none->Q (.ref p) (upd b p (.lst a))
theorem jVk{x1}(h:PA X es t):PE X (.Tuple es x1 pos) (tTup t):=by
 intro a s σ H Q I hq;refine wpAny_Tuple_spliced (thn (h pos a s σ H _ I hq) fun g c ⟨i,d,f,r,z,q⟩=>⟨by rw[←r.length];exact z,?_⟩);have j:d c.heap.objs.size=none:=f.hok.fresh (aC _);refine⟨.ref c.heap.objs.size,upd d c.heap.objs.size (.tup i),f.laid (t' :=c.toks) (fun b u e=>aJ _ e) (aC _) ?_,rfl,q _ j⟩;exact⟨z,g,r,⟨_,aP _ rfl,rfl,_,rfl⟩⟩
theorem jVo(h:PA X es t):PE X (.List es pos) (tLst t):=by
 intro a s σ H Q I hq;refine wpAny_List_spliced (thn (h pos a s σ H _ I hq) fun g c ⟨i,d,f,r,z,q⟩=>⟨by rw[←r.length];exact z,?_⟩);have j:d c.heap.objs.size=none:=f.hok.fresh (aC _);refine⟨.ref c.heap.objs.size,upd d c.heap.objs.size (.lst i),f.laid (t' :=c.toks) (fun b u e=>aJ _ e) (aC _) ?_,rfl,q _ j⟩;exact⟨z,g,0,r,aP _ rfl⟩
end
noncomputable abbrev Sp:=List V->Hp->VK->XK->Prop
noncomputable abbrev CXT:=List Env->Hp->aY->XK->Value->aY->Prop
structure Env0(P:aA)(w:bW)(K:aQ)(mg:Str->Option Value)(base:Heap)(A:cQ)(outer:List Env)(s:aY)(H:Hp):Prop where
 frames:A.frames=some outer
 mod:Mod K mg base
 bs:∀b o,base.get? b=some o->s.heap.get? b=some o/\H b=none
 bsz:base.objs.size<=s.heap.objs.size
 funs:s.heap.FunFrames base outer
 frf:∀b∈frs outer,H b=none
 hok:HOk P w H s.heap
 bare:AllBare s.gens
noncomputable def CE(a:List Env)(P:aA)(w:bW)(H:Hp)(s:aY)(Q:VK)(u:Value)(b :aY):Prop:=
 ∃v c,b.os=s.os/\AllBare b.gens/\Un (frs a) [] H c s.heap b.heap/\HOk P w c b.heap/\RelV v u/\Q v c
noncomputable def CR(CX:CXT)(a:List Env)(P:aA)(w:bW)(H:Hp)(s:aY)(Q:VK)(E:XK)(r:Result)(b :aY):Prop:=
 match r with
 |.ok (.ret u)=>CE a P w H s Q u b
 |.ok _=>False
 |.error e=>CX a H s E e b
structure FnOk(P:aA)(w:bW)(K:aQ)(mg:Str->Option Value)(base:Heap)(CX:CXT)(k:Nat)(f:aX)(fd:bJ)(ps:List Str)(sp:Sp):Prop where
 len:∀vs H Q E,sp vs H Q E->vs.length=ps.length
 run:∀(A:cQ) (outer:List Env) (s:aY) (H:Hp) (args:Args) (us:List Value) (vs:List V) (Q:VK) (E:XK),Room k A->Env0 P w K mg base A outer s H->BindsTo s fd args (ps.zip us)->Vals vs us->sp vs H Q E->
  codeAny (model P w) A (.call (.ref f) args) (CR CX outer P w H s Q E) s
theorem FnOk.imp{P:aA}{w:bW}{k:Nat}{f:aX}{b:Sp}(F:FnOk P w K mg base CX k f fd ps sp)(h:∀vs H Q E,b vs H Q E->sp vs H Q E):FnOk P w K mg base CX k f fd ps b :=
 ⟨fun vs H Q E q=>F.len vs H Q E (h _ _ _ _ q),fun A a s H c d vs Q E e g hb i hs=>F.run A a s H c d vs Q E e g hb i (h _ _ _ _ hs)⟩
theorem Env0.make{P:aA}{w:bW}{s:aY}(e:Env0 P w K mg base A outer s H)(C:aX)(us:List Value)(a:List (Str×Value)):
  Env0 P w K mg base (A.under (.builtin "type.__call__" ⟨.ref C::us,a⟩)) outer s H:=⟨by first|exact e.frames|(simpa[Around.under,Code.envs,Code.isFrame,pushEnvs] using e.frames),e.mod,e.bs,e.bsz,e.funs,e.frf,e.hok,e.bare⟩
section
variable{X:Cx}{pins:List (aX×Obj)}{σ:St}{H:Hp}{s s' :aY}
theorem Inv.env0(I:Inv X pins σ H s):Env0 X.prog X.w X.K X.mg X.base X.A X.stack s H:=
 ⟨I.ok.frames,I.ok.mod,I.bs,aR I.ok.bsz I.sz,I.stack,I.stkFree,I.hok,I.bare⟩
theorem Inv.after{Q:VK}{u:Value}(I:Inv X pins σ H s)(h:CE X.stack X.prog X.w H s Q u s'):EP X pins σ Q u s' :=by
 obtain⟨v,f,i,a,un,c,r,q⟩:=h;obtain⟨j,g,d,t,e⟩:=s';obtain rfl:e =s.os:=i;exact⟨v,f,I.call (h' :=j) (g' :=g) (d' :=d) (t' :=t) (ch:=[]) un c a (fun b z=>absurd z (by simp)),r,q⟩
end
noncomputable def zVb(sp:Sp)(a:List V)(E:XK)(t:TA):TE:=fun σ H Q=>t σ H fun b c=>sp (b ++ a) c Q E
noncomputable def vXo(C:aX)(m:Str)(sp:Sp)(b:List V)(E:XK)(d:TE)(t:TA):TE:=fun σ H Q=>d σ H fun x c=>∃a e fs,x=.ref a/\c a=some (.ins C e fs)/\fs.lookup m=none/\
 t σ c fun f g=>sp (x::(f ++ b)) g Q E
noncomputable def zQ9(C:aX)(sp:Sp)(b:List V)(E:XK)(t:TA):TE:=fun σ H Q=>t σ H fun d c=>∀x a,c x=none->c a=none->a≠x->
 sp (.ref x::(d ++ b)) (upd (upd c a (.own x)) x (.ins C a [])) (fun v e=>v=.non /\Q (.ref x) e) E
noncomputable def wD(K:aQ)(a:bJ)(ps:List Str)(ds:List Value):Prop:=
 ∀(s:aY) (us:List Value),K.In s.heap->(us ++ ds).length =ps.length->BindsTo s a ⟨us,[]⟩ (ps.zip (us ++ ds))
theorem wD.all(h:∀us:List Value,us.length=ps.length->bindArgs fd ⟨us,[]⟩=pure (ps.zip us)):wD K fd ps []:=fun s us _ a=>by
 rw[cY]at a⊢;exact .of_eq (h us a)
noncomputable def zN(CX:CXT)(X:Cx)(E:XK):Prop:=∀(pins:List (aX×Obj)) (σ:St) (H:Hp) (s:aY) (e:Value) (s' :aY),Inv X pins σ H s->CX X.stack H s E e s' ->X.xe e s'
section
variable{X:Cx}{CX:CXT}{k:Nat}{f C:aX}{fd:bJ}{ps:List Str}{sp:Sp}{dvs:List V}{ds:List Value}{E:XK}{x m:Str}{p pos apos:Pos}{e o:Expr}{es:List Expr}{ta:TE}{t:TA}
theorem vVk{σ:St}{s:aY}{Q:VK}(F:FnOk X.prog X.w X.K X.mg X.base CX k f fd ps sp)(c:Room k X.A)(hb:wD X.K fd ps ds)(d:Vals dvs ds)(g:zN CX X E)(I:Inv X pins σ H s)(r:Vals vs us)(h:sp (vs ++ dvs) H Q E):aH (model X.prog X.w) X.A (call (.ref f) us) (EP X pins σ Q) X.xe s:=by
 have b:Vals (vs ++ dvs) (us ++ ds):=r.append d;have i:(us ++ ds).length =ps.length:=by rw[←b.length];exact F.len _ _ _ _ h
 refine wpAny_call (codeAny_mono (F.run X.A X.stack s H ⟨us,[]⟩ (us ++ ds) (vs ++ dvs) Q E c I.env0 (hb s us I.kIn i) b h) fun r j a=>?_);cases r with
 |error e=>exact g pins σ H s e j I a
 | ok fl=>
   cases fl with
   |ret u=>exact I.after a
   |next=>exact False.elim a
   |brk=>exact False.elim a
   |cont=>exact False.elim a
theorem zX7(F:FnOk X.prog X.w X.K X.mg X.base CX k f fd ps sp)(g:Room k X.A)(i:Gl X x)(j:X.mg x=some (.ref f))(hk:cT X.K (.ref f)=true)(hb:wD X.K fd ps ds)(l:Vals dvs ds)(m:zN CX X E)(ha:PA X (e::es) t)(b:(x == ("__debug__":Str))=false:=by decide)(n:aK (e::es) X.env=(false,eval e X.env)::aK es X.env:=by rfl)(c:(cK pos (aK es X.env)).any (·.1)=false:=by rfl):
  PE X (.Call (.Name x p) (e::es) [] pos) (zVb sp dvs E t):=by
 intro a s σ H Q I h;refine eI (qWq I i j ?_ b);refine PySem.W.callWith_K (h₀:=X.base) I.ok.mod.kin hk (thn (ha pos a s σ H _ I h) fun o u ⟨v,y,d,r,q⟩=>⟨d.kIn,?_⟩) n c;exact vVk F g hb l m d r q
theorem zJk(F:FnOk X.prog X.w X.K X.mg X.base CX k f fd ps sp)(c:Room k X.A)(d:Gl X x)(e:X.mg x=some (.ref f))(hk:cT X.K (.ref f)=true)(hb:wD X.K fd ps ds)(g:Vals dvs ds)(i:zN CX X E)(a:(x == ("__debug__":Str))=false:=by decide):PE X (.Call (.Name x p) [] [] pos) (zVb sp dvs E tNil):=by
 intro b s σ H Q I h;refine eI (qWq I d e ?_ a);exact PySem.W.callWith_K0 I.kIn hk (vVk (us:=[]) F c hb g i I .nil h)
theorem vYk{pl:Sem Bool}(p:PE X o ta)(c:Cls X.K C)(i:Meth X.K C m f)(F:FnOk X.prog X.w X.K X.mg X.base CX k f fd ps sp)(v:Room k X.A)(hb:wD X.K fd ps ds)(y:Vals dvs ds)(z:zN CX X E)(ha:PA X (e::es) t)(d:aK (e::es) X.env=(false,eval e X.env)::aK es X.env:=by rfl)(g:(cK pos (aK es X.env)).any (·.1)=false:=by rfl)(B:eval (.Call (.Attribute o m apos) (e::es) [] pos) X.env=(do
   let ov ←eval o X.env;standAt apos.atName;let (f,first) ←holding [ov] (getMethod ov m pl);callWith pos f first (cK pos (aK (e::es) X.env)) (backToKw pos (keywordEach [] X.env))):=by rfl):
  PE X (.Call (.Attribute o m apos) (e::es) [] pos) (vXo C m sp dvs E ta t):=by
 intro b s σ H Q I h;refine PySem.W.methodCall_KW (pl:=pl) (thn (p b s σ H _ I h) fun u D ⟨x,G,j,J,a,O,fs,L,M,l,q⟩=>?_) B;subst L;obtain rfl:u=Value.ref a:=J;refine qK0 j M c i l ?_
 refine PySem.W.callWith_K (first:=[.ref a]) (h₀:=X.base) I.ok.mod.kin i.kp (thn (ha pos b D σ G _ j q) fun us P ⟨vs,R,n,r,N⟩=>⟨n.kIn,?_⟩) d g;exact vVk (us:=.ref a::us) (vs:=.ref a::vs) F v hb y z n (.cons rfl r) N
theorem zJg{pl:Sem Bool}(g:PE X o ta)(c:Cls X.K C)(e:Meth X.K C m f)(F:FnOk X.prog X.w X.K X.mg X.base CX k f fd ps sp)(i:Room k X.A)(hb:wD X.K fd ps ds)(j:Vals dvs ds)(n:zN CX X E)(p:eval (.Call (.Attribute o m apos) [] [] pos) X.env=(do
   let ov ←eval o X.env;standAt apos.atName;let (f,first) ←holding [ov] (getMethod ov m pl);callWith pos f first (cK pos (aK [] X.env)) (backToKw pos (keywordEach [] X.env))):=by rfl):
  PE X (.Call (.Attribute o m apos) [] [] pos) (vXo C m sp dvs E ta tNil):=by
 intro b s σ H Q I h;refine PySem.W.methodCall_KW (pl:=pl) (thn (g b s σ H _ I h) fun u y ⟨x,z,d,r,a,B,fs,t,v,l,q⟩=>?_) p;subst t;obtain rfl:u=Value.ref a:=r;refine qK0 d v c e l ?_
 exact PySem.W.callWith_K0 (first:=[.ref a]) d.kIn e.kp (vVk (us:=[.ref a]) (vs:=[.ref a]) F i hb j n d (.cons rfl .nil) q)
structure Mk(K:aQ)(C f:aX):Prop where
 makes:PySem.W.makesIn K C=true
 init:dQ K (.ref C) "__init__"=some (some (.ref f))
 fn:PySem.W.isFn K (.ref f)=true
 kp:cT K (.ref C)=true
theorem vJg{σ:St}{s:aY}{Q:VK}(M:Mk X.K C f)(F:FnOk X.prog X.w X.K X.mg X.base CX k f fd ps sp)(g:Room (k+1) X.A)(hb:wD X.K fd ps ds)(i:Vals dvs ds)(j:zN CX X E)(I:Inv X pins σ H s)(r:Vals vs us)(h:∀x dx,H x=none->H dx=none->dx≠x->sp (.ref x::(vs ++ dvs)) (upd (upd H dx (.own x)) x (.ins C dx [])) (fun v H2=>v=.non /\Q (.ref x) H2) E):
  aH (model X.prog X.w) X.A (call (.ref C) us) (EP X pins σ Q) X.xe s:=by
 have c:=h (s.heap.objs.size+1) s.heap.objs.size (I.hok.fresh (Nat.le_succ _)) (I.hok.fresh (aC _)) (bQ (Nat.lt_succ_self _));have b:=Inv.made (C:=C) I;have d:Vals (V.ref (s.heap.objs.size+1)::(vs ++ dvs)) (Value.ref (s.heap.objs.size+1)::(us ++ ds)):=.cons rfl (r.append i);have l:(Value.ref (s.heap.objs.size+1)::us ++ ds).length =ps.length:=by
  have e:=d.length;rw[F.len _ _ _ _ c]at e;exact e.symm
 refine wpAny_call (zJv (f:=f) I.kIn M.makes M.init (beq_iff_eq.mp M.fn) (codeAny_mono (F.run _ X.stack _ _ ⟨Value.ref (s.heap.objs.size+1)::us,[]⟩ (Value.ref (s.heap.objs.size+1)::(us ++ ds)) _ _ E (g.make C us [])
  (b.env0.make C us []) (hb _ (Value.ref (s.heap.objs.size+1)::us) b.kIn l) d c) fun r m a =>?_))
 cases r with
 |error e=>exact j pins σ _ _ e m b a
 | ok fl=>
   cases fl with
   | ret u=>
     obtain⟨v,n,o,p,q,t⟩:=b.after a;subst q;exact⟨p,⟨V.ref (s.heap.objs.size+1),n,o,rfl,t⟩⟩
   |next=>exact False.elim a
   |brk=>exact False.elim a
   |cont=>exact False.elim a
theorem zX4(M:Mk X.K C f)(F:FnOk X.prog X.w X.K X.mg X.base CX k f fd ps sp)(g:Room (k+1) X.A)(i:Gl X x)(j:X.mg x=some (.ref C))(hb:wD X.K fd ps ds)(l:Vals dvs ds)(m:zN CX X E)(ha:PA X (e::es) t)(b:(x == ("__debug__":Str))=false:=by decide)(n:aK (e::es) X.env=(false,eval e X.env)::aK es X.env:=by rfl)(c:(cK pos (aK es X.env)).any (·.1)=false:=by rfl):
  PE X (.Call (.Name x p) (e::es) [] pos) (zQ9 C sp dvs E t):=by
 intro a s σ H Q I h;refine eI (qWq I i j ?_ b);refine PySem.W.callWith_K (h₀:=X.base) I.ok.mod.kin M.kp (thn (ha pos a s σ H _ I h) fun o u ⟨v,y,d,r,q⟩=>⟨d.kIn,?_⟩) n c;exact vJg M F g hb l m d r q
theorem zJh(M:Mk X.K C f)(F:FnOk X.prog X.w X.K X.mg X.base CX k f fd ps sp)(c:Room (k+1) X.A)(d:Gl X x)(e:X.mg x=some (.ref C))(hb:wD X.K fd ps ds)(g:Vals dvs ds)(i:zN CX X E)(a:(x == ("__debug__":Str))=false:=by decide):PE X (.Call (.Name x p) [] [] pos) (zQ9 C sp dvs E tNil):=by
 intro b s σ H Q I h;refine eI (qWq I d e ?_ a);exact PySem.W.callWith_K0 I.kIn M.kp (vJg (us:=[]) M F c hb g i I .nil h)
end
structure FnScope(N P:List Str)(sc:Scope):Prop where
 kind:sc.kind=.function
 co:sc.isCoroutine=false
 gen:sc.isGenerator=false
 nd:N.Nodup
 pre:N.take P.length=P
 par:∀x∈P,sc.names.lookup x=some .local \/sc.names.lookup x=some .cell
 nofree:∀y∈sc.names,y.2≠ .free
theorem vVd{x:Str}:∀{binds:List (Str×Value)} {m:Str->Option Value},(∀v,(x,v)∉binds)->bindL kindOf binds m x=m x
 |[],_,_=>rfl
 | (n,v)::r,m,h=>by
   unfold bindL;rw[vVd fun w a=>h w (aI _ a)];split
   ·grind
   ·rfl
theorem vVf{x:Str}:∀{binds:List (Str×Value)} {m:Str->Option Value},(∀v,(x,v)∉binds)->bindC kindOf binds m x=m x
 |[],_,_=>rfl
 | (n,v)::r,m,h=>by
   unfold bindC;rw[vVf fun w a=>h w (aI _ a)];split
   ·rfl
   ·grind
theorem vVe{x:Str}{v:Value}:∀{P:List Str} {vs:List Value} {i:Nat} {m:Str->Option Value},P.Nodup->P[i]?=some x->vs[i]?=some v->kindOf x=some .local ->
  bindL kindOf (P.zip vs) m x=some v
 |[],_,_,_,_,h,_,_=>by simp at h
 |_::_,[],_,_,_,_,h,_=>by simp at h
 | p::P,w::vs,0,m,nd,h1,h2,hk=>by
   simp at h1 h2;subst h1;subst h2;show bindL kindOf ((p,w)::P.zip vs) m p=_;unfold bindL;rw[vVd fun v a=>(dW.mp nd).1 (List.of_mem_zip a).1,if_pos hk];simp
 | p::P,w::vs,i + 1,m,nd,h1,h2,hk=>by
   unfold bindL;exact vVe (i:=i) (dW.mp nd).2 (by simpa using h1) (by simpa using h2) hk
theorem vVg{x:Str}{v:Value}:∀{P:List Str} {vs:List Value} {i:Nat} {m:Str->Option Value},P.Nodup->P[i]?=some x->vs[i]?=some v->kindOf x≠some .local ->
  bindC kindOf (P.zip vs) m x=some v
 |[],_,_,_,_,h,_,_=>by simp at h
 |_::_,[],_,_,_,_,h,_=>by simp at h
 | p::P,w::vs,0,m,nd,h1,h2,hk=>by
   simp at h1 h2;subst h1;subst h2;show bindC kindOf ((p,w)::P.zip vs) m p=_;unfold bindC;rw[vVf fun v a=>(dW.mp nd).1 (List.of_mem_zip a).1,if_neg hk];simp
 | p::P,w::vs,i + 1,m,nd,h1,h2,hk=>by
   unfold bindC;exact vVg (i:=i) (dW.mp nd).2 (by simpa using h1) (by simpa using h2) hk
noncomputable def qZa(N:List Str)(vs:List V):St:=vs.map some ++ List.replicate (N.length - vs.length) none
noncomputable def cxOf(CX:CXT)(P:aA)(w:bW)(K:aQ)(i:Str->Option Value)(g:Heap)(N:List Str)(c:Str)(a:Scope)(f:aX)(h:Value)(A:cQ)(b:List Env)(s:aY)(H:Hp)(E:XK):Cx where
 prog:=P;w:=w;K:=K;mg:=i;base:=g;A:=A.deeper (envOfC c a s.heap.objs.size f h);N:=N;s₀:=s;H₀:=H;env:=envOfC c a s.heap.objs.size f h;outer:=b;stack:=envOfC c a s.heap.objs.size f h::b;ex:=[]
 calm:=true;fn:=fun _=>true
 pn:=[]
 xe:=fun e j =>aH (model P w) (A.deeper (envOfC c a s.heap.objs.size f h)) (leaving (envOfC c a s.heap.objs.size f h) e) (fun _ d =>CX b H s E e d) (fun k d =>CX b H s E k d) j
theorem cell_has{sc:Scope}{x:Str}(h:sc.names.lookup x=some .cell):∃c,(cellsFrom n sc.names []).lookup x=some c:=by
 have q:=PySem.W.cellsFrom_some sc.names n [] (.inl h);exact Option.isSome_iff_exists.mp q
theorem zQg{P:aA}{w:bW}{f:aX}{l:Value}{s t:aY}{E:XK}(S:FnScope N ps scope)(D:A.handled=none)(a:Env0 P w K mg base A outer s H)(hl:vs.length=ps.length)(r:Vals vs us)(x:InCallC s s.heap.objs.size (bindL (envOfC qual scope s.heap.objs.size f l).kindOf (ps.zip us) fun _=>none) (cellsFrom (s.heap.objs.size+1) scope.names []) (bindC (envOfC qual scope s.heap.objs.size f l).kindOf (ps.zip us) fun _=>none) t):
  Inv (cxOf CX P w K mg base N qual scope f l A outer s H E) [] (qZa N vs) H t:=by
 have F:ps.length<=N.length:=by have:=congrArg List.length S.pre;rw[List.length_take]at this;omega
 obtain⟨m,I,rfl,B⟩:=x.done;have d:∀b:aX,b∉(cxOf CX P w K mg base N qual scope f l A outer s H E).ex :=fun b z=>absurd (show b∈([]:List aX) from z) (by simp)
 refine⟨⟨a.mod,S.kind,rfl,rfl,aC _,fun y z c m o=>?_,fun y hy=>?_,fun y c _ h=>?_,fun _=>D,Around.frames_deeper a.frames,.inr ⟨rfl,rfl⟩,fun b z=>absurd z (d b),a.bs,a.bsz,fun b _ _=>d b,fun b z=>absurd z (d b),a.funs,a.frf⟩,
  rfl,a.bare,Un.kept B,⟨_,x.toInCall.ns,fun i y v m o J=>?_⟩,fun y c h=>⟨_,x.cell y c h⟩,a.hok.fresh (aC _),fun y c h=>?_,fun p g=>absurd (show p∈([]:List (aX×Obj)) from g) (by simp),a.hok.kept B,?_⟩
 ·exact name_of_addr x.apart (cL m) (cL o)
 ·have hy:scope.names.lookup y=some .cell \/scope.names.lookup y=some .free :=hy;rcases hy with hy|hy
  ·exact cell_has hy
  ·exact absurd rfl (S.nofree _ (cL hy))
 ·exact dH (x.above y c (cL h))
 ·have L:i<vs.length:=by
   unfold qZa at o;grind
  have ha:vs[i]?=some v:=by
   unfold qZa at o;grind
  obtain⟨u,C,G⟩:=r.get ha;have g:ps[i]?=some y:=by
   rw[←S.pre,List.getElem?_take_of_lt (by omega)];exact m
  have j:ps.Nodup:=by rw[←S.pre];exact S.nd.sublist (List.take_sublist _ _)
  refine⟨u,G,?_⟩;rcases S.par y (List.mem_of_getElem? g) with k|k
  ·exact .inl ⟨k,vVe j g C k⟩
  ·obtain⟨c,e⟩:=cell_has (n:=s.heap.objs.size + 1) k;refine .inr ⟨.inl k,c,e,?_⟩;have q:=x.cell y c e;rw[vVg j g C (by show scope.names.lookup y≠_;rw[k];decide)]at q;exact q
 ·exact a.hok.fresh (dH (x.above y c (cL h)))
 ·unfold qZa;show _=N.length;grind
theorem jWb{P:aA}{w:bW}{k:Nat}{f:aX}{name:Str}{d:Arguments}{F kV i G c L T:Value}{an U:Option aX}{p:Array (Option Value)}(X:K.lookup f=some ⟨T,U,.func (cG name qual d body scope F kV i G an c L),p⟩)(z:PySem.W.codeIn K c qual=true)(S:FnScope N ps scope)(len:∀vs H Q E,sp vs H Q E->vs.length=ps.length)(g:∀(A:cQ) (a:List Env) (s:aY) (H:Hp) (vs:List V) (Q:VK) (E:XK),Room k (A.deeper (envOfC qual scope s.heap.objs.size f c))->sp vs H Q E->
   ∃t,PSs (cxOf CX P w K mg base N qual scope f c A a s H E) body t/\t {nx:=fun _ H' =>Q .non H',rt:=Q} (qZa N vs) H):
  FnOk P w K mg base CX (k+1) f (cG name qual d body scope F kV i G an c L) ps sp:=by
 refine⟨len,fun A a s H M Y vs Q E B j hb r l=>?_⟩;have Z:=len _ _ _ _ l;have O:K.In s.heap:=j.mod.kin.keeps fun b o e=>(j.bs b o e).1
 have lim:s.heap.NoLimit:=j.mod.nolimit.keeps fun b o e=>(j.bs b o e).1
 have h:∀y∈ps.zip Y,scope.names.lookup y.1=some .local \/(scope.names.lookup y.1=some .cell /\((cellsFrom (s.heap.objs.size+1) scope.names []).lookup y.1).isSome =true):=fun⟨n,v⟩ hy=>by
  rcases S.par n (List.of_mem_zip hy).1 with q|q
  ·exact .inl q
  ·exact .inr ⟨q,PySem.W.cellsFrom_some _ _ _ (.inl q)⟩
 refine codeAny_call_function B.depth (O _ _ X) rfl S.co S.gen rfl (PySem.W.codeRec_of O z) (hb _ _ _ _ ?_);refine wpAny_newFunctionEnv_cells S.kind h fun env he R x=>?_
 subst he;refine⟨lim.keeps x.toInCall.keep,codeAny_func ?_⟩;obtain⟨t,ht,hq⟩:=g A a s H vs Q E (B.deeper _) l;have I:Inv (cxOf CX P w K mg base N qual scope f c A a s H E) [] (qZa N vs) H R:=zQg S B.hd j Z r x;refine fZ (ht [] R (qZa N vs) H _ I hq) (fun fl C hs=>?_) fun e C hs=>hs
 have m:∀{σ' :St} {H' :Hp} {v:V} {u:Value},Inv (cxOf CX P w K mg base N qual scope f c A a s H E) [] σ' H' C ->RelV v u->Q v H' ->CE a P w H s Q u C :=
  fun {σ' H' v u} J D q=>⟨v,H',J.os,J.bare,J.base,J.hok,D,q⟩
 cases fl with
 | ret u=>
   obtain⟨v,σ',H',J,D,q⟩:=hs;exact m J D q
 | next=>
   obtain⟨σ',H',J,q⟩:=hs;exact m (v:=V.non) (u:=Value.none) J rfl q
 | brk=>
   obtain⟨_,_,_,q⟩:=hs;exact False.elim q
 | cont=>
   obtain⟨_,_,_,q⟩:=hs;exact False.elim q
section
variable{X:Cx}{x:Str}{p pos:Pos}{e:Expr}{es:List Expr}{t:TA}{id T:String}{r:List V->Hp->VK->Prop}
noncomputable def tCB(r:List V->Hp->VK->Prop)(t:TA):TE:=fun σ H Q=>t σ H fun a b=>r a b Q
theorem qZp(d:zC X (.builtin id) r)(f:Gl X x)(g:X.mg x=none)(i:cR x=some (.builtin id))(ha:PA X (e::es) t)(j:x≠"__name__":=by decide)(b:(x == ("__debug__":Str))=false:=by decide)(k:aK (e::es) X.env=(false,eval e X.env)::aK es X.env:=by rfl)(c:(cK pos (aK es X.env)).any (·.1)=false:=by rfl):PE X (.Call (.Name x p) (e::es) [] pos) (tCB r t):=by
 intro a s σ H Q I h;refine eI (qQv I f g i ?_ j b);exact PyProof.Rows.callWith_builtin1 (thn (ha pos a s σ H _ I h) fun l m ⟨n,o,q,u,v⟩=>d a m σ o n l Q q u v) k c
theorem qQ9(d:zC X (.type T) r)(f:Gl X x)(g:X.mg x=none)(i:cR x=some (.type T))(ha:PA X (e::es) t)(j:x≠"__name__":=by decide)(b:(x == ("__debug__":Str))=false:=by decide)(k:aK (e::es) X.env=(false,eval e X.env)::aK es X.env:=by rfl)(c:(cK pos (aK es X.env)).any (·.1)=false:=by rfl):PE X (.Call (.Name x p) (e::es) [] pos) (tCB r t):=by
 intro a s σ H Q I h;refine eI (qQv I f g i ?_ j b);exact bH (thn (ha pos a s σ H _ I h) fun l m ⟨n,o,q,u,v⟩=>d a m σ o n l Q q u v) k c
end
end L2
namespace HT
open PySem PyProof.Rows
section
variable{prog:aA}{w:bW}{A:cQ}{E:Value->aY->Prop}{s:aY}
noncomputable def sIx(n d:Nat):Option Int->Nat
 |none=>d
 |some v=>if v<0 then(v+(n:Int)).toNat else min v.toNat n
theorem zXb(n d k:Nat):sIx n d (some (k:Int))=min k n:=by
 show(if(k:Int)<0 then((k:Int)+(n:Int)).toNat else min (k:Int).toNat n)=min k n;rw[if_neg (by omega),bN]
end
end HT
namespace L2
open PySem PySem.Spec PyProof.Rows
variable{n j t':Nat}{i:Int}{α:Type}{v u:Value}{pins:List (aX×Obj)}{σ:St}{H:Hp}{p:aX}{its its':List Value}{A:cQ}{y:V}
noncomputable abbrev TO:=St->Hp->(Option Int->Hp->Prop)->Prop
noncomputable def PO(X:Cx)(e:Option Expr)(t:TO):Prop:=
 ∀(pins:List (aX×Obj)) (s:aY) (σ:St) (H:Hp) (Q:Option Int->Hp->Prop),Inv X pins σ H s->t σ H Q->
  aH (model X.prog X.w) X.A (evalPart e X.env) (fun u b =>∃o a,Inv X pins σ a b /\IsPart u o/\Q o a) X.xe s
noncomputable def tNoPart:TO:=fun _ H Q=>Q none H
noncomputable def jZ3(t:TE):TO:=fun σ H Q=>t σ H fun x a=>∃i,x=.int i/\Q (some i) a
theorem qJ8{ns:List Int}:∀{us:List Value},Vals (ns.map V.int) us->IntsAre us ns:=by
 induction ns with
 |nil=>intro us r;cases r;exact .nil
 | cons n ns ih=>
   intro us r;cases r with
   | cons r1 r2=>
     obtain⟨t,e⟩:=r1;subst e;exact .cons n t (ih r2)
section
variable{X:Cx}{e:Expr}{te:TE}{lo hi:Option Expr}{tl th:TO}{pos p2:Pos}
theorem zXy:PO X none tNoPart:=by
 intro a s σ H Q I h;exact aW ⟨none,H,I,.none,h⟩
theorem zXx(h:PE X e te):PO X (some e) (jZ3 te):=by
 intro a s σ H Q I hw;refine thn (h a s σ H _ I hw) fun u g ⟨x,b,c,d,f⟩=>?_
 obtain⟨i,rfl,q⟩:=f;obtain⟨t,rfl⟩:=d;exact⟨some i,b,c,.int i t,q⟩
noncomputable def SlR(X:Cx)(r:V->Option Int->Option Int->Hp->VK->Prop):Prop:=
 ∀(pins:List (aX×Obj)) (s:aY) (σ:St) (H:Hp) (x:V) (v vl vu:Value) (lo hi:Option Int) (sl:aX) (Q:VK),Inv X pins σ H s->RelV x v->s.heap.IsSliceOf sl vl vu .none ->IsPart vl lo->IsPart vu hi->r x lo hi H Q->
  ∃T a,typeLookup (.type T) "__getitem__"=pure (some (.builtin a))/\s.TypeIs v T/\aH (model X.prog X.w) X.A (getItem v (.ref sl)) (EP X pins σ Q) X.xe s
noncomputable def tSl(r:V->Option Int->Option Int->Hp->VK->Prop)(a:TE)(b c:TO):TE:=fun σ H Q=>a σ H fun x d=>b σ d fun l e=>c σ e fun u f=>r x l u f Q
theorem zJf{r:V->Option Int->Option Int->Hp->VK->Prop}(i:SlR X r)(j:PE X e te)(hl:PO X lo tl)(k:PO X hi th):PE X (.Subscript e (.Slice lo hi none p2) pos) (tSl r te tl th):=by
 intro a s σ H Q I h;refine Subscript_ (thn (j a s σ H _ I h) fun v m ⟨x,n,o,p,t⟩=>?_);refine wpAny_Slice (thn (hl a m σ n _ o t) fun d y ⟨l,z,B,pl,C⟩=>thn (k a y σ z _ B C) fun f c ⟨u,g,D,E,F⟩=>?_);rw[evalPart_none];refine aW ?_
 have G:Inv X a σ g {c with heap:=c.heap.push {cls:=.type "slice",data:=.fields #[d,f,.none]}}:=D.kept (t' :=c.toks) fun b M q=>aJ _ q
 obtain⟨T,N,J,K,L⟩:=i a {c with heap:=c.heap.push {cls:=.type "slice",data:=.fields #[d,f,.none]}} σ g x v d f l u c.heap.objs.size Q G p (Heap.IsSliceOf.new ..) pl E F;show aH (model X.prog X.w) X.A (subscriptTail e (.Slice lo hi none p2) v (.ref c.heap.objs.size)) (EP X a σ Q) X.xe {c with heap:=c.heap.push {cls:=.type "slice",data:=.fields #[d,f,.none]}};exact tail_any (ops:=[.ref c.heap.objs.size,v]) K J L (by with_unfolding_all rfl)
noncomputable def cutV(xs:List V)(lo a:Option Int):List V:=(xs.drop (HT.sIx xs.length 0 lo)).take (HT.sIx xs.length xs.length a - HT.sIx xs.length 0 lo)
theorem vWc(xs:List V)(lo a:Option Int):(cutV xs lo a).length <=xs.length:=by
 unfold cutV;rw[List.length_take,List.length_drop];omega
end
noncomputable def ixN(n:Nat)(i:Int):Option Nat:=if 0<=i then(if i<n then some i.toNat else none) else if -(n:Int)<=i then some (i+n).toNat else none
noncomputable def atI{α:Type}(xs:List α)(i:Int):Option α:=(ixN xs.length i).bind fun j=>xs[j]?
theorem vV5(h:ixN n i=some j):seqIndex? i n=some j/\j<n/\ -(n:Int)<=i/\i<n:=by
 unfold ixN at h;by_cases b:0<=i
 ·rw [if_pos b] at h;by_cases a:i<n
  ·rw [if_pos a] at h;have e:i.toNat=j:=Option.some.inj h;exact⟨by rw[seqIndex_of b a,e],by omega,by omega,a⟩
  ·rw[if_neg a]at h;cases h
 ·rw [if_neg b] at h;by_cases a: -(n:Int)<=i
  ·rw [if_pos a] at h;have e:(i+n).toNat =j:=Option.some.inj h;exact⟨by rw[seqIndex_neg (by omega) a,e],by omega,a,by omega⟩
  ·rw[if_neg a]at h;cases h
theorem vZa{xs:List α}{v:α}(h:atI xs i=some v):∃j,seqIndex? i xs.length=some j/\xs[j]?=some v/\j<xs.length/\ -(xs.length:Int)<=i/\i<xs.length:=by
 unfold atI at h;cases e:ixN xs.length i with
 |none=>rw[e]at h;cases h
 | some j=>
   rw[e]at h;obtain⟨a,b,c,d⟩:=vV5 e;exact⟨j,a,h,b,c,d⟩
theorem qWt{xs:List α}{v:α}(h:xs[j]?=some v):atI xs (j:Int)=some v:=by
 have a:j<xs.length:=(aM.mp h).1;have e:ixN xs.length (j:Int)=some j:=by
  unfold ixN;rw[if_pos (by omega),if_pos (by omega)];simp
 unfold atI;rw[e];exact h
noncomputable def qYo(b:Expr):Prop:=∀o i,subscripted b false o i=operate [o,i] (getItem o i)
noncomputable def IxR(X:Cx)(r:R2):Prop:=
 ∀(value slice:Expr) (pins:List (aX×Obj)) (s:aY) (σ:St) (H:Hp) (x y:V) (v u:Value) (Q:VK),Inv X pins σ H s->RelV x v->RelV y u->r x y H Q->
  subscripted slice false v u=operate [v,u] (getItem v u)->aH (model X.prog X.w) X.A (subscriptTail value slice v u) (EP X pins σ Q) X.xe s
noncomputable def MtR(X:Cx)(a:String)(r:V->List V->Hp->VK->Prop):Prop:=
 ∀(pins:List (aX×Obj)) (s:aY) (σ:St) (H:Hp) (x:V) (xs:List V) (v:Value) (us:List Value) (Q:VK),Inv X pins σ H s->RelV x v->Vals xs us->r x xs H Q->
  aH (model X.prog X.w) X.A (call (.builtin a) (v::us)) (EP X pins σ Q) X.xe s
section
variable{X:Cx}{a b:Expr}{ta tb:TE}{pos:Pos}
theorem IxR.or{r d :R2}(h:IxR X r)(h' :IxR X d):IxR X (fun x y H Q=>r x y H Q\/d x y H Q):=by
 intro a b c s σ H x y v u Q I rx ry q hs;rcases q with q|q
 ·exact h a b c s σ H x y v u Q I rx ry q hs
 ·exact h' a b c s σ H x y v u Q I rx ry q hs
theorem jJj{r:R2}(d:IxR X r)(ha:PE X a ta)(hb:PE X b tb)(hs:qYo b):PE X (.Subscript a b pos) (tOp r ta tb):=by
 intro c s σ H Q I h;exact Subscript_ (binT ha hb I h fun v u e x y f g i j q=>d a b c e σ f x y v u Q g i j q (hs _ _))
noncomputable def rIxL(K:aQ):R2:=fun x y H Q=>∃p a i v,x=.ref p/\y=.int i/\SqL K H p a/\atI a i=some v/\Q v H
noncomputable def rIxT(K:aQ):R2:=fun x y H Q=>∃p a i v,x=.ref p/\y=.int i/\SqT K H p a/\atI a i=some v/\Q v H
noncomputable def rIxS:R2:=fun x y H Q=>∃z i c,x=.str z/\y=.int i/\z.length<=aS/\atI z.cps.toList i=some c/\Q (.str ⟨#[c]⟩) H
theorem zYs:IxR X (rIxL X.K):=by
 intro d e a s σ H x y v u Q I rx ry h hs;obtain⟨p,F,i,z,rfl,rfl,n,o,q⟩:=h;cases rx;obtain⟨t,rfl⟩:=ry;obtain⟨f,r,pl,G⟩:=I.list n;obtain⟨j,c,A,J,B,C⟩:=vZa o;obtain⟨w,l,g⟩:=r.get A;have D:=r.length;have L:=qW8;have b:EP X a σ Q w s:=⟨z,H,I,g,q⟩
 by_cases m:0<=i
 ·have k:i.toNat=j:=by
   rw[seqIndex_of m C]at c;exact Option.some.inj c
  exact item_listR pl.isList m (by omega) (by rw[k];simpa using l) b hs
 ·have k:(i+(f.toArray.size:Int)).toNat =j:=by
   rw[seqIndex_neg (by omega) B]at c;rw[aN,←D];exact Option.some.inj c
  exact subscriptTail_builtinR (x:=w) pl.isList.typeIs slot_list_getitem.lookup
   (wpAny_getItem_list_neg (Q:=fun r E =>r=w/\EP X a σ Q r E) pl.isList (by omega) (by rw[aN] <;> omega) (by omega) (by rw[k];simpa using l) ⟨rfl,b⟩) hs
theorem jV9:IxR X (rIxT X.K):=by
 intro b c a s σ H x y v u Q I rx ry h hs;obtain⟨p,B,i,z,rfl,rfl,f,g,q⟩:=h;cases rx;obtain⟨t,rfl⟩:=ry;obtain⟨k,r,pl,C⟩:=I.tuple f;obtain⟨j,l,m,D,E,F⟩:=vZa g;obtain⟨w,n,d⟩:=r.get m;have o:=r.length;have G:=qW8;have e:EP X a σ Q w s:=⟨z,H,I,d,q⟩
 exact subscriptTail_builtinR (x:=w) pl.typeIs slot_tuple_getitem.lookup
  (getItem_tuple (j:=j) (Q:=fun r A =>r=w/\EP X a σ Q r A) pl (by omega) (by omega) (by rw[aN,←o];exact l) (by simpa using n) ⟨rfl,e⟩) hs
theorem jZa:IxR X rIxS:=by
 intro a b d s σ H x y v u Q I rx ry h hs;obtain⟨z,i,c,rfl,rfl,p,f,q⟩:=h;obtain⟨t,rfl⟩:=rx;obtain⟨r,rfl⟩:=ry;obtain⟨j,e,g,w,k,l⟩:=vZa f;have m:z.cps.toList.length=z.length:=by simp[Str.length]
 rw[m]at e k l;have A:=qW8;exact tail_any (typeIs_str s z t) slot_str_getitem.lookup (getItem_str (c:=c) (by
  have n:decide (i < -(2 ^ 63:Int))=false:=decide_eq_false (by omega);have o:decide (i≥2 ^ 63)=false:=decide_eq_false (by omega);rw[n,o,Bool.or_false]) (by rw[e];simpa using g) ⟨.str ⟨#[c]⟩,H,I.tok _,⟨_,rfl⟩,q⟩) hs
noncomputable def rIx(K:aQ):R2:=fun x y H Q=>rIxL K x y H Q\/rIxT K x y H Q\/rIxS x y H Q
theorem jZb:IxR X (rIx X.K):=zYs.or (jV9.or jZa)
theorem vXa(its:List Value)(n j:Nat)(u:Value):Obj.mapSeq (·.setIfInBounds j u) {cls:=.type "list",data:=.seq its.toArray n}={cls:=.type "list",data:=.seq (its.set j u).toArray n}:=by
 simp[Obj.mapSeq]
theorem Inv.lst{s:aY}{xs:List V}(I:Inv X pins σ H s)(h:H p=some (.lst xs)):
  ∃(its:List Value) (n:Nat),Vals xs its/\s.heap.get? p=some {cls:=.type "list",data:=.seq its.toArray n}/\xs.length<=aS:=by
 obtain⟨z,its,n,r,e⟩:=I.hok p _ h;exact⟨its,n,r,e,z⟩
theorem Inv.lstUpd{s:aY}{xs ys:List V}{n':Nat}{f:Obj->Obj}(I:Inv X pins σ H s)(h:H p=some (.lst xs))(c:s.heap.get? p=some {cls:=.type "list",data:=.seq its.toArray n})(a:f {cls:=.type "list",data:=.seq its.toArray n}={cls:=.type "list",data:=.seq its'.toArray n' })(r:Vals ys its')(d:ys.length<=aS)(t:Nat):
  Inv X pins σ (upd H p (.lst ys)) {s with heap:=s.heap.update p f,toks:=t}:=by
 have e:(s.heap.update p f).get? p=some {cls:=.type "list",data:=.seq its'.toArray n' }:=by
  rw[eD f c (by rw[a] <;> rfl),a]
 refine I.write (x:=p) (e:=p) (by rw[h];trivial) (.inl rfl) (fun b u hb q=>(Heap.get?_update_other _ _ (Ne.symm hb)).trans q) ⟨_,e⟩ ?_
 exact⟨d,its',n',r,e⟩
noncomputable def rSetL:V->V->V->Hp->(Hp->Prop)->Prop:=fun o i v H Q=>∃p a k j,o=.ref p/\i=.int k/\H p=some (.lst a)/\ixN a.length k=some j/\Q (upd H p (.lst (a.set j v)))
theorem zZ2:PSet X rSetL:=by
 intro a s σ H o i v ov iv u Q I ro ri rv h;obtain⟨p,y,k,j,rfl,rfl,g,z,q⟩:=h;cases ro;obtain⟨t,rfl⟩:=ri;obtain⟨b,n,r,d,A⟩:=I.lst g;obtain⟨c,B,l,m⟩:=vV5 z;have e:=r.length;have C:=qW8;have w :Inv X a σ (upd H p (.lst (y.set j v))) {s with heap:=s.heap.update p (Obj.mapSeq (·.setIfInBounds j u))}:=
  I.lstUpd g d (vXa b n j u) (r.set rv j) (by rw[bI];exact A) s.toks
 by_cases x:0<=k
 ·have f:k.toNat=j:=by
   rw[seqIndex_of x m]at c;exact Option.some.inj c
  exact PySem.W.ki_setAt d x (by omega) (by rw[aN,←e];exact m) (by rw[f];exact⟨_,w,q⟩)
 ·have f:(k+(b.toArray.size:Int)).toNat =j:=by
   rw[seqIndex_neg (by omega) l]at c;rw[aN,←e];exact Option.some.inj c
  exact PySem.W.ki_setBack d (by omega) (by rw[aN,←e];exact l) (by omega) (by rw[f];exact⟨_,w,q⟩)
theorem vZf(lo a:Option Int)(n:Nat):(sliceBounds lo a none n).1=((HT.sIx n 0 lo:Nat):Int)/\(sliceBounds lo a none n).2.1=((HT.sIx n n a:Nat):Int)/\(sliceBounds lo a none n).2.2=1:=by
 refine⟨?_,?_,rfl⟩
 ·cases lo with
  |none=>simp[sliceBounds,HT.sIx]
  | some i=>
    simp only[sliceBounds,HT.sIx,Option.getD_none,if_true];grind
 ·cases a with
  |none=>simp[sliceBounds,HT.sIx]
  | some i=>
    simp only[sliceBounds,HT.sIx,Option.getD_none,if_true];grind
theorem vQa(its:List Value)(lo a:Option Int):slicePick its.toArray lo a none=((its.drop (HT.sIx its.length 0 lo)).take (HT.sIx its.length its.length a - HT.sIx its.length 0 lo)).toArray :=by
 obtain⟨b,c,d⟩:=vZf lo a its.toArray.size;unfold slicePick;rw[b,c,d];simp only[sliceRange_one,pick_run] <;> rfl
noncomputable def rSlL(K:aQ):V->Option Int->Option Int->Hp->VK->Prop:=fun x lo c H Q=>∃a b,x=.ref a/\SqL K H a b/\∀p,H p=none->Q (.ref p) (upd H p (.lst (cutV b lo c)))
theorem zW4:SlR X (rSlL X.K):=by
 intro e s σ H x v vl vu lo hi sl Q I rx hs pl pu h;obtain⟨a,c,rfl,g,q⟩:=h;cases rx;obtain⟨i,r,f,j⟩:=I.list g;have d:=r.length;refine⟨"list",_,slot_list_getitem.lookup,f.isList.typeIs,?_⟩;refine wpAny_getItem_list_slice f.isList hs pl pu .none (by simp) ?_ (by rw[aN] <;> omega)
 rw[vQa,←d];refine⟨.ref s.heap.objs.size,_,I.laid (t' :=s.toks) (o:=.lst (cutV c lo hi)) (fun b k q=>aJ _ q) (aC _) ?_,rfl,q _ (I.hok.fresh (aC _))⟩;exact⟨aR (vWc c lo hi) j,_,0,(r.drop (HT.sIx c.length 0 lo)).take (HT.sIx c.length c.length hi - HT.sIx c.length 0 lo),aP _ rfl⟩
noncomputable def qJo:V->Bool
 |.non =>true
 |.bl _=>true
 |.int _=>true
 |.str _=>true
 |_=>false
noncomputable def eqV:V->V->Bool
 |.non,.non =>true
 |.bl a,.bl b=>a == b
 |.bl a,.int b=>(if a then 1 else 0) == b
 |.int a,.bl b=>a == (if b then 1 else 0)
 |.int a,.int b=>a == b
 |.str a,.str b=>a == b
 |_,_=>false
theorem jZs{s:aY}{x:V}(e:RelV y u)(c:RelV x v)(g:qJo y=true)(f:qJo x=true):fX A s u v (eqV y x):=by
 cases y with
 | non=>
   cases e;cases x with
   |non=>cases c;exact SeqAt.EqAt.same _
   |bl b=>cases c;exact SeqAt.EqAt.none_bool b
   |int b=>obtain⟨t,rfl⟩:=c;exact SeqAt.EqAt.none_int b t
   |str b=>obtain⟨t,rfl⟩:=c;exact SeqAt.EqAt.none_str b t
   |_=>exact absurd (show false=true from f) aO
 | bl a=>
   cases e;cases x with
   |non=>cases c;exact SeqAt.EqAt.bool_none a
   |bl b=>cases c;exact SeqAt.EqAt.bool_bool a b
   |int b=>obtain⟨t,rfl⟩:=c;exact SeqAt.EqAt.bool_int a b t
   |str b=>obtain⟨t,rfl⟩:=c;exact SeqAt.EqAt.bool_str a b t
   |_=>exact absurd (show false=true from f) aO
 | int a=>
   obtain⟨d,rfl⟩:=e;cases x with
   |non=>cases c;exact SeqAt.EqAt.int_none a d
   |bl b=>cases c;exact SeqAt.EqAt.int_bool a d b
   |int b=>obtain⟨t,rfl⟩:=c;exact SeqAt.EqAt.int_int a d b t
   |str b=>obtain⟨t,rfl⟩:=c;exact SeqAt.EqAt.int_str a d b t
   |_=>exact absurd (show false=true from f) aO
 | str a=>
   obtain⟨d,rfl⟩:=e;cases x with
   |non=>cases c;exact SeqAt.EqAt.str_none a d
   |bl b=>cases c;exact SeqAt.EqAt.str_bool a d b
   |int b=>obtain⟨t,rfl⟩:=c;exact SeqAt.EqAt.str_int a d b t
   |str b=>obtain⟨t,rfl⟩:=c;exact SeqAt.EqAt.str_str a d b t
   |_=>exact absurd (show false=true from f) aO
 |_=>exact absurd (show false=true from g) aO
noncomputable def eqU(x:V)(u:Value):Bool:=match u with
 |.none =>eqV .non x
 |.bool b=>eqV (.bl b) x
 |.int i _=>eqV (.int i) x
 |.str z _=>eqV (.str z) x
 |_=>false
theorem zZm{x:V}(r:RelV y u)(f:qJo y=true):eqU x u=eqV y x:=by
 cases y with
 |non=>cases r;rfl
 |bl b=>cases r;rfl
 |int i=>obtain⟨t,rfl⟩:=r;rfl
 |str z=>obtain⟨t,rfl⟩:=r;rfl
 |_=>exact absurd (show false=true from f) aO
theorem qWu{x:V}:∀{xs:List V} {us:List Value},Vals xs us->xs.all qJo=true->us.any (eqU x)=xs.any fun y=>eqV y x
 |_,_,.nil,_=>rfl
 | y::xs,u::us, .cons r t,f=>by
   rw[eB,aF]at f;rw[eY,eY,zZm r f.1,qWu t f.2]
theorem qZr{s:aY}{x:V}(a:RelV x v)(b:qJo x=true):∀{xs:List V} {us:List Value},Vals xs us->xs.all qJo=true->∀u∈us,fX A s u v (eqU x u)
 |_,_,.nil,_=>fun u hu=>by cases hu
 | y::xs,u::us, .cons r t,f=>fun c hu=>by
   rw[eB,aF]at f;rcases aG.mp hu with rfl|hu
   ·rw[zZm r f.1];exact jZs r a f.1 b
   ·exact qZr a b t f.2 c hu
noncomputable def inV(x:V)(xs:List V):Bool:=xs.any fun y=>eqV y x
noncomputable def rIn(K:aQ)(neg:Bool):R2:=fun x y H Q=>∃p a,y=.ref p/\(SqL K H p a\/SqT K H p a)/\qJo x=true/\a.all qJo=true/\Q (.bl (if neg then !inV x a else inV x a)) H
theorem vK4:OpR X (dX .In) (rIn X.K false):=by
 intro c s σ H x y v u Q I rx ry h;obtain⟨p,f,rfl,hq,d,fs,q⟩:=h;cases ry;rcases hq with hq|hq
 ·obtain⟨a,r,pl,e⟩:=I.list hq;refine SeqAt.in_listAt (eqU x) pl.isList (fun w b=>qZr rx d r fs w (by simpa using b)) ⟨.bl _,H,I,rfl,?_⟩;rw[show a.toArray.any (eqU x)=a.any (eqU x) by simp,qWu r fs];exact q
 ·obtain⟨a,r,pl,e⟩:=I.tuple hq;refine SeqAt.in_tupleAt (eqU x) pl (fun w b=>qZr rx d r fs w (by simpa using b)) ⟨.bl _,H,I,rfl,?_⟩;rw[show a.toArray.any (eqU x)=a.any (eqU x) by simp,qWu r fs];exact q
theorem vZl:OpR X (dX .NotIn) (rIn X.K true):=by
 intro c s σ H x y v u Q I rx ry h;obtain⟨p,f,rfl,hq,d,fs,q⟩:=h;cases ry;rcases hq with hq|hq
 ·obtain⟨a,r,pl,e⟩:=I.list hq;refine SeqAt.notIn_listAt (eqU x) pl.isList (fun w b=>qZr rx d r fs w (by simpa using b)) ⟨.bl _,H,I,rfl,?_⟩;rw[show a.toArray.any (eqU x)=a.any (eqU x) by simp,qWu r fs];exact q
 ·obtain⟨a,r,pl,e⟩:=I.tuple hq;refine SeqAt.notIn_tupleAt (eqU x) pl (fun w b=>qZr rx d r fs w (by simpa using b)) ⟨.bl _,H,I,rfl,?_⟩;rw[show a.toArray.any (eqU x)=a.any (eqU x) by simp,qWu r fs];exact q
theorem vZw:zC X (.builtin "len") (fun xs H Q=>∃p ys,xs=[.ref p]/\(SqL X.K H p ys\/SqT X.K H p ys)/\Q (.int ys.length) H):=by
 intro d s σ H xs us Q I r h;obtain⟨p,ys,rfl,hq,q⟩:=h;obtain⟨u,rfl,e⟩:=yG r;cases e;have g:=qW8;rcases hq with hq|hq
 ·obtain⟨b,c,pl,f⟩:=I.list hq;have a:=c.length;exact Calls.call_len_list pl.isList (by simp only[aN] <;> omega) ⟨.int ys.length,H,I.tok _,⟨s.toks+1,by rw[aN,a]⟩,q⟩
 ·obtain⟨b,c,pl,f⟩:=I.tuple hq;have a:=c.length;exact len_tuple pl (by simp only[aN] <;> omega) ⟨.int ys.length,H,I.tok _,⟨s.toks+1,by rw[aN,a]⟩,q⟩
theorem vZv:zC X (.builtin "len") (fun xs H Q=>∃z,xs=[.str z]/\z.length<=aS/\Q (.int z.length) H):=by
 intro a s σ H xs us Q I r h;obtain⟨z,rfl,b,q⟩:=h;obtain⟨u,rfl,t,rfl⟩:=yG r;have c:=qW8;exact len_str (by omega) ⟨.int z.length,H,I.tok _,⟨_,rfl⟩,q⟩
theorem zC.or{f:Value}{r b :List V->Hp->VK->Prop}(h:zC X f r)(h' :zC X f b):zC X f (fun xs H Q=>r xs H Q\/b xs H Q):=by
 intro a s σ H xs us Q I rs q;rcases q with q|q
 ·exact h a s σ H xs us Q I rs q
 ·exact h' a s σ H xs us Q I rs q
theorem vZu:zC X (.type "list") (fun xs H Q=>∃p ys,xs=[.ref p]/\(SqL X.K H p ys\/SqT X.K H p ys)/\∀l,H l=none->Q (.ref l) (upd H l (.lst ys))):=by
 intro g s σ H xs us Q I r h;obtain⟨p,ys,rfl,hq,q⟩:=h;obtain⟨u,rfl,z⟩:=yG r;cases z
 have i:∀(a:List Value),Vals ys a->ys.length<=aS->∀(c :Heap) (d :Nat),(∀b y,s.heap.get? b=some y ->c.get? b=some y)->
   c.get? s.heap.objs.size=some {cls:=.type "list",dict:=none,data:=.seq a.toArray d,slots:=#[]}->EP X g σ Q (.ref s.heap.objs.size) {s with heap:=c }:=fun a f j c d k e=>
  ⟨.ref s.heap.objs.size,_,I.laid (t' :=s.toks) k (aC _) (show zW X.prog X.w _ c _ (.lst ys) from⟨j,a,d,f,e⟩),rfl,q _ (I.hok.fresh (aC _))⟩
 rcases hq with hq|hq
 ·obtain⟨a,f,pl,j⟩:=I.list hq;have m:=f.length;obtain⟨o,t,v,n,x⟩:=pl.isList;exact call_list_seq p (.inl rfl) t v x (fun c d k e=>i a f j c d k e) (by simp only[aN] <;> omega)
 ·obtain⟨a,f,pl,j⟩:=I.tuple hq;have m:=f.length;obtain⟨o,t,v,n,x⟩:=pl;exact call_list_seq p (.inr rfl) t v x (fun c d k e=>i a f j c d k e) (by simp only[aN] <;> omega)
theorem vQj:zC X (.type "tuple") (fun xs H Q=>∃p ys,xs=[.ref p]/\((SqL X.K H p ys/\∀l,H l=none->Q (.ref l) (upd H l (.tup ys)))\/(SqT X.K H p ys/\Q (.ref p) H))):=by
 intro a s σ H xs us Q I r h;obtain⟨p,ys,rfl,h⟩:=h;obtain⟨u,rfl,m⟩:=yG r;cases m;rcases h with⟨f,q⟩|⟨f,q⟩
 ·obtain⟨c,g,pl,i⟩:=I.list f;have j:=g.length;refine call_tuple_list pl.isList (fun d n=>?_) (by simp only[aN] <;> omega);have k:Inv X a σ H {s with heap:=d }:=I.kept (t' :=s.toks) n;have t:Inv X a σ (upd H d.objs.size (.tup ys)) {s with heap:=d.push {cls:=.type "tuple",data:=.seq c.toArray}}:=
   k.laid (t' :=s.toks) (fun b o e=>aJ _ e) (aC _) (show zW X.prog X.w _ _ _ (.tup ys) from⟨i,c,g,IsTup.new _ _⟩)
  exact⟨.ref d.objs.size,_,t,rfl,q _ (k.hok.fresh (aC _))⟩
 ·obtain⟨c,g,pl,i⟩:=I.tuple f;exact call_tuple_same pl ⟨.ref p,H,I,rfl,q⟩
noncomputable def tyV(K:aQ)(T:String)(x:V)(H:Hp):Prop:=match x with
 |.str _=>T="str"
 |.int _=>T="int"
 | .ref p=>(T="list"/\∃b,SqL K H p b)\/(T="tuple"/\∃o,K.lookup p=some o/\o.cls= .type "tuple"/\o.dict=none)\/
   (T="dict"/\((∃a,H p=some (.dK a))\/∃a,H p=some (.dT a)))\/(T="set"/\∃S n,H p=some (.set S n))
 |_=>False
theorem jQl{s:aY}{T:String}{x:V}(I:Inv X pins σ H s)(r:RelV x v)(f:tyV X.K T x H):
  s.TypeIs v T/\∀a,v=.ref a->∃k,s.heap.get? a=some k/\k.dict=none:=by
 cases x with
 | str z=>
   obtain⟨t,rfl⟩:=r;cases(show T="str" from f);exact⟨typeIs_str s z t,fun _ e=>nomatch e⟩
 | int i=>
   obtain⟨t,rfl⟩:=r;cases(show T="int" from f);exact⟨typeIs_int s i t,fun _ e=>nomatch e⟩
 | ref p=>
   cases r;rcases f with⟨rfl,u,l⟩|⟨rfl,o,b,m,g⟩|⟨rfl,b⟩|⟨rfl,S,n,b⟩
   ·obtain⟨q,_,pl,_⟩:=I.list l;refine⟨pl.isList.typeIs,fun a e=>?_⟩;cases e;obtain⟨o,n,e,c,g,_⟩:=pl;exact⟨o,e,g⟩
   ·refine⟨⟨o,I.kIn p o b,m⟩,fun a e=>?_⟩;cases e;exact⟨o,I.kIn _ o b,g⟩
   ·have z:∃o,s.heap.get? p=some o/\o.ExactDict:=by
     rcases b with⟨h,b⟩|⟨h,b⟩
     ·obtain⟨_,_,_,_,o,_,_,e,d,_⟩:=I.hok p _ b;exact⟨o,e,d⟩
     ·obtain⟨_,_,_,_,o,_,_,e,d,_⟩:=I.hok p _ b;exact⟨o,e,d⟩
    obtain⟨o,e,d⟩:=z;refine⟨⟨o,e,d.1⟩,fun a j=>?_⟩;cases j;exact⟨o,e,d.2.1⟩
   ·obtain⟨o,_,_,_,e,d,_⟩:=I.hok p _ b;refine⟨⟨o,e,d.1⟩,fun a j=>?_⟩;cases j;exact⟨o,e,d.2.1⟩
 |_=>exact False.elim f
noncomputable def tBM(K:aQ)(T:String)(r:V->List V->Hp->VK->Prop)(to:TE)(t:TA):TE:=fun σ H Q=>to σ H fun x a=>tyV K T x a/\t σ a fun b c=>r x b c Q
variable{o e:Expr}{es:List Expr}{to:TE}{t:TA}{name:Str}{apos cpos:Pos}{T id:String}{r:V->List V->Hp->VK->Prop}
theorem zKu(m:PlainAttrs T)(f:Slot T name id)(i:typeOf (.builtin id)=pure (.type "method_descriptor"))(n:MtR X id r)(p:PE X o to)(ha:PA X (e::es) t)(c:attributeBase o name X.env (eval o X.env)=eval o X.env:=by rfl)(g:((cK cpos (aK (e::es) X.env)).all (fun x=>!x.1) && (backToKw cpos (keywordEach [] X.env)).all (fun x=>x.1.isSome)
   && decide ((e::es).length+([]:List Keyword).length+(if([]:List Keyword).isEmpty then 0 else 1)<30))=true:=by rfl)(d:(apos.endLine == cpos.line)=true:=by rfl)(hs:aK (e::es) X.env=(false,eval e X.env)::aK es X.env:=by rfl)(b:(cK cpos (aK es X.env)).any (·.1)=false:=by rfl):
  PE X (.Call (.Attribute o name apos) (e::es) [] cpos) (tBM X.K T r to t):=by
 intro a s σ H Q I h;refine wpAny_Call_method_late c g d rfl (thn (p a s σ H _ I h) fun v q ⟨x,u,j,k,w,y⟩=>?_);obtain⟨z,A⟩:=jQl j k w;refine⟨T,id,m,f,i,z,A,?_⟩;have l:=ha cpos a q σ u _ j y;rw[hs]at l⊢;refine Calls.callWith_builtin (by show(false || (cK cpos (aK es X.env)).any (·.1))=false;rw[b] <;> rfl) (Calls.evalArgs_plain ?_);exact thn l fun B C ⟨D,E,F,G,J⟩=>n a C σ E x D v B Q F k G J
end
noncomputable def MtM(X:Cx)(a:String)(r:V->List V->Hp->VK->Prop):Prop:=
 ∀(pins:List (aX×Obj)) (s:aY) (σ:St) (H:Hp) (x:V) (xs:List V) (v:Value) (us:List Value) (Q:VK),Inv X pins σ H s->RelV x v->Vals xs us->r x xs H Q->
  aH (model X.prog X.w) X.A (call (.builtin a) (v::us)) (EP X pins σ Q) X.xe s
theorem Vals.one:∀{x:V} {us:List Value},Vals [x] us->∃u,us=[u]/\RelV x u
 |_,_,.cons r .nil =>⟨_,rfl,r⟩
theorem Vals.two:∀{x y:V} {us:List Value},Vals [x,y] us->∃u v,us=[u,v]/\RelV x u/\RelV y v
 |_,_,_,.cons r (.cons q .nil)=>⟨_,_,rfl,r,q⟩
section
variable{X:Cx}{pins:List (aX×Obj)}{σ:St}{H:Hp}{s:aY}{l b:aX}{xs ys zs:List V}
theorem Inv.lset{f:Array Value->Array Value}(I:Inv X pins σ H s)(a:H l=some (.lst xs))(e:s.heap.get? l=some {cls:=.type "list",data:=.seq its.toArray n})(b:f its.toArray=its'.toArray)(c:Vals ys its')(d:ys.length<=aS):
  Inv X pins σ (upd H l (.lst ys)) {s with heap:=s.heap.update l (Obj.mapSeq f),toks:=t' }:=by
 have q:=PySem.IsL.update e f;rw[b]at q;refine I.write (x:=l) (e:=l) (by rw[a];exact trivial) (.inl rfl) (fun h u hb g=>(Heap.get?_update_other s.heap (Obj.mapSeq f) (Ne.symm hb)).trans g) ⟨_,q⟩ ?_
 exact⟨d,its',_,c,q⟩
theorem Inv.lnew(I:Inv X pins σ H s)(a:Vals ys its)(b:ys.length<=aS):
  Inv X pins σ (upd H s.heap.objs.size (.lst ys)) {s with heap:=s.heap.push {cls:=.type "list",data:=.seq its.toArray},toks:=t' }:=
 I.laid (fun _ _ q=>aJ _ q) (aC _) ⟨b,its,0,a,aP _ rfl⟩
theorem Inv.fresh(I:Inv X pins σ H s):H s.heap.objs.size=none:=I.hok.fresh (aC _)
theorem Inv.lstM(I:Inv X pins σ H s)(a:H l=some (.lst xs)):xs.length<=aS/\∃(its:List Value) (n:Nat),Vals xs its/\xs.length=its.length/\s.heap.get? l=some {cls:=.type "list",data:=.seq its.toArray n}:=by
 obtain⟨z,its,n,r,e⟩:=I.hok l _ a;exact⟨z,its,n,r,r.length,e⟩
theorem zJq(h:n<=aS):Builtin.List.listTooLong n=false:=by
 unfold Builtin.List.listTooLong;exact decide_eq_false (by omega)
end
section
variable{X:Cx}
noncomputable def rAppend:V->List V->Hp->VK->Prop:=fun x b H Q=>∃l a y,x=.ref l/\b=[y]/\H l=some (.lst a)/\a.length<aS/\Q .non (upd H l (.lst (a ++ [y])))
theorem vQ5:MtM X "list.append" rAppend:=by
 intro b s σ H x vs v us Q I rx rv h;obtain⟨l,f,y,rfl,rfl,c,g,q⟩:=h;cases rx;obtain⟨u,rfl,d⟩:=rv.one;obtain⟨z,a,n,r,i,e⟩:=I.lstM c;refine call_meets F.slot_list_append ⟨_,e,rfl⟩ F.entry_list_append (F.args_list_append_2 _ _) (PySem.list_append l a.toArray n u (by rw[aN];omega)) ⟨e,?_⟩;refine⟨.non,_,I.lset (its' :=a ++ [u]) c e (by simp) (r.append (.cons d .nil)) ?_,rfl,q⟩;rw[aB,List.length_singleton];omega
noncomputable def rExtend:V->List V->Hp->VK->Prop:=fun x d H Q=>∃l b a c,x=.ref l/\d=[.ref b]/\H l=some (.lst a)/\H b=some (.lst c)/\a.length+c.length<=aS/\Q .non (upd H l (.lst (a ++ c)))
theorem vK7:MtM X "list.extend" rExtend:=by
 intro g s σ H x vs v us Q I rx rv h;obtain⟨l,b,t,w,rfl,rfl,i,hB,y,q⟩:=h;cases rx;obtain⟨u,rfl,j⟩:=rv.one;cases j;obtain⟨z,c,n,r,A,e⟩:=I.lstM i;obtain⟨B,a,k,m,o,p⟩:=I.lstM hB;have f:c.toArray.size+a.toArray.size<=aS:=by rw[aN,aN];omega
 have d:¬(!c.toArray.isEmpty && Builtin.List.listTooLong (c.toArray.size+a.toArray.size))=true:=by
  rw[zJq f,Bool.and_false];exact aO
 refine call_meets F.slot_list_extend ⟨_,e,rfl⟩ F.entry_list_extend (F.args_list_extend_2 _ _)
  (AutoSeq1.list_extend_list_list_0 l c.toArray n b a.toArray k d (by rw[aN];omega) (by omega)) ⟨e,p,?_⟩
 refine⟨.non,_,I.lset (its' :=c ++ a) i e (by simp) (r.append m) ?_,rfl,q⟩;rw[aB];omega
end
end L2
namespace Att
open PySem PySem.W PySem.Calls PyProof.Rows
variable{P:Params}{l:OpenLaw}{n:Nat}
theorem qYb{h:Heap}:∀(ns:List Int) (vs:List Value),WellAll P h vs (ns.map WData.int)->IntsAre vs ns:=by
 intro ns;induction ns with
 | nil=>
   intro vs w;cases w;exact .nil
 | cons n ns ih=>
   intro vs w;cases w with
   | cons a b=>
     cases a;exact .cons _ _ (ih _ b)
theorem vKq(q:l.most=some n){h:Heap}{b:List WData}{c:List Value}(e:l.row.toRowW.claim.pre b=true)(g:WellAll P h c b):
  ∃a vs ns,c=[Value.ref a]/\b=[WData.list (ns.map WData.int)]/\h.get? a=some {cls:=.type "list",data:=.seq vs.toArray}/\IntsAre vs ns/\ns.length<=n:=by
 have i:WShape.hasAll [] b [.list .int]=true:=(pre_splitW e).1;have k:l.pre.holds [] {args:=b}=true:=(pre_splitW e).2;obtain⟨d,r,rfl,m,o⟩:=hasAllW_cons i;obtain rfl:=hasAllW_nil o;obtain⟨s,rfl,p⟩:=hasW_list m;obtain⟨ns,rfl⟩:=items_int p;have f:ns.length<=n:=by
  have j:(WTm.not (.lt (.lit (.int (n:Int))) (.len (.arg 0)))).holds [] {args:=[.list (ns.map .int)]}=true:=by
   have j:=(holds_andW k).1;grind
  have t:=condW_of j (w_not (w_lt w_lit (w_len_list (w_arg rfl))));grind
 cases g with
 | cons w1 w2=>
   cases w2;cases w1 with
   |list ho hall=>exact⟨_,_,ns,rfl,rfl,ho,qYb ns _ hall,f⟩
theorem vKv(l:OpenLaw)(a:List WData):l.row.toRowW.claim.post a (.bool true) a=true:=
 postW_of (r:=l.row.toRowW) (X:=(true == true))
  (show WShape.has [] (.bool true) .bool =true by first|rfl|decide|simp[WShape.has,WShape.arms,WShape.armsAll])
  (show(WTm.eq .res (.lit (.bool true))).value [] {args:=a,res:=some (.bool true),after:=a}=some (.bool (true == true)) from w_eq_bool (w_res rfl) w_lit) rfl
theorem vWe{q:aA}{loose:List Str}{XP:(Str->Option Value)->Heap->Prop}{YP:bW->Heap->Prop}{d:DefRec}(i:l.most=some n)(h:d.params.defaults=[])(call:∀(w:bW) (s₀ s₁:aY) (mg mb:Str->Option Value) (fa:aX) (o:Obj) (pm cd doc:Value) (a:aX) (vs:List Value) (ns:List Int),
   Ground q loose [] XP w s₀ mg mb s₁.heap->YP w s₁.heap->
   s₁.heap.get? fa=some o->o.data=.func (docDef d.name d.params d.body d.scope pm cd doc)->s₁.heap.CodeRec cd d.name->mg d.name=some (.ref fa)->
   s₁.heap.get? a=some {cls:=.type "list",data:=.seq vs.toArray}->IntsAre vs ns->ns.length<=n->s₁.gens=#[]->
   codeAny (model l.prog w) callerA (.call (.ref fa) ⟨[.ref a],[]⟩) (fun r g =>r=.ok (.ret (.bool true))/\OldK s₁.heap g.heap/\g.os=s₁.os/\AllBare g.gens) s₁):
  WalkO q loose XP YP l.row.toRowW d [] (fun f vs=>PySem.call f vs):=by
 intro w s₀ s₁ mg mb G Y fa o pm cd doc dV kV ho hd hcd hD hmg hg args vals as hpre hlay hrd hwl hlo
 obtain rfl:dV=.none :=Dflts.none hD h
 obtain rfl:kV=.none :=Dflts.noKw hD
 obtain⟨a,vs,ns,rfl,rfl,c,b,e⟩:=vKq i hpre hwl
 refine enter_call (codeAny_mono (call w s₀ s₁ mg mb fa o pm cd doc a vs ns G Y ho (fd_plain hd) hcd hmg c b e hg) fun r g j=>?_)
 obtain⟨rfl,k,m,p⟩:=j
 exact⟨.inl ⟨.bool true,.bool true,[],rfl,fun _=>rfl,.bool true,vKv l _,fun _=>⟨List.Pairwise.nil,fun _ t=>(nomatch t)⟩⟩,k,m,p⟩
end Att
namespace L2
open PySem PySem.Spec PyProof.Rows
variable{w:bW}{K:aQ}{mg:Str->Option Value}{fd:bJ}{ns:List Int}{n t':Nat}{qual:Str}{f p C:aX}{ps:List Str}{oc doc pm cdv ct:Value}{od:Option aX}{osl:Array (Option Value)}{A:cQ}{pos:Pos}{H:Hp}{X:Cx}{pins:List (aX×Obj)}{σ:St}{fp ch:List aX}{Q:Option Value->aY->Prop}
theorem qJi:∀{vs:List Value} {ns:List Int},IntsAre vs ns->Vals (ns.map V.int) vs
 |_,_,.nil =>.nil
 |_,_,.cons n t h=>.cons ⟨t,rfl⟩ (qJi h)
noncomputable def Only(H:Hp):Prop:=∀b,H b=none\/∃o a,H b=some (.frz o (.lst a))
theorem zJy{P:aA}{I:Str->Option Value}{CX:CXT}{k:Nat}{J a:aX}{x:Str}{sp:Sp}{s₁:aY}{vs:List Value}(R:K.In s₁.heap)(l:s₁.heap.Ns cH mg)(hb:s₁.heap.Ns builtinsNs I)(L:∀x:Str,x≠"__name__"->I x=cR x)(p:s₁.heap.NoLimit)(Y:s₁.gens=#[])(ha:s₁.heap.get? a=some {cls:=.type "list",data:=.seq vs.toArray})(S:IntsAre vs ns)(hl:ns.length<=aS)(Z:Room k callerA)(F:∀base:Heap,K.In base->base.Ns cH mg->FnOk P w K mg base CX k J fd [x] sp)(j:∀(s:aY) (u:Value),BindsTo s fd ⟨[u],[]⟩ [(x,u)])(M:∀H:Hp,Only H->SqL K H a (ns.map V.int)->sp [.ref a] H (fun v _=>v=.bl true) fun _ _ _=>False)(N:∀H e f,CX [] H s₁ (fun _ _ _=>False) e f ->False):
  codeAny (model P w) callerA (.call (.ref J) ⟨[.ref a],[]⟩) (fun r f =>r=.ok (.ret (.bool true))/\OldK s₁.heap f.heap/\f.os=s₁.os/\AllBare f.gens) s₁:=by
 have T:=qJi S;have t:=S.length
 have i:∀H:Hp,Only H->SqL K H a (ns.map V.int)->HOk P w H s₁.heap->(∀b,H b≠none->b=a)->(H a≠none->K.lookup a=none)->
   codeAny (model P w) callerA (.call (.ref J) ⟨[.ref a],[]⟩) (fun r f =>r=.ok (.ret (.bool true))/\OldK s₁.heap f.heap/\f.os=s₁.os/\AllBare f.gens) s₁:=by
  intro H U hS y W hK;have c:∀{b:aX} {o:Obj},s₁.heap.get? b=some o->H b=none->(hidT s₁.heap H).get? b=some o:=fun e n=>zJ9 e n
  have O:∀{b:aX} {o:Obj} {A:Array DictEntry} {B:Nat},s₁.heap.get? b=some o->o.data=.dict A B->H b=none:=fun {b o A B} e d=>by
   cases q:H b with
   |none=>rfl
   | some u=>
     have Q :b=a:=W b (by rw[q];simp);subst Q;rw[ha]at e;cases e;have d' :Data.seq vs.toArray _=Data.dict A B:=d;cases d'
  have g:∀{b:aX} {m:Str->Option Value},s₁.heap.Ns b m->(hidT s₁.heap H).Ns b m:=fun {b m} ⟨o,A,B,e,d,r⟩=>⟨o,A,B,c e (O e d),d,r⟩
  have C:K.In (hidT s₁.heap H):=fun b o e=>c (R b o e) (by
   cases q:H b with
   |none=>rfl
   | some u=>
     have Q :b=a:=W b (by rw[q];simp);subst Q;rw[hK (by rw[q];simp)]at e;cases e)
  have hM:Mod K mg (hidT s₁.heap H):=⟨C,g l,⟨I,g hb,L⟩,let ⟨mc,h1,h2⟩:=p;⟨mc,g h1,h2⟩⟩
  have e0:Env0 P w K mg (hidT s₁.heap H) callerA [] s₁ H:=⟨rfl,hM,fun b o e=>zYj e,Nat.le_of_eq (zQi _ _),trivial,fun b hb=>absurd (show b∈([]:List aX) from hb) (by simp),y,.of_eq Y⟩
  refine codeAny_mono ((F _ C (g l)).run callerA [] s₁ H ⟨[.ref a],[]⟩ [.ref a] [.ref a] _ _ Z e0 (j s₁ (.ref a)) (.cons rfl .nil) (M H U hS)) fun r f h=>?_
  cases r with
  |error e=>exact(N H e f h).elim
  | ok fl=>
    cases fl with
    |next=>exact False.elim h
    |brk=>exact False.elim h
    |cont=>exact False.elim h
    | ret u=>
      obtain⟨v,H',os,D,un,E,r',q⟩:=h;have q' :v=.bl true:=q;subst q';obtain rfl:u=Value.bool true:=r';refine⟨rfl,OldK.of_keep fun b o e=>?_,os,D⟩;cases q:H b with
      |none=>exact un.keep b o e q (by intro z;exact absurd (show b∈([]:List aX) from z) (by simp)) (by simp)
      | some u=>
        rcases U b with z|⟨ob,xs,z⟩
        ·rw[q]at z;cases z
        ·have z2:=un.frzs b ob _ z;obtain⟨X,_⟩:=y b _ z;obtain⟨e2,_⟩:=E b _ z2;rw[e]at X;cases X;exact e2
 cases hk:K.lookup a with
 | some o=>
   have e:=R a o hk;rw[ha]at e;cases e;refine i (fun _=>none) (fun _=>.inl rfl) (.inr ⟨_,vs.toArray,_,hk,rfl,rfl,rfl,by rw[aN,t];exact hl,by simpa using T⟩) (fun b u z=>by have G :(none:Option HO)=some u:=z;cases G) (fun b z=>absurd rfl z) fun z=>absurd rfl z
 | none=>
   refine i (fun b=>if b=a then some (.frz {cls:=.type "list",data:=.seq vs.toArray} (.lst (ns.map V.int))) else none) (fun b=>?_) (.inl (.inr ⟨{cls:=.type "list",data:=.seq vs.toArray},if_pos rfl⟩)) (fun b u z=>?_) (fun b z=>?_) fun _=>hk
   ·by_cases hb:b=a
    ·exact .inr ⟨_,_,if_pos hb⟩
    ·exact .inl (if_neg hb)
   ·by_cases hb:b=a
    ·have G :=(if_pos hb).symm.trans z;cases G;subst hb;exact⟨ha,by rw[aZ];exact hl,vs,_,T,ha⟩
    ·have G :=(if_neg hb).symm.trans z;cases G
   ·by_cases hb:b=a
    ·exact hb
    ·exact absurd (if_neg hb) z
theorem zW1{l:PySem.W.OpenLaw}{k:Nat}{q:aA}{loose:List Str}{XP:(Str->Option Value)->Heap->Prop}{YP:bW->Heap->Prop}{d:DefRec}{K:Params->aQ}{CX:bW->CXT}{sp:bW->Sp}{x:Str}(E:l.most=some n)(r:n<=aS)(t:d.params.defaults=[])(I:Room k callerA)(J:∀(w:bW) (h:Heap),YP w h->(K w.params).In h)(F:∀(w:bW) (j:Str->Option Value) (p:aX) (h:Heap),(K w.params).In h->h.Ns cH j->j d.name=some (.ref p)->
   ∃y:bJ,(∀(s:aY) (u:Value),BindsTo s y ⟨[u],[]⟩ [(x,u)])/\
    ∀base:Heap,(K w.params).In base->base.Ns cH j->FnOk l.prog w (K w.params) j base (CX w) k p y [x] (sp w))(z:∀(w:bW) (H:Hp) (a:aX) (ns:List Int),ns.length<=n->Only H->SqL (K w.params) H a (ns.map V.int)->sp w [.ref a] H (fun v _=>v=.bl true) fun _ _ _=>False)(A:∀(w:bW) (H:Hp) (s:aY) (e:Value) (B :aY),CX w [] H s (fun _ _ _=>False) e B ->False):
  PySem.W.WalkO q loose XP YP l.row.toRowW d [] (fun f vs=>PySem.call f vs):=by
 refine Att.vWe E t fun w s₀ s₁ j R p o S U L a vs ns G Y X Z M C m i c N=>?_
 have D:=J w _ Y;obtain⟨y,hb,O⟩:=F w j p _ D G.T.g C;exact zJy D G.T.g G.T.b G.T.builtins G.T.nolimit N m i (aR c r) I O hb (fun H P Q=>z w H a ns c P Q) fun H e B =>A w H s₁ e B
structure Fun(K:aQ)(x qual:Str)(st:Stmt)(f:aX)(fd:bJ):Prop where
 ex:∃(oc:Value) (od:Option aX) (kV doc pm:Value) (an:Option aX) (cdv ct:Value) (osl:Array (Option Value)),
  fd=cG x qual (jB st) (zL st) (qP st) .none kV doc pm an cdv ct/\K.lookup f=some ⟨oc,od,.func fd,osl⟩/\PySem.W.codeIn K cdv qual=true
 kp:cT K (.ref f)=true
section
variable{P:aA}{w:bW}{K:aQ}{mg:Str->Option Value}{base:Heap}
theorem Fun.binds{x:Str}{st:Stmt}(F:Fun K x qual st f fd)(h:∀(kV a c:Value) (an:Option aX) (b d:Value) (us:List Value),us.length=ps.length->bindArgs (cG x qual (jB st) (zL st) (qP st) .none kV a c an b d) ⟨us,[]⟩=pure (ps.zip us)):wD K fd ps []:=by
 obtain⟨i,j,kV,a,c,an,b,d,e,rfl,k,g⟩:=F.ex;exact .all (h kV a c an b d)
theorem vVp{x:Str}{st:Stmt}{an:Option aX}{kV:Value}(l:K.lookup f=some ⟨oc,od,.func (cG x qual (jB st) (zL st) (qP st) .none kV doc pm an cdv ct),osl⟩)(c:PySem.W.codeIn K cdv qual=true)(k:cT K (.ref f)=true):Fun K x qual st f (cG x qual (jB st) (zL st) (qP st) .none kV doc pm an cdv ct):=⟨⟨oc,od,kV,doc,pm,an,cdv,ct,osl,rfl,l,c⟩,k⟩
end
theorem qV8{k:Nat}(a:Room k A):A.units+1<eA:=Nat.lt_of_le_of_lt (Nat.add_le_add_left (by decide:1<=64) _) a.units
theorem vQz(h:n<=1000):n<aS:=Nat.lt_of_le_of_lt h (by decide)
section
variable{X:Cx}
theorem pv(i:Nat){x:Str}(b:X.N[i]?=some x:=by rfl)(c:Vis X.env.scope x:=by first|exact Or.inl rfl|exact Or.inr (Or.inl rfl)|exact Or.inr (Or.inr rfl))(d:(x == ("__debug__":Str))=false:=by decide)(a:(x == ("__classdict__":Str))=false:=by decide):PE X (.Name x pos) (tVar i):=jVi b c d a
end
noncomputable def Same(H H' :Hp):Prop:=∀b o,H b=some o->H' b=some o
theorem Same.refl(H:Hp):Same H H:=fun _ _ h=>h
theorem Same.trans{H1 d:Hp}(a:Same H H1)(b:Same H1 d):Same H d:=fun c o h=>b c o (a c o h)
structure FnAt(K:aQ)(mg:Str->Option Value)(x:Str)(st:Stmt)(ps:List Str)(f:aX)(fd:bJ):Prop where
 F:Fun K x x st f fd
 b:wD K fd ps []
 m:mg x=some (.ref f)
theorem Same.upd{o:HO}(h:H p=Option.none):Same H (upd H p o):=fun b u e=>by
 rw[qT (zK e h)];exact e
theorem Same.tup{H':Hp}{a:aX}{xs:List V}(e:Same H H')(h:SqT K H a xs):SqT K H' a xs:=by
 rcases h with(h|⟨o,h⟩)|h
 ·exact .inl (.inl (e _ _ h))
 ·exact .inl (.inr ⟨o,e _ _ h⟩)
 ·exact .inr h
theorem zVq:(2:Nat)<=aS:=by decide
theorem vYz{h:Heap}{x:Str}{st:Stmt}{an:Option aX}{kV:Value}(X:K.In h)(G:h.Ns cH mg)(a:PySem.W.nsIn K cH x=some (some (.ref f)))(l:K.lookup f=some ⟨oc,od,.func (cG x x (jB st) (zL st) (qP st) .none kV doc pm an cdv ct),osl⟩)(c:PySem.W.codeIn K cdv x=true)(k:cT K (.ref f)=true)(b:∀(kV doc pm:Value) (an:Option aX) (cdv ct:Value) (us:List Value),us.length=ps.length->bindArgs (cG x x (jB st) (zL st) (qP st) .none kV doc pm an cdv ct) ⟨us,[]⟩=pure (ps.zip us)):
  FnAt K mg x st ps f (cG x x (jB st) (zL st) (qP st) .none kV doc pm an cdv ct):=
 ⟨vVp l c k,(vVp l c k).binds b,PySem.W.mg_of X G a⟩
section
variable{X:Cx}
theorem zYf:OpR X (binaryOp .Mult) (rI IntMulOk fun i j=>.int (i * j)):=opI fun _ _ _ _ _ _ _ a q=>mul_int q a
noncomputable def vXw(_ j:Int):Prop:=0<j/\j.natAbs.log2<9000
theorem zJp:OpR X (binaryOp .FloorDiv) (rI vXw fun i j=>.int (i / j)):=opI fun i j _ _ _ _ _ a q=>by
 have b:(0:Int)<j:=a.1;refine floordiv_int (by omega) ?_ (.inl (PyProof.noPylong_of_log2 a.2))
 rw[Int.fdiv_eq_ediv_of_nonneg _ (Int.le_of_lt b)];exact q
noncomputable def rIsi(K:aQ):List V->Hp->VK->Prop:=fun a H Q=>∃x n t b,a=[x,.ty n]/\TyOf K H x t/\cX K t (.type n)=some b/\Q (.bl b) H
theorem zWw:zC X (.builtin "isinstance") (rIsi X.K):=by
 intro a s σ H xs us Q I r h;obtain⟨x,n,t,b,rfl,c,e,q⟩:=h;obtain⟨u,d,rfl,f,g⟩:=vXn r;cases(show d =Value.type n from g);exact vQ7 I f c e fun i=>⟨.bl b,H,I.tok i,rfl,q⟩
noncomputable def zKt(K:aQ):List V->Hp->VK->Prop:=fun a H Q=>∃x C t b,a=[x,.ref C]/\TyOf K H x t/\cX K t (.ref C)=some b/\Q (.bl b) H
theorem zQ7:zC X (.builtin "isinstance") (zKt X.K):=by
 intro a s σ H xs us Q I r h;obtain⟨x,n,t,b,rfl,c,e,q⟩:=h;obtain⟨u,d,rfl,f,g⟩:=vXn r;cases(show d =Value.ref n from g);exact vQ7 I f c e fun i=>⟨.bl b,H,I.tok i,rfl,q⟩
end
noncomputable def cCx(X:Cx)(a:Scope)(cl:List (Str×aX))(C:aX)(Nc:List Str)(s:aY)(H:Hp)(b:List aX):Cx where
 prog:=X.prog;w:=X.w;K:=X.K;mg:=X.mg;base:=X.base;A:=X.A;N:=Nc;s₀:=s;H₀:=H;env:=compEnvC a cl C X.env;outer:=X.stack;stack:=X.stack;ex:=b;fn:=fun _=>false
 calm:=X.calm;pn:=[]
 xe:=fun _ _=>False
noncomputable def PTs(X:Cx)(a:List Expr)(t:TT):Prop:=
 ∀(pins:List (aX×Obj)) (s:aY) (σ:St) (H:Hp) (Q:Bool->Hp->Prop),Inv X pins σ H s->t σ H Q->
  aH (model X.prog X.w) X.A (forIn a true fun c r=>if r=true then do let ok ←isTrue c X.env (eval c X.env);pure (ForInStep.yield ok) else pure (ForInStep.yield r)) (TP X pins σ Q) X.xe s
noncomputable def tTrue:TT:=fun _ H Q=>Q true H
theorem zXo:PTs X [] tTrue:=fun _ _ _ H _ I h=>wpAny_tests_nil ⟨H,I,h⟩
theorem zXn{c:Expr}{t:TT}(h:PT X c t):PTs X [c] t:=fun a s σ H Q I q=>wpAny_tests_one (h a s σ H Q I q)
theorem vXk{prog:aA}{R:Result->aY->Prop}{s:aY}{e a f:Expr}{g:List Expr}{d:Scope}{it i:Value}{env:Env}(I:Nat->aY->Prop)(turn:∀n s,I n s->aH (model prog w) A (pyNext it) (fun r s₁=>match r with
   |none=>R (.ok .next) s₁
   | some v=>aH (model prog w) A (letOwnedTupleGo a it v) (fun _ s₂=>aH (model prog w) A (assign a env v) (fun _ s₃=>
     aH (model prog w) A (forIn g true fun c r=>if r=true then do let ok ←isTrue c env (eval c env);pure (ForInStep.yield ok) else pure (ForInStep.yield r)) (fun ok s₄=>
      if ok=true then aH (model prog w) A (eval e env) (fun x s₅=>
       aH (model prog w) A (call (.builtin "list.append") [i,x]) (fun _ s₆=>∃m,m<n/\I m s₆) (fun _ _=>False) s₅) (fun _ _=>False) s₄
      else∃m,m<n/\I m s₄) (fun _ _=>False) s₃) (fun _ _=>False) s₂) (fun _ _=>False) s₁) (fun _ _=>False) s)(n:Nat)(h:I n s):
  codeAny (model prog w) A (.compLoop (.ListComp e [⟨a,f,g,0⟩] d pos) 0 it i env) R s:=by
 refine codeAny_loop rfl I (fun n s j=>?_) n h;refine wpAny_noted ?_
 refine aV (wpAny_standAt (aV (fZ (turn n s j) (fun r s₁ h₁=>?_) fun _ _ b =>b.elim)));cases r with
 |none=>exact aW h₁
 | some v=>
   refine aV (fZ h₁ (fun _ s₂ h₂=>aV (fZ h₂ (fun _ s₃ h₃=>aV (fZ h₃ (fun ok s₄ h₄=>?_) fun _ _ b =>b.elim)) fun _ _ b =>b.elim)) fun _ _ b =>b.elim);cases ok with
   |false=>exact aW ⟨rfl,h₄⟩
   | true=>
     exact aV (aV (fZ h₄ (fun x s₅ h₅=>aV (fZ h₅ (fun _ s₆ h₆=>aW (aW ⟨rfl,h₆⟩)) fun _ _ b =>b.elim)) fun _ _ b =>b.elim))
noncomputable def jQh(J:It)(g:TG)(f:TT)(h:TE)(σ0:St)(Q:VK)(D:aX)(H1:Hp):Prop:=
 ∃W:Nat->Nat->St->List V->Hp->Prop,(∃m,W 0 m σ0 [] H1)/\∀i m σ2 ys H2,W i m σ2 ys H2->H2 D=some (.lst ys)/\ys.length<aS/\
  ((J.stop i H2/\Q (.ref D) H2)\/(J.go i H2/\∀x c,J.yld i H2 x c->g x σ2 c fun σ4 j=>f σ4 j fun b d=>
    if b=true then h σ4 d fun v e=>e D=some (.lst ys)/\∃a,a<m/\W (i+1) a σ4 (ys ++ [v]) (upd e D (.lst (ys ++ [v])))
    else∃a,a<m/\W (i+1) a σ4 ys d))
noncomputable def tComp(b:TI)(g:TG)(d:TT)(e:TE)(σc:St->St):TE:=fun σ H Q=>b σ H fun J a=>∀D,a D=none->jQh J g d e (σc σ) Q D (upd a D (.lst []))
structure Caps(X:Cx)(scope:Scope)(cl:List (Str×aX))(Nc:List Str)(σc:St->St):Prop where
 clos:closureFor scope X.env=pure cl
 kind:scope.kind=.function
 nocell:∀y∈scope.names,y.2≠ .cell
 names:∀y∈scope.names,y.2=.local ->scope.names.lookup y.1=some .local
 cells:∀x c,cl.lookup x=some c->X.env.cells.lookup x=some c
 has:∀x,((relabel scope X.env).names.lookup x=some .cell \/(relabel scope X.env).names.lookup x=some .free)->∃c,cl.lookup x=some c
 len:∀σ,(σc σ).length =Nc.length
 cap:∀σ (i:Nat) x v,Nc[i]?=some x->(σc σ)[i]?=some (some v)->Vis (relabel scope X.env) x->
  ((relabel scope X.env).names.lookup x=some .cell \/(relabel scope X.env).names.lookup x=some .free)/\
  (X.env.kindOf x=some .cell \/X.env.kindOf x=some .free)/\∃j:Nat,X.N[j]?=some x/\σ[j]?=some (some v)/\Vis X.env.scope x
section
variable{X:Cx}{tg iter elt:Expr}{ifs:List Expr}{scope:Scope}{cl:List (Str×aX)}{Nc:List Str}{σc:St->St}{pos:Pos}{wi:TI}{g:TG}{tt:TT}{te:TE}
theorem zZs{s:aY}(I:Inv X pins σ H s)(c:Caps X scope cl Nc σc)(g:s.heap.objs.size<=C)(d:∀b∈fp,FpOk X pins H b)(f:∀b∈fp,b<s.heap.objs.size):
  (cCx X scope cl C Nc s H fp).Ok where
 mod:=I.ok.mod;kind:=c.kind;glob:=I.ok.glob;blt:=I.ok.blt;above:=g;inj:=fun x y a i j=>I.ok.inj x y a (c.cells x a i) (c.cells y a j)
 has:=c.has;cab:=fun _ _ h _=>absurd (show false=true from h) aO
 hd:=I.ok.hd;frames:=I.ok.frames;stk:=.inl rfl;exf:=fun b hb=>⟨fun z=>absurd (aT (f b hb) g) (by
    have k :b=C:=z;rw[k];exact bR _),fun x a h z=>(d b hb).2.2.2.2.1 x a (c.cells x a h) z⟩
 bs:=I.bs;bsz:=aR I.ok.bsz I.sz;noex:=fun b o e hb=>by
  rcases(d b hb).2.2.2.1 with z|z
  ·exact I.ok.noex b o e z
  ·exact absurd (aT (aE e) (aR I.ok.bsz z)) (bR _)
 exfs:=fun b hb z=>by
  rcases aG.mp (I.stkSub b z) with q|q
  ·exact(d b hb).2.1 q
  ·exact(d b hb).2.2.1 q
 funs:=I.stack;frf:=I.stkFree
theorem zKg{s:aY}{h' :Heap}{m:Str->Option Value}(I:Inv X pins σ H s)(c:Caps X scope cl Nc σc)(n:s.heap.objs.size<=C)(r:∀b∈fp,FpOk X pins H b)(g:∀b∈fp,b<s.heap.objs.size)(hk:∀b o,s.heap.get? b=some o->h'.get? b=some o)(t:h'.Ns C m):
  Inv (cCx X scope cl C Nc s H fp) [] (σc σ) H {s with heap:=h',toks:=t' }:=by
 refine⟨zZs I c n r g,rfl,I.bare,Un.kept hk,⟨m,t,fun i x v w y A=>?_⟩,fun x a h=>?_,I.hok.fresh n,fun x a h=>I.freeC x a (c.cells x a h),fun p B=>absurd (show p∈([]:List (aX×Obj)) from B) (by simp),I.hok.kept hk,c.len σ⟩
 ·obtain⟨q,k2,j,D,E,F⟩:=c.cap σ i x v w y A;obtain⟨M,_,G⟩:=I.loc;obtain⟨u,J,K⟩:=G j x v D E F;refine⟨u,J,.inr ⟨q,?_⟩⟩;rcases K with⟨z,_⟩|⟨_,a,ha,d⟩
  ·rcases k2 with k2|k2 <;> rw[k2]at z <;> cases z
  ·obtain⟨L,f⟩:=c.has x q;have e:=c.cells x L f;rw[ha]at e;cases e;obtain⟨o,k,l⟩:=d;exact⟨a,f,⟨o,hk _ _ k,l⟩⟩
 ·obtain⟨v,o,k,l⟩:=I.cell x a (c.cells x a h);exact⟨v,o,hk _ _ k,l⟩
theorem qK4{s:aY}{Q:VK}{J:It}{it:aX}{P:Nat->Heap->Prop}{RR:Value->aX->Result->aY->Prop}{E:Value->aY->Prop}(hc:X.calm=true)(c:Caps X scope cl Nc σc)(hg:∀C s H fp,PG (cCx X scope cl C Nc s H fp) tg g)(ht:∀C s H fp,PTs (cCx X scope cl C Nc s H fp) ifs tt)(he:∀C s H fp,PE (cCx X scope cl C Nc s H fp) elt te)(I:Inv X pins σ H s)(T:Turn X.prog X.w X.K tg J fp it P)(st:P 0 s.heap)(hf:∀b∈fp,FpOk X pins H b)(h:∀D,H D=none->jQh J g tt te (σc σ) Q D (upd H D (.lst [])))(hRR:∀D C H' f m,Inv X pins σ H' f ->H' C=none->s.heap.objs.size<=C->f.heap.Ns C m->Q (.ref D) H' ->RR (.ref D) C (.ok .next) f):
  aH (model X.prog X.w) X.A (newList []) (fun R s₃=>aH (model X.prog X.w) X.A (newFunctionEnv scope X.env.globals cl [] X.env.qual none .none (some X.env)) (fun k s₄=>
   codeAny (model X.prog X.w) X.A (.compStart (.ListComp elt [⟨tg,iter,ifs,0⟩] scope pos) 0 (.ref it) R {k with scope:=relabel scope X.env}) (RR R k.locals) s₄) E s₃) E s:=by
 have S:∀b∈fp,b<s.heap.objs.size:=fun b hb=>by
  obtain⟨o,e,_⟩:=T.obj _ _ st b hb;exact aE e
 obtain⟨W,⟨m0,w0⟩,turn⟩:=h s.heap.objs.size (I.hok.fresh (aC _));refine bT (wpAny_newFunctionEnv c.nocell (by intro y hy;simp at hy) (fun h₁ hns₁ hsb₁=>?_) c.kind);dsimp only at hns₁ hsb₁⊢;have I1:Inv X pins σ (upd H s.heap.objs.size (.lst [])) {s with heap:=s.heap.push {cls:=.type "list",dict:=none,data:=.seq ([]:List Value).toArray }}:=
  I.laid (t' :=s.toks) (fun b u e=>aJ _ e) (aC _) ⟨cF _,[],0,.nil,aP _ rfl⟩
 generalize U:s.heap.push {cls:=.type "list",dict:=none,data:=.seq ([]:List Value).toArray }=G at hns₁ hsb₁ I1⊢;have hG:G.objs.size=s.heap.objs.size+1:=by rw[←U,bP]
 have Y:∀b o,G.get? b=some o->h₁.get? b=some o:=fun b o e=>hsb₁.extBut b o (bQ (aE e)) (aJ _ e)
 have a:∀b∈fp,FpOk X pins (upd H s.heap.objs.size (.lst [])) b:=fun b hb=>
  ⟨by rw[qT (bQ (S b hb))];exact(hf b hb).1,(hf b hb).2⟩
 have l:∀b∈fp,b<G.objs.size:=fun b hb=>aT (S b hb) (by rw[hG];exact Nat.le_succ _)
 have I2:=zKg (C:=G.objs.size) (t' :=s.toks+([]:List (Str×Value)).length) I1 c (aC _) a l Y hns₁;have Z:P 0 h₁:=T.keep _ _ _ st fun b hb o e=>Y b o (by rw[←U];exact aJ _ e)
 have B:∀{H' :Hp},(∀b∈fp,H' b=none)->∀b∈fp,FpOk (cCx X scope cl G.objs.size Nc {s with heap:=G} (upd H s.heap.objs.size (.lst [])) fp) [] H' b:=fun {H'} hn b hb=>by
  have ok:=zZs (C:=G.objs.size) I1 c (aC _) a l;obtain⟨e1,e2⟩:=ok.exf b hb;exact⟨hn b hb,e1,ok.exfs b hb,.inl hb,e2,fun p hp=>absurd (show p∈([]:List (aX×Obj)) from hp) (by simp)⟩
 have t:∀s₃:aY,s₃={s with heap:=h₁,toks:=s.toks+([]:List (Str×Value)).length }->
   codeAny (model X.prog X.w) X.A (.compLoop (.ListComp elt [⟨tg,iter,ifs,0⟩] scope pos) 0 (.ref it) (.ref s.heap.objs.size) (compEnvC scope cl G.objs.size X.env))
    (RR (.ref s.heap.objs.size) G.objs.size) s₃:=by
  rintro s₃ rfl
  refine vXk (fun n f =>∃i σ' F H',Inv (cCx X scope cl G.objs.size Nc {s with heap:=G} (upd H s.heap.objs.size (.lst [])) fp) [] σ' H' f /\P i f.heap/\(∀b∈fp,H' b=none)/\W i n σ' F H') ?_ m0
   ⟨0,σc σ,[],_,I2,Z,fun b hb=>(a b hb).1,w0⟩
  rintro n s5 ⟨i,σ5,F,H5,I5,st5,fr5,w5⟩;obtain⟨hD,hsz,alt⟩:=turn i n σ5 F H5 w5;rcases alt with⟨stop,q⟩|⟨go,step⟩
  ·refine thn (T.done (cCx X scope cl G.objs.size Nc {s with heap:=G} (upd H s.heap.objs.size (.lst [])) fp) rfl rfl rfl hc i [] s5 σ5 H5 _ I5 (B fr5) st5 stop) fun r s6 ⟨hr,N⟩=>?_
   subst hr;obtain⟨m6,n6,_⟩:=N.loc;have I7:Inv X pins σ H5 s6:=I1.call' N.os N.base N.hok N.bare fun b hb=>⟨(a b hb).2.2.2.1,(a b hb).2.1,(a b hb).2.2.2.2.1,(a b hb).2.2.2.2.2⟩
   exact hRR _ _ H5 s6 m6 I7 N.free (by rw[hG];exact Nat.le_succ _) n6 q
  ·refine thn (T.item (cCx X scope cl G.objs.size Nc {s with heap:=G} (upd H s.heap.objs.size (.lst [])) fp) rfl rfl rfl hc i [] s5 σ5 H5 _ I5 (B fr5) st5 go) fun r s6 ⟨u,hr,h6⟩=>?_
   subst hr;refine thn h6 fun _ s7 ⟨x,H7,I7,r7,y7,L,fr7⟩=>?_
   have I7' :=I7.pinned (B fr7) (T.obj _ _ L);refine thn (hg _ _ _ _ _ s7 σ5 H7 x u _ I7' r7 (step x H7 y7)) fun _ s8 ⟨σ8,H8,I8,q8⟩=>?_
   refine thn (ht _ _ _ _ _ s8 σ8 H8 _ I8 q8) fun ok s9 ⟨H9,I9,q9⟩=>?_
   have j:∀{σ' :St} {H' :Hp} {f :aY} {M :List V} {O :Nat},Inv (cCx X scope cl G.objs.size Nc {s with heap:=G} (upd H s.heap.objs.size (.lst [])) fp) ([] ++ qY1 fp s7.heap) σ' H' f ->O<n->W (i+1) O σ' M H' ->
     ∃m,m<n/\∃i σ' F H',Inv (cCx X scope cl G.objs.size Nc {s with heap:=G} (upd H s.heap.objs.size (.lst [])) fp) [] σ' H' f /\P i f.heap/\(∀b∈fp,H' b=none)/\W i m σ' F H' :=fun {σ' H' f M O} J7 hm hw=>by
    refine⟨O,hm,i+1,σ',M,H',J7.unpinned,T.keep _ _ _ L fun b hb o e=>(J7.pin (b,o) (bU _ (bU _ (qVp hb e)))).1,fun b hb=>?_,hw⟩;obtain⟨o,e,d⟩:=T.obj _ _ L b hb;exact(J7.pin (b,o) (bU _ (bU _ (qVp hb e)))).2.1
   cases ok with
   | false=>
     rw[if_neg aO]at q9⊢;obtain⟨O,hm,hw⟩:=q9;exact j I9 hm hw
   | true=>
     rw[if_pos rfl]at q9⊢;refine thn (he _ _ _ _ _ s9 σ8 H9 _ I9 q9) fun v s10 ⟨y,H10,I10,r10,hD10,O,hm,hw⟩=>?_
     refine thn (vQ5 _ s10 σ8 H10 (.ref s.heap.objs.size) [y] (.ref s.heap.objs.size) [v] (fun _ H' =>H' =upd H10 s.heap.objs.size (.lst (F ++ [y]))) I10 rfl (.cons r10 .nil) ⟨_,F,y,rfl,rfl,hD10,hsz,rfl⟩) fun _ s11 ⟨z,H11,I11,_,e11⟩=>?_
     subst e11;exact j I11 hm hw
 exact codeAny_compStart_list (t _ rfl) (T.self _ 0 _ _ _ Z (t _ rfl))
theorem zX5(l:X.calm=true)(c:Caps X scope cl Nc σc)(n:PI X tg iter wi)(r:∀C s H f,PG (cCx X scope cl C Nc s H f) tg g)(t:∀C s H f,PTs (cCx X scope cl C Nc s H f) ifs tt)(u:∀C s H f,PE (cCx X scope cl C Nc s H f) elt te)(hs:∀x,foldedSetIterable iter X.env x=pure x:=by intro _;rfl):PE X (.ListComp elt [⟨tg,iter,ifs,0⟩] scope pos) (tComp wi g tt te σc):=by
 intro i s σ H Q I h;rw[eval_ListComp];refine wpAny_comprehension_free (use:=none) rfl hs c.clos c.kind c.names (thn (n i s σ H _ I h) fun v O w=>thn w fun y P A=>?_);obtain⟨it,f,R,J,S,rfl,j,T,k,B,W⟩:=A;refine qK4 (Q:=Q) l c r t u j T k B W ?_
 intro D C E F m G K d L q;refine⟨m,L,fun U sb=>⟨.ref D,E,?_,rfl,q⟩⟩;have M:C≠X.env.locals:=dD (aT j.lt d);refine G.turned (t' :=F.toks) (it:=C) (fun b o hb e=>sb.extBut b o hb e) K M (.inr (aR j.sz d)) (fun x a e z=>?_) (fun p N z=>?_)
 ·obtain⟨v,q⟩:=j.cell x a e;exact absurd (aT q.lt d) (by rw[z];exact bR _)
 ·exact absurd (aT (aE (j.pin p N).1) d) (by rw[z];exact bR _)
theorem zXu{i:Nat}{y:Str}{r j:Pos}(hc:X.calm=true)(hN:X.N.Nodup)(B:X.N[i]?=some y)(hy:Loc X.env.scope y)(c:Caps X scope cl Nc σc)(hi:PI X tg iter wi)(hg:∀C s H l,PG (cCx X scope cl C Nc s H l) tg g)(ht:∀C s H l,PTs (cCx X scope cl C Nc s H l) ifs tt)(he:∀C s H l,PE (cCx X scope cl C Nc s H l) elt te)(E:swapsWith (.ListComp elt [⟨tg,iter,ifs,0⟩] scope pos) (some (.Name y r)) j.line X.env=pure true:=by rfl)(hs:∀x,foldedSetIterable iter X.env x=pure x:=by intro _;rfl)(hf:X.fn y=true\/X.env.scope.names.lookup y=some .local :=by first|exact .inl rfl|exact .inr rfl|assumption):
  PS X (.Assign [.Name y r] (.ListComp elt [⟨tg,iter,ifs,0⟩] scope pos) j) (tAsg (tComp wi g tt te σc) (vXt i)):=by
 intro d s σ H D I h;rw[exec_Assign_Name_used _ _ _ _ E];refine aV (wpAny_standAt (aV ?_));show aH _ X.A (do let _ ←comprehension (.ListComp elt [⟨tg,iter,ifs,0⟩] scope pos) scope X.env _ (newList []) false (eval iter X.env) (some (assign (.Name y r) X.env))) _ _ s
 refine aV (fZ (wpAny_comprehension_free (use:=some (assign (.Name y r) X.env)) (Q:=fun _ u =>SP X d D .next u) rfl hs c.clos c.kind c.names
  (thn (hi d s σ H _ I h) fun v s1 h1=>thn h1 fun itv s2 h2=>?_)) (fun _ u hq=>aW (aW hq)) fun _ _ e=>e)
 obtain⟨it,l,tn,J,H2,rfl,n,T,F,f2,W⟩:=h2;refine qK4 (Q:=fun v w =>D.nx (σ.set i (some v)) w) hc c hg ht he n T F f2 W ?_
 intro L C w u m S U f hn q;have V:C≠X.env.locals:=dD (aT n.lt f);have G:C∉X.fs:=n.nofs f;obtain⟨oC,es,ep,K,t,M⟩:=id hn;have k:∀v,oC.data≠ .cell v:=fun v z=>by rw[t]at z;cases z
 have O :Inv X (d ++ [(C,oC)]) σ w u :=S.pins_of fun p P=>by
  rcases cN.mp P with z|z
  ·exact S.pin p (bU _ z)
  ·have e:p=(C,oC):=by simpa using z
   subst e;exact⟨K,U,V,G,k⟩
 show aH _ X.A (assign (.Name y r) X.env (.ref L)) _ _ _;refine wpAny_assign_Name (qKc O hN B hy (v:=.ref L) rfl (fun Y Z=>?_) hf);have R:Y.heap.Ns C m:=⟨oC,es,ep,(Z.pin (C,oC) (by simp)).1,t,M⟩
 refine⟨m,R,fun h' sb=>⟨σ.set i (some (.ref L)),w,?_,q⟩⟩;refine Z.unpinned.turned (t' :=Y.toks) (it:=C) (fun b o hb e=>sb.extBut b o hb e) U V (.inr (aR n.sz f)) (fun x a e z=>?_) (fun p P z=>?_)
 ·obtain⟨v,q⟩:=n.cell x a e;exact absurd (aT q.lt f) (by rw[z];exact bR _)
 ·exact absurd (aT (aE (n.pin p P).1) f) (by rw[z];exact bR _)
theorem jWl(hk:scope.kind=.function)(a:∀x∈scope.names,x.2≠ .free)(b:∀x∈scope.names,x.2≠ .cell)(d:∀y∈scope.names,y.2=.local ->scope.names.lookup y.1=some .local):
  Caps X scope [] Nc (fun _=>List.replicate Nc.length none) where
 clos:=closureFor_none a;kind:=hk;nocell:=b;names:=d;cells:=fun x c e=>by cases e
 has:=fun x h=>by
  have f:(relabel scope X.env).names =scope.names:=by
   unfold relabel;refine map_eq_self fun y g=>?_
   obtain⟨n,k⟩:=y;have:(k == NameKind.free)=false:=by simpa using a _ g
   simp[this]
  rw[f]at h;rcases h with h|h
  ·exact absurd rfl (b _ (cL h))
  ·exact absurd rfl (a _ (cL h))
 len:=fun _=>by simp
 cap:=fun σ i x v _ e _=>by
  rw[List.getElem?_replicate]at e;split at e <;> cases e
end
section
variable{X:Cx}{pins:List (aX×Obj)}{σ:St}{H:Hp}{s:aY}{h' :Heap}
theorem Inv.turnedLaid{o:HO}(I:Inv X pins σ H s)(k:∀b u,b∉ch->s.heap.get? b=some u->h'.get? b=some u)(d:∀b∈ch,FpOk X pins H b)(h:s.heap.objs.size<=p)(new:zW X.prog X.w (upd H p o) h' p o):Inv X pins σ (upd H p o) {s with heap:=h',toks:=t' }:=by
 have f:=I.hok.fresh h;have g:∀b u,H b=some u->b∉ch:=fun b u e z=>by rw[(d b z).1]at e;cases e
 refine I.call (g' :=s.gens) (d' :=s.drawn) (ch:=ch) ⟨fun b u e _ _ a=>k b u a e,fun b u e _ _ a=>⟨u.slots,k b u a e⟩,fun b u e n _=>?_,fun b u e a=>⟨u,k b u a e⟩,fun b i e=>?_,fun b u i e=>?_,fun b j e=>?_⟩ (fun b u e=>?_) I.bare
  fun b hb=>⟨(d b hb).2.2.2.1,(d b hb).2.1,(d b hb).2.2.2.2.1,(d b hb).2.2.2.2.2⟩
 ·rw [qT (bQ (aT (aE e) h))];exact n
 ·rw [qT (zK e f)];exact e
 ·rw [qT (zK e f)];exact e
 ·exact⟨#[],by rw[qT (zK e f),e];simp⟩
 ·by_cases hb:b=p
  ·subst hb;rw[upd_same]at e;cases e;exact new
  ·rw [qT hb] at e;refine(I.hok b u e).stay (fun c v a q=>k c v ?_ q) (fun c q=>by rw[qT (zK q f)];exact q) fun c i q=>by rw[qT (zK q f)];exact q
   rcases a with z|z
   ·rw [z];exact g b u e
   ·exact g c _ z
theorem Inv.turnedAll(I:Inv X pins σ H s)(k:∀b u,b∉ch->s.heap.get? b=some u->h'.get? b=some u)(d:∀b∈ch,FpOk X pins H b):Inv X pins σ H {s with heap:=h',toks:=t' }:=by
 have f:∀b u,H b=some u->b∉ch:=fun b u e z=>by rw[(d b z).1]at e;cases e
 refine I.call (g' :=s.gens) (d' :=s.drawn) (ch:=ch) ⟨fun b u e _ _ a=>k b u a e,fun b u e _ _ a=>⟨u.slots,k b u a e⟩,fun b u e n _=>n,fun b u e a=>⟨u,k b u a e⟩,fun b g e=>e,fun b u g e=>e,fun b h e=>⟨#[],by rw[e];simp⟩⟩ (fun b u e=>?_) I.bare
  fun b hb=>⟨(d b hb).2.2.2.1,(d b hb).2.1,(d b hb).2.2.2.2.1,(d b hb).2.2.2.2.2⟩
 refine(I.hok b u e).stay (fun c v a q=>k c v ?_ q) (fun c q=>q) fun c g q=>q
 rcases a with z|z
 ·rw [z];exact f b u e
 ·exact f c _ z
end
section
variable{X:Cx}
theorem zJ6{its:List Value}(i:IntsAre its ns):∀(j:Nat) v,its[j]?=some v->∃t,v=Value.int (ns.getD j 0) t:=by
 induction i with
 |nil=>grind
 |cons n t i ih=>grind
theorem zWv(i:X.calm=true):zC X (.builtin "sum") (fun xs H Q=>∃(p:aX) (ns:List Int),xs=[.ref p]/\SqL X.K H p (ns.map V.int)/\Q (.int ns.sum) H):=by
 intro d s σ H xs us Q I r h;obtain⟨p,ns,rfl,k,q⟩:=h;obtain⟨u,rfl,l⟩:=yG r;cases l;obtain⟨a,m,pl,_⟩:=I.list k;have f:IntsAre a ns:=qJ8 m;have g:p<s.heap.objs.size:=by obtain⟨_,e,_⟩:=pl.isList;exact aE e
 refine call_sum_walkG (wpAny_pyIter_list pl.isList ?_);refine⟨s.heap.objs.size,_,_,_,_,_,fun j=>ns.getD j 0,rfl,Walks.list (A:=X.A.in1) (I.ok.hd i) s.heap.objs.size p (bQ g) a.toArray,⟨⟨_,aP _ rfl,rfl,rfl⟩,pl.isList.at fun o e=>aJ _ e⟩,fun b hb=>?_,fun j v n=>zJ6 f j v (by simpa using n),fun B t t' w=>?_⟩
 ·have c :b=s.heap.objs.size\/b=p:=by simpa using hb
  rcases c with rfl|rfl
  ·rw[bP];exact Nat.lt_succ_self _
  ·rw[bP];exact eM g
 ·refine⟨.int ns.sum,H,I.kept (t' :=t) fun b o e=>w b o (fun z=>?_) (aJ _ e),⟨t',?_⟩,q⟩
  ·have x :b=s.heap.objs.size:=by simpa using z
   exact absurd (aE e) (by rw[x];exact bR _)
  ·have y:a.toArray.size=ns.length:=by rw [aN];exact f.length
   rw[preSum_getD,y,List.take_of_length_le (aC _)]
end
section
variable{X:Cx}{pins:List (aX×Obj)}{σ:St}{H:Hp}{s:aY}
theorem zQ5:zC X (.builtin "isinstance") (fun xs H Q=>∃a vs n b,xs=[.ref a,.ty n]/\SqT X.K H a vs/\cX X.K (.type "tuple") (.type n)=some b/\Q (.bl b) H):=by
 intro c s σ H xs us Q I r h;obtain⟨a,vs,n,b,rfl,d,e,q⟩:=h;obtain⟨u,f,rfl,g,i⟩:=vXn r;cases(show u=Value.ref a from g);cases(show f =Value.type n from i);obtain⟨j,_,⟨o,k,l,_⟩,_⟩:=I.tuple d;exact bA PySem.W.kitx_tuple I.kIn ⟨o,k,l⟩ e (fun z=>nomatch z) fun m=>⟨.bl b,H,I.tok m,rfl,q⟩
end
structure Feed(i l:aX)(P:Nat->Heap->Prop)(f:Nat->Option Value):Prop where
 obj:∀k h,P k h->∃o,h.get? i=some o/\∀v,o.data≠ .cell v
 keep:∀k (h g:Heap),P k h->(∀b o,b=i\/b=l->h.get? b=some o->g.get? b=some o)->P k g
 item:∀{prog:aA} {w:bW} {A:cQ} {E:Value->aY->Prop} {s:aY} {k:Nat} {x:Value} {Q:Value->aY->Prop},P k s.heap->f k=some x->
  (∀g,P (k+1) g->eX i s.heap g->Q x {s with heap:=g})->aH (model prog w) A (Builtin.SmallTypes.nextOf (.ref i)) Q E s
 stop:∀{prog:aA} {w:bW} {A:cQ} {E:Value->aY->Prop} {s:aY} {k:Nat} {Q:Value->aY->Prop},A.handled=none->P k s.heap->f k=none->
  (∀g e,Heap.ExtBut i s.heap g->(∃o,g.get? e=some o/\o.cls=.type "StopIteration")->E (.ref e) {s with heap:=g})->aH (model prog w) A (Builtin.SmallTypes.nextOf (.ref i)) Q E s
section
variable{prog:aA}{w:bW}{A:cQ}{E:Value->aY->Prop}{s:aY}
theorem vXh{i l:aX}(u:l≠i)(xs:Array Value):Feed i l (fun k h=>h.IsTupleIter i l k/\h.IsTuple l xs) (fun k=>xs[k]?) where
 obj:=fun k h p=>by
  obtain⟨⟨o,e,_,d⟩,_⟩:=p;exact⟨o,e,fun v z=>by rw[d]at z;cases z⟩
 keep:=fun k h g p q=>⟨p.1.at fun o e=>q i o (.inl rfl) e,by
  obtain⟨o,e,r⟩:=p.2;exact⟨o,q l o (.inr rfl) e,r⟩⟩
 item:=by
  intro j w A E s k x Q p y I;obtain⟨⟨J,c,B,b⟩,⟨C,n,D,G,t⟩⟩:=id p;unfold Builtin.SmallTypes.nextOf;refine aV (dY (name:=Str.ofString "__next__") p.1.typeIs eV (cZ eV p.1.typeIs PySem.F.entry_tuple_iterator_next ?_ (PySem.F.args_tuple_iterator_next_1 _)));show aH _ _ (field (.ref i) 0 >>=_) _ _ s;refine aV (dO c b (x:=.ref l) rfl ?_);show aH _ _ (if(Value.ref l == Value.none)=true then _ else _) _ _ s;rw[if_neg (show¬((Value.ref l == Value.none)=true) from aO)];show aH _ _ (field (.ref i) 1 >>=_) _ _ s;refine aV (dO c b (x:=.int k 0) rfl ?_);show aH _ _ (seqItems? (.ref l) >>=_) _ _ s;refine aV (dE n t ?_);have f :xs[k]?=some x:=y;simp only[bN,f];refine aV (wpAny_setField c b (by simp) (aW ⟨x,rfl,aW (I _ ⟨?_,?_⟩ (eQ ..))⟩))
  ·exact⟨_,eD _ c (Obj.isFreed_of_fields (Obj.data_mapFields b _)),(Obj.cls_mapFields ..).trans B,by rw[Obj.data_mapFields b];simp[rawInt]⟩
  ·exact⟨C,((eQ ..).2 l u).trans n,D,G,t⟩
 stop:=by
  intro j w A E s k Q H p y K;obtain⟨⟨J,c,B,b⟩,⟨C,n,D,G,t⟩⟩:=id p;unfold Builtin.SmallTypes.nextOf;refine aV (dY (name:=Str.ofString "__next__") p.1.typeIs eV (cZ eV p.1.typeIs PySem.F.entry_tuple_iterator_next ?_ (PySem.F.args_tuple_iterator_next_1 _)));show aH _ _ (field (.ref i) 0 >>=_) _ _ s;refine aV (dO c b (x:=.ref l) rfl ?_);show aH _ _ (if(Value.ref l == Value.none)=true then _ else _) _ _ s;rw[if_neg (show¬((Value.ref l == Value.none)=true) from aO)];show aH _ _ (field (.ref i) 1 >>=_) _ _ s;refine aV (dO c b (x:=.int k 0) rfl ?_);show aH _ _ (seqItems? (.ref l) >>=_) _ _ s;refine aV (dE n t ?_);have f :xs[k]?=none:=y;simp only[bN,f];refine aV (fV (aV (wpAny_setField c b (by simp) ?_)));show aH _ _ (newExc (.type "StopIteration") [] >>=_) _ _ _;refine aV ?_
  simp only[newExc,newTuple];refine aV (bT ?_ (by size_fits));refine aV (m:=firstArgMember _ _) (fJ (a:=Value.none) (by first|rfl|(simp only[firstArgMember];rfl)) (bT ?_ (by size_fits)));simp only[raiseNew];refine aV (wpAny_handled ?_);first|rw[show A.in1.handled=none from H]|rw[H]
  refine aV (aW (wpAny_throw ?_));exact K _ _ (((eQ ..).extBut.push _).push _) ⟨_,aP _ rfl,rfl⟩
variable{z TI TO i1 i2 l1 l2:aX}{P1 P2:Nat->Heap->Prop}{f1 f2:Nat->Option Value}{k1 k2:Nat}{x y a b:Value}
theorem vKg(r:Feed i1 l1 P1 f1)(t:Feed i2 l2 P2 f2)(D:ZipApart z TI TO i1 i2 l1 l2)(h:IsZip s.heap z TI TO .none)(V:IsPair s.heap TI (.ref i1) (.ref i2))(W:IsPair s.heap TO a b)(X:P1 k1 s.heap)(Y:P2 k2 s.heap)(Z:f1 k1=some x)(hy:f2 k2=some y)(hQ:∀g,IsZip g z TI TO (rawInt s.heap.objs.size)->IsPair g TO x y->P1 (k1+1) g->P2 (k2+1) g->IsPair g s.heap.objs.size x y->
   (∀c o,c≠z->c≠TO->c≠i1->c≠i2->s.heap.get? c=some o->g.get? c=some o)->Q (some (.ref s.heap.objs.size)) {s with heap:=g}):
  aH (model prog w) A (pyNext (.ref z)) Q E s:=by
 have M:s.TypeIs (.ref z) "zip":=⟨_,h,rfl⟩
 unfold pyNext;refine aV (wpAny_attempt (dY (name:=Str.ofString "__next__") M PySem.F.slot_zip_next (cZ PySem.F.slot_zip_next M PySem.F.entry_zip_next ?_ (PySem.F.args_zip_next_1 _))));show aH _ _ (field (.ref z) 2 >>=_) _ _ _;refine aV (dO h rfl (x:=.bool false) rfl ?_);show aH _ _ (field (.ref z) 3 >>=_) _ _ _;refine aV (dO h rfl (x:=.ref TI) rfl (aV (dE V rfl ?_)));show aH _ _ (Builtin.SmallTypes.ownedTupleIsFree (.ref z) >>=_) _ _ _;refine aV ?_
 unfold Builtin.SmallTypes.ownedTupleIsFree;refine aV (dO h rfl (x:=.none) rfl (aW ?_));simp only[if_true];refine aV (fV (aV (dO h rfl (x:=.ref TO) rfl ?_)));refine aV (eJ h (by simp) fun g1 H i=>?_);replace H:IsZip g1 z TI TO .ellipsis :=H;refine aV ?_
 simp only[List.zipIdx_cons,List.zipIdx_nil,List.forIn_cons,List.forIn_nil];refine aV (aV (wpAny_onRaise ?_));show aH _ _ (Builtin.SmallTypes.nextOf (.ref i1) >>=_) _ _ _;have q1:P1 k1 g1:=r.keep _ _ _ X fun c o d e=>i.extBut _ _ (by rcases d with rfl|rfl;exact D.i1z;exact D.l1z) e
 refine aV (r.item q1 Z fun g2 r1 j=>aW ?_);have N:IsPair g2 TO a b:=j.extBut _ _ D.TOi1 (i.extBut _ _ D.TOz W);refine aV (dE N rfl (aV (wpAny_updateSeq_pair N fun O I k=>?_)));replace I:IsPair O TO x b:=I;refine aV (wpAny_letGo (aW (aV (aV (wpAny_onRaise ?_)))));show aH _ _ (Builtin.SmallTypes.nextOf (.ref i2) >>=_) _ _ _;have q2:P2 k2 O:=t.keep _ _ _ Y fun c o d e=>k.extBut _ _ (by rcases d with rfl|rfl;exact D.TOi2.symm;exact D.l2TO) (j.extBut _ _ (by rcases d with rfl|rfl;exact D.i12.symm;exact D.l2i1) (i.extBut _ _ (by rcases d with rfl|rfl;exact D.i2z;exact D.l2z) e))
 refine aV (t.item q2 hy fun g4 r2 l=>aW ?_);have P:IsPair g4 TO x b:=l.extBut _ _ D.TOi2 I;refine aV (dE P rfl (aV (wpAny_updateSeq_pair P fun f u m=>?_)));replace u:IsPair f TO x y:=u;refine aV (wpAny_letGo (aW (aW (aV (dE u rfl (aV (wpAny_newTuple ?_)))))));have sz:f.objs.size=s.heap.objs.size:=by rw[m.1,l.1,k.1,j.1,i.1]
 have R:IsZip f z TI TO .ellipsis :=m.extBut _ _ D.TOz.symm (l.extBut _ _ D.i2z.symm (k.extBut _ _ D.TOz.symm (j.extBut _ _ D.i1z.symm H)));have p:∀c o,c≠z->c≠TO->c≠i1->c≠i2->s.heap.get? c=some o->f.get? c=some o:=fun c o v B J K e=>
  m.extBut _ _ B (l.extBut _ _ K (k.extBut _ _ B (j.extBut _ _ J (i.extBut _ _ v e))))
 have s1:P1 (k1+1) f:=r.keep _ _ _ r1 fun c o d e=>m.extBut _ _ (by rcases d with rfl|rfl;exact D.TOi1.symm;exact D.l1TO) (l.extBut _ _ (by rcases d with rfl|rfl;exact D.i12;exact D.l1i2) (k.extBut _ _ (by rcases d with rfl|rfl;exact D.TOi1.symm;exact D.l1TO) e))
 have s2:P2 (k2+1) f:=t.keep _ _ _ r2 fun c o d e=>m.extBut _ _ (by rcases d with rfl|rfl;exact D.TOi2.symm;exact D.l2TO) e
 have q:z<f.objs.size:=aE R;show aH _ _ (Builtin.SmallTypes.ownedTupleHandOut (.ref z) (.ref f.objs.size) >>=_) _ _ _;refine aV ?_
 unfold Builtin.SmallTypes.ownedTupleHandOut;have z6:IsZip (f.push {cls:=.type "tuple",data:=.seq #[x,y]}) z TI TO .ellipsis :=aJ _ R;refine aV (eJ z6 (by simp) fun g7 L S=>?_);replace L:IsZip g7 z TI TO (rawInt f.objs.size):=L;refine eJ L (by simp) fun C G T=>?_
 replace G:IsZip C z TI TO (rawInt f.objs.size):=G;have up:∀c o,c≠z->f.get? c=some o->C.get? c=some o:=fun c o n e=>T.extBut _ _ n (S.extBut _ _ n (aJ _ e))
 have U:IsPair C f.objs.size x y:=T.extBut _ _ (dD q) (S.extBut _ _ (dD q) (aP _ rfl));rw[sz]at G U;refine aW ⟨_,rfl,aW ?_⟩;show Q (some (.ref f.objs.size)) _;rw[sz]
 exact hQ C G (up _ _ D.TOz u) (r.keep _ _ _ s1 fun c o d e=>up c o (by rcases d with rfl|rfl;exact D.i1z;exact D.l1z) e) (t.keep _ _ _ s2 fun c o d e=>up c o (by rcases d with rfl|rfl;exact D.i2z;exact D.l2z) e) U
  fun c o v B J K e=>up c o v (p c o v B J K e)
theorem zZu(H:A.handled=none)(u:Feed i1 l1 P1 f1)(I:Feed i2 l2 P2 f2)(D:ZipApart z TI TO i1 i2 l1 l2)(k:IsZip s.heap z TI TO .none)(R:IsPair s.heap TI (.ref i1) (.ref i2))(S:IsPair s.heap TO a b)(U:P1 m s.heap)(V:P2 n s.heap)(ends:f1 m=none\/f2 n=none)(W:∀g,(∀c o,c≠z->c≠TO->c≠i1->c≠i2->s.heap.get? c=some o->g.get? c=some o)->Q none {s with heap:=g}):aH (model prog w) A (pyNext (.ref z)) Q E s:=by
 have J:s.TypeIs (.ref z) "zip":=⟨_,k,rfl⟩
 have h:∀(g:Heap) (e:aX),(∀c o,c≠z->c≠TO->c≠i1->c≠i2->s.heap.get? c=some o->g.get? c=some o)->(∃o,g.get? e=some o/\o.cls=.type "StopIteration")->
   aH (model prog w) A (do let b ←isInstance (.ref e) (.type "StopIteration");if b=true then pure none else throw (.ref e)) Q E {s with heap:=g}:=fun g e m n=>by
  obtain⟨o,X,i⟩:=n;refine aV (wpAny_isInstance (T:="StopIteration") (b:=true) ⟨o,X,i⟩ isSubtype_stop ?_);exact aW (W g m)
 unfold pyNext;refine aV (wpAny_attempt (dY (name:=Str.ofString "__next__") J PySem.F.slot_zip_next (cZ PySem.F.slot_zip_next J PySem.F.entry_zip_next ?_ (PySem.F.args_zip_next_1 _))));show aH _ _ (field (.ref z) 2 >>=_) _ _ _;refine aV (dO k rfl (x:=.bool false) rfl ?_);show aH _ _ (field (.ref z) 3 >>=_) _ _ _;refine aV (dO k rfl (x:=.ref TI) rfl (aV (dE R rfl ?_)));show aH _ _ (Builtin.SmallTypes.ownedTupleIsFree (.ref z) >>=_) _ _ _;refine aV ?_
 unfold Builtin.SmallTypes.ownedTupleIsFree;refine aV (dO k rfl (x:=.none) rfl (aW ?_));simp only[if_true];refine aV (fV (aV (dO k rfl (x:=.ref TO) rfl ?_)));refine aV (eJ k (by simp) fun g1 t p=>?_);replace t:IsZip g1 z TI TO .ellipsis :=t;refine aV ?_
 simp only[List.zipIdx_cons,List.zipIdx_nil,List.forIn_cons,List.forIn_nil];refine aV (aV (wpAny_onRaise ?_));show aH _ _ (Builtin.SmallTypes.nextOf (.ref i1) >>=_) _ _ _;have K:P1 m g1:=u.keep _ _ _ U fun c o i e=>p.extBut _ _ (by rcases i with rfl|rfl;exact D.i1z;exact D.l1z) e
 cases hx:f1 m with
 | none=>
   refine aV (u.stop H K hx fun g2 e j v=>?_);obtain⟨y,d,f⟩:=v;have L:IsZip g2 z TI TO .ellipsis :=j _ _ D.i1z.symm t;have B:e≠z:=fun q=>by subst q;rw[L]at d;cases d;simp at f
   exact eJ L (by simp) fun C _ l=>h C e (fun c o r _ G _ q=>l.extBut _ _ r (j _ _ G (p.extBut _ _ r q))) ⟨y,l.extBut _ _ B d,f⟩
 | some x=>
   have Y:f2 n=none:=by
    rcases ends with q|q
    ·rw[hx]at q;cases q
    ·exact q
   refine aV (u.item K hx fun g2 r1 j=>aW ?_);have M:IsPair g2 TO a b:=j.extBut _ _ D.TOi1 (p.extBut _ _ D.TOz S);refine aV (dE M rfl (aV (wpAny_updateSeq_pair M fun C O3 l=>?_)));refine aV (wpAny_letGo (aW (aV (aV (wpAny_onRaise ?_)))));show aH _ _ (Builtin.SmallTypes.nextOf (.ref i2) >>=_) _ _ _;have Z:P2 n C:=I.keep _ _ _ V fun c o i e=>l.extBut _ _ (by rcases i with rfl|rfl;exact D.TOi2.symm;exact D.l2TO) (j.extBut _ _ (by rcases i with rfl|rfl;exact D.i12.symm;exact D.l2i1) (p.extBut _ _ (by rcases i with rfl|rfl;exact D.i2z;exact D.l2z) e))
   refine aV (I.stop H Z Y fun g4 e N v=>?_);obtain⟨y,d,f⟩:=v;have O:IsZip g4 z TI TO .ellipsis :=N _ _ D.i2z.symm (l.extBut _ _ D.TOz.symm (j.extBut _ _ D.i1z.symm t));have B:e≠z:=fun q=>by subst q;rw[O]at d;cases d;simp at f
   exact eJ O (by simp) fun g5 _ P=>h g5 e (fun c o r n2 G n4 q=>P.extBut _ _ r (N _ _ n4 (l.extBut _ _ n2 (j.extBut _ _ G (p.extBut _ _ r q))))) ⟨y,P.extBut _ _ B d,f⟩
end
noncomputable def BtA(a:aX)(H H' :Hp):Prop:=∀b o,b≠a->H b=some o->H' b=some o
noncomputable def NT(H:Hp)(a:aX):Prop:=∀o,H a=some o->(∀b,o≠ .tup b)/\∀q b,o≠ .frz q (.tup b)
section
variable{K:aQ}{H H' H2:Hp}{a b:aX}{xs:List V}
theorem vX5{r:aX}{vs:List V}(b:NT H a)(e:BtA a H H')(h:SqT K H r vs):SqT K H' r vs:=by
 rcases h with(h|⟨o,h⟩)|h
 ·exact .inl (.inl (e _ _ (fun z=>by subst z;exact(b _ h).1 _ rfl) h))
 ·exact .inl (.inr ⟨o,e _ _ (fun z=>by subst z;exact(b _ h).2 _ _ rfl) h⟩)
 ·exact .inr h
end
end L2
namespace L2
open PySem PySem.Spec PySem.W PyProof.Rows
variable{Q:Option Value->aY->Prop}
noncomputable def EsAt(h:Heap)(d:aX)(es:Array DictEntry)(ep:Nat):Prop:=∃o,h.get? d=some o/\o.ExactDict/\o.data=.dict es ep
theorem EsAt.on{h h' :Heap}{d:aX}{es:Array DictEntry}{ep:Nat}(x:EsAt h d es ep)(k:∀o,h.get? d=some o->h'.get? d=some o):EsAt h' d es ep:=let ⟨o,e,r⟩:=x;⟨o,k o e,r⟩
section
variable{prog:aA}{w:bW}{A:cQ}{E:Value->aY->Prop}{s:aY}{d it:aX}{es:Array DictEntry}{ep i:Nat}
theorem zY8{Q:Value->aY->Prop}(a:(d == eZ)=false)(m:EsAt s.heap d es ep)(q:Q (.ref s.heap.objs.size) {s with heap:=s.heap.push {cls:=.type "dict_keyiterator",data:=.fields #[.ref d,.int 0 0,.int es.size 0,.int ep 0]}}):aH (model prog w) A (pyIter (.ref d)) Q E s:=by
 obtain⟨o,b,f,e⟩:=m;have c:s.TypeIs (.ref d) "dict":=⟨o,b,f.1⟩
 refine wpAny_pyIter_slot c F.slot_dict_iter (cZ F.slot_dict_iter c F.entry_dict_iter ?_ (F.args_dict_iter_1 _));refine aV (aV (wpAny_notOrdered_dict c (aW ?_)));show aH _ _ (Builtin.Dict.showsAll d >>=_) _ _ s;unfold Builtin.Dict.showsAll;rw[if_neg (by rw[a];exact aO)];refine aV (aW (aV (wpAny_dictEntries b e (aV (wpAny_dictEpoch b e (aV (bT (aW ?_))))))));exact⟨_,rfl,"dict_keyiterator",_,⟨_,aP _ rfl,rfl⟩,dG.lookup,by simpa[rawInt] using q⟩
theorem zY7(a:s.heap.IsKeyIter it d i es.size ep)(m:EsAt s.heap d es ep)(g:i<es.size)(q:∀h',h'.IsKeyIter it d (i+1) es.size ep->eX it s.heap h' ->Q (some es[i].key) {s with heap:=h' }):aH (model prog w) A (pyNext (.ref it)) Q E s:=by
 obtain⟨o,c,h,b⟩:=id a;obtain⟨k,e,l,f⟩:=m;have own:¬(Builtin.Dict_items.ownsTuple "dict_keyiterator"=true):=by decide
 refine aV (wpAny_attempt (dY (name:=Str.ofString "__next__") a.typeIs dG (cZ dG a.typeIs F.entry_dict_keyiterator_next ?_ (F.args_dict_keyiterator_next_1 _))));refine aV (aW (aV (aV (aV (eG a.typeIs (aW (aV (wpAny_fieldsOf c b ?_))))))));show aH _ _ (if(Value.ref d == Value.none)=true then _ else _) _ _ s;refine aV (aW (aV (wpAny_dictEntries e f ?_)));rw[if_neg (by simp)];refine aV (aW (aV (wpAny_dictEpoch e f ?_)));rw[if_neg (by simp)];refine aW ?_
 have j:¬((i:Int)<0):=by omega
 simp only[bN,cI g];refine aV (aV (eG a.typeIs (aW (aV (wpAny_isOneOf_keyiter a.typeIs ?_)))));show aH _ _ (setField (.ref it) 1 (rawInt ((i:Int)+1)) >>=_) _ _ s;refine aV (wpAny_setField c b (by simp) ?_);have next:(s.heap.update it (Obj.mapFields (·.setIfInBounds 1 (rawInt ((i:Int)+1))))).IsKeyIter it d (i+1) es.size ep:=by
  refine⟨_,eD _ c (Obj.isFreed_of_fields (Obj.data_mapFields b _)),(Obj.cls_mapFields ..).trans h,?_⟩;rw[Obj.data_mapFields b];simp[rawInt]
 refine aV (dP (aV (wpAny_isOneOf_keyiter (s:={s with heap:=s.heap.update it (Obj.mapFields (·.setIfInBounds 1 (rawInt ((i:Int)+1))))}) next.typeIs ?_)));exact aW (aW ⟨_,rfl,aW (q _ next (eQ ..))⟩)
theorem jZr(j:A.handled=none)(c:s.heap.IsKeyIter it d i es.size ep)(m:EsAt s.heap d es ep)(k:es.size<=i)(q:∀h',Heap.ExtBut it s.heap h' ->Q none {s with heap:=h' }):aH (model prog w) A (pyNext (.ref it)) Q E s:=by
 obtain⟨o,e,n,f⟩:=id c;obtain⟨p,g,r,h⟩:=m;have own:¬(Builtin.Dict_items.ownsTuple "dict_keyiterator"=true):=by decide
 refine aV (wpAny_attempt (dY (name:=Str.ofString "__next__") c.typeIs dG (cZ dG c.typeIs F.entry_dict_keyiterator_next ?_ (F.args_dict_keyiterator_next_1 _))));refine aV (aW (aV (aV (aV (eG c.typeIs (aW (aV (wpAny_fieldsOf e f ?_))))))));show aH _ _ (if(Value.ref d == Value.none)=true then _ else _) _ _ s;refine aV (aW (aV (wpAny_dictEntries g h ?_)));rw[if_neg (by simp)];refine aV (aW (aV (wpAny_dictEpoch g h ?_)));rw[if_neg (by simp)];refine aW ?_
 have l:¬((i:Int)<0):=by omega
 simp only[bN,Array.getElem?_eq_none k];refine aV (aV (eG c.typeIs (aW ?_)));show aH _ _ (setField (.ref it) 0 .none >>=_) _ _ s;refine aV (wpAny_setField e f (by simp) ?_);refine aV ?_
 refine aV (bT (aV (m:=firstArgMember _ _) (fJ (a:=Value.none) (by first|rfl|(simp only[firstArgMember];rfl)) (bT ?_ (by size_fits)))) (by size_fits));refine aV (wpAny_handled ?_);rw[show A.in1.handled=none from j];refine aV (aW (wpAny_throw ?_));refine aV (wpAny_isInstance (T:="StopIteration") (b:=true) ⟨_,aP _ rfl,rfl⟩ isSubtype_stop ?_);exact aW (q _ (((eQ ..).extBut.push _).push _))
theorem zWe(l:A.handled=none)(I d:aX)(c:d≠I)(es:Array DictEntry)(ep:Nat):
  Walks prog w A I [I,d] [I] es.size (fun i v=>∃e,es[i]?=some e/\v=e.key) (fun i h=>h.IsKeyIter I d i es.size ep/\EsAt h d es ep) where
 sub:=fun b hb=>by simp at hb;simp[hb]
 frame:=fun _ _ _ st j=>⟨st.1.at fun o e=>j I (by simp) o e,st.2.on fun o e=>j d (by simp) o e⟩
 item:=fun i s Q E k st a=>by
  refine zY7 st.1 st.2 k fun f m hs=>a _ f s.toks ⟨es[i],by simp[k],rfl⟩ ⟨m,st.2.on fun o e=>hs.extBut d o c e⟩ fun b o hb e=>hs.extBut b o (fun h=>hb (by simp[h])) e
 done:=fun s Q E st a=>jZr l st.1 st.2 (aC _) fun f g =>a f s.toks fun b o hb e=>g b o (fun h=>hb (by simp[h])) e
 self:=fun _ _ _ _ st a=>wpAny_pyIter_keyiter st.1 a
theorem jZq(a:(d == eZ)=false):KdlSrc prog w "dict" d d es.size (fun i v=>∃e,es[i]?=some e/\v=e.key) (fun h=>EsAt h d es ep) where
 type:=fun _ m=>let ⟨o,e1,e2,_⟩:=m;⟨o,e1,e2.1⟩
 there:=fun _ m=>let ⟨o,e1,_⟩:=m;⟨aE e1,aE e1⟩
 keep:=fun _ _ m c=>m.on fun o e=>c d (.inl rfl) o e
 notList:=by decide
 notTuple:=by decide
 hint:=fun _ _ _ _ m b=>kdl_hint_dict (let ⟨o,e1,e2,_⟩:=m;⟨o,e1,e2.1⟩) b
 iter:=fun _ _ f m=>⟨_,_,(fun _ _ b=>zY8 a m b),zWe f _ d (let ⟨o,e1,_⟩:=m;bQ (aE e1)) es ep,⟨⟨_,aP _ rfl,rfl,rfl⟩,m.on fun o e=>aJ _ e⟩⟩
end
noncomputable def qQ4(ns:List Int):List Int:=firstMet (fun i=>ns.getD i 0) ns.length
theorem vW1(ns:List Int):(List.range ns.length).map (fun i=>ns.getD i 0)=ns:=by
 refine List.ext_getElem (by simp) fun i b a=>?_
 simp[aD a]
theorem qXj(ns:List Int)(k:Int):k∈qQ4 ns↔k∈ns:=by
 have h:=firstMet_any (fun i=>ns.getD i 0) ns.length k;rw[vW1]at h;have e:∀l:List Int,l.any (· == k)=true↔k∈l:=fun l=>by
  rw[List.any_eq_true];exact⟨fun⟨x,a,z⟩=>(by simpa using z:x=k)▸a,fun z=>⟨k,z,by simp⟩⟩
 rw[←e,←e];unfold qQ4;rw[h]
theorem qZ6(ns:List Int):(qQ4 ns).Nodup :=by
 unfold qQ4 firstMet;have:∀(l c:List Int),c.Nodup->(l.foldl step_dedup c).Nodup :=fun l=>by
  induction l with
  |nil=>intro c h;exact h
  | cons x l ih=>
    intro c h;refine ih _ ?_
    unfold step_dedup;split
    ·exact h
    ·rename_i d;rw[List.nodup_append];refine⟨h,List.pairwise_singleton _ _,fun a ha b hb z=>?_⟩;cases bV.mp hb;subst z;exact d (List.any_eq_true.mpr ⟨a,ha,by simp⟩)
 exact this _ _ List.nodup_nil
end L2
namespace L2
open PySem PySem.Spec PyProof.Rows
variable{P:aA}{w:bW}{u:Value}{y:V}{H H':Hp}{xs:List (List Key×aX×Value)}{a:aX}{Q:Value->aY->Prop}{h':Heap}{X:Cx}{pins:List (aX×Obj)}{σ:St}
noncomputable def Its(lo st:Int)(n:Nat):It:=⟨fun i _=>i<n,fun i H x a =>a =H/\x=.int (lo+(i:Nat) * st),fun i _=>n<=i⟩
theorem qX0{K:aQ}{x:Expr}(it:aX)(lo st:Int)(n:Nat):Turn P w K x (Its lo st n) [it] it (fun i h=>IsRangeIter h it (lo+(i:Nat) * st) ((n:Int) - (i:Nat)) st) where
 mem:=by simp
 obj:=fun i h st b hb=>by
  grind
 keep:=fun i h d st k=>k it (by simp) _ st
 item:=by
  intro X p q r f i a s σ H E I hf st1 hg;subst p q r;obtain⟨g,f1,y,j,l,m⟩:=hf it (by simp);have W:=Walks.range (prog:=X.prog) (w:=X.w) (I.ok.hd f) it lo st n;refine W.item i s _ _ hg st1 fun v d u z c A=>?_
  obtain⟨t,rfl⟩:=z;have B:Inv X a σ H {s with heap:=d,toks:=u}:=I.turned (fun b o hb e=>A b o (by simpa using hb) e) g f1 j l m;exact⟨_,rfl,vZ6 (s:={s with heap:=d,toks:=u}) (n:="range_iterator") c rfl rfl (by decide) ⟨.int (lo+(i:Nat) * st),H,B,⟨t,rfl⟩,⟨rfl,rfl⟩,c,fun b hb=>(hf b hb).1⟩⟩
 done:=by
  intro X p q r f i a s σ H E I hf st1 hg;obtain⟨g,f1,y,j,l,m⟩:=hf it (by simp);exact wpAny_pyNext_range_end (I.ok.hd f) st1 (by have:n<=i:=hg;omega) fun d C=>⟨rfl,I.turned (t' :=s.toks) (fun b o hb e=>C b o hb e) g f1 j l m⟩
 self:=fun _ _ _ _ _ st h=>wpAny_pyIter_rangeiter st h
section
variable{κ:Type}[DecidableEq κ]
noncomputable def valV(kvs:List (κ×V))(k:κ):Option V:=(kvs.find? fun a=>decide (a.1=k)).map (·.2)
noncomputable def putK(kvs:List (κ×V))(k:κ)(v:V):List (κ×V):=
 if(kvs.any fun a=>decide (a.1=k))=true then kvs.map (fun a=>if a.1=k then(a.1,v) else a) else kvs ++ [(k,v)]
theorem qWv{p:κ×V}{r:List (κ×V)}{k:κ}(e:p.1=k):valV (p::r) k=some p.2:=by simp[valV,List.find?_cons,e]
theorem qWw{p:κ×V}{r:List (κ×V)}{k:κ}(e:¬p.1=k):valV (p::r) k=valV r k:=by simp[valV,List.find?_cons,e]
theorem vZ8(k:κ):∀kvs:List (κ×V),(kvs.any fun a=>decide (a.1=k))=(valV kvs k).isSome
 |[]=>rfl
 | p::r=>by
   rw[eY];by_cases e:p.1=k
   ·simp only[qWv e,decide_eq_true e,Bool.true_or,Option.isSome_some]
   ·rw[qWw e,decide_eq_false e,Bool.false_or];exact vZ8 k r
theorem qQq(kvs:List (κ×V))(k:κ)(v:V):(putK kvs k v).length <=kvs.length+1:=by
 unfold putK;grind
theorem RelO.isSome_eq{o:Option V}{u:Option Value}(r:RelO o u):o.isSome=u.isSome:=by
 cases o with
 | none=>cases u with
   |none=>rfl
   |some _=>exact(show False from r).elim
 | some _=>cases u with
   |none=>exact(show False from r).elim
   |some _=>rfl
theorem RelO.getD{o:Option V}{u:Option Value}{d:V}{d' :Value}(r:RelO o u)(a:RelV d d'):RelV (o.getD d) (u.getD d'):=by
 cases o with
 | none=>cases u with
   |none=>exact a
   |some _=>exact(show False from r).elim
 | some _=>cases u with
   |none=>exact(show False from r).elim
   |some _=>exact r
theorem KV.val{kvs:List (κ×V)}{vs:List (κ×Value)}(r:KV kvs vs)(k:κ):RelO (valV kvs k) (valueAt vs k):=by
 unfold KV at r;induction r with
 |nil=>exact True.intro
 | @cons p q ps qs h t ih=>
   obtain⟨c,d⟩:=h;by_cases e:p.1=k
   ·have a :q.1=k:=c.symm.trans e;have b:valueAt (q::qs) k=some q.2:=by simp[valueAt,List.find?_cons,a]
    rw[qWv e,b];exact d
   ·have a :¬q.1=k:=fun z=>e (c.trans z)
    have b:valueAt (q::qs) k=valueAt qs k:=by simp[valueAt,List.find?_cons,a]
    rw[qWw e,b];exact ih
theorem KV.any{kvs:List (κ×V)}{vs:List (κ×Value)}(r:KV kvs vs)(k:κ):(kvs.any fun a=>decide (a.1=k))=vs.any fun a=>decide (a.1=k):=by
 unfold KV at r;induction r with
 |nil=>rfl
 |cons h t ih=>rw[eY,eY,ih,h.1]
theorem KV.repl{kvs:List (κ×V)}{vs:List (κ×Value)}(r:KV kvs vs)(k:κ)(b:RelV y u):
  KV (kvs.map fun a=>if a.1=k then(a.1,y) else a) (vs.map fun a=>if a.1=k then(a.1,u) else a):=by
 induction r with
 |nil=>exact .nil
 | @cons p q ps qs h t ih=>
   rw[aL,aL];refine .cons ?_ ih;grind
theorem KV.put{kvs:List (κ×V)}{vs:List (κ×Value)}(r:KV kvs vs)(k:κ)(a:RelV y u):KV (putK kvs k y) (stored vs k u):=by
 unfold putK stored;rw[r.any k];by_cases e:(vs.any fun b=>decide (b.1=k))=true
 ·rw[if_pos e,if_pos e];exact r.repl k a
 ·rw[if_neg e,if_neg e];exact Paired.snoc r ⟨rfl,a⟩
theorem KV.length{kvs:List (κ×V)}{vs:List (κ×Value)}(r:KV kvs vs):kvs.length=vs.length:=Paired.length r
end
theorem qYv{k:Key}(r:RelV (kV k) u):(zH P w).is k u=true:=by
 cases k with
 |inl i=>obtain⟨t,e⟩:=(show∃t,u=Value.int i t from r);subst e;exact vJ4 P w i t
 |inr x=>obtain⟨t,e⟩:=(show∃t,u=Value.str x t from r);subst e;exact vJ3 P w x t
theorem vQ6:∀{ks:List Key} {us:List Value},Vals (ks.map kV) us->ItemsAre (zH P w) ks us
 |[],_,r=>by rw[List.map_nil]at r;cases r;exact .nil
 | k::ks,_,r=>by
   cases r with
   |cons h t=>exact .cons (qYv h) (vQ6 t)
noncomputable abbrev KT(H:Hp):List (List Key×V)->List (List Key×aX×Value)->Prop:=Paired fun p q=>p.1=q.1/\H q.2.1=some (.tup (p.1.map kV))/\RelV p.2 q.2.2
theorem KT.val{kvs:List (List Key×V)}(r:KT H kvs xs)(k:List Key):RelO (valV kvs k) ((atKey xs k).map (·.2)):=by
 induction r with
 |nil=>exact True.intro
 | @cons p q ps qs h t ih=>
   obtain⟨c,_,d⟩:=h;by_cases e:p.1=k
   ·have a :q.1=k:=c.symm.trans e;have b:atKey (q::qs) k=some q.2:=by simp[atKey,a]
    rw[qWv e,b];exact d
   ·have a :¬q.1=k:=fun z=>e (c.trans z)
    have b:atKey (q::qs) k=atKey qs k:=by simp[atKey,a]
    rw[qWw e,b];exact ih
theorem KT.repl{kvs:List (List Key×V)}(r:KT H kvs xs)(k:List Key)(b:RelV y u):
  KT H (kvs.map fun a=>if a.1=k then(a.1,y) else a) (xs.map (putAt k u)):=by
 induction r with
 |nil=>exact .nil
 | @cons p q ps qs h t ih=>
   rw[aL,aL];refine .cons ?_ ih;obtain⟨c,d,e⟩:=h;unfold putAt;grind
theorem KT.put{kvs:List (List Key×V)}(r:KT H kvs xs)(k:List Key){b:aX}(hb:H b=some (.tup (k.map kV)))(a:RelV y u):
  KT H (putK kvs k y) (storedH xs k b u):=by
 have e:(kvs.any fun c=>decide (c.1=k))=(atKey xs k).isSome :=by
  rw[vZ8,(r.val k).isSome_eq,Option.isSome_map]
 unfold putK storedH;rw[e];by_cases q:(atKey xs k).isSome =true
 ·rw[if_pos q,if_pos q];exact r.repl k a
 ·rw[if_neg q,if_neg q];exact Paired.snoc r ⟨rfl,hb,a⟩
theorem KT.keeps{kvs:List (List Key×V)}(r:KT H kvs xs)(a:∀b ys,H b=some (.tup ys)->H' b=some (.tup ys)):KT H' kvs xs:=
 Paired.mapP r fun _ _ z=>⟨z.1,a _ _ z.2.1,z.2.2⟩
section
variable{P:aA}{w:bW}{H:Hp}{h:Heap}{a:aX}
theorem zKr{u:HO}(ok:HOk P w H h)(e:Rd H a u):zW P w H h a u:=e.ok ok
theorem qWk{kvs:List (Key×V)}(ok:HOk P w H h)(e:Rd H a (.dK kvs)):kvs.length<=aS/\(a == eZ)=false/\∃vs,KV kvs vs/\h.DictOf (zH P w) a vs:=
 show zW P w H h a (.dK kvs) from zKr ok e
theorem jQe{kvs:List (Key×V)}(ok:HOk P w H h)(e:H a=some (.dK kvs)):kvs.length<=aS/\(a == eZ)=false/\∃vs,KV kvs vs/\h.DictOf (zH P w) a vs:=qWk ok (.inl e)
theorem qXa{ks:List Key}(ok:HOk P w H h)(e:H a=some (.tup (ks.map kV))):(tupleKind (zH P w)).is h ks a:=by
 obtain⟨_,b,r,o,c,d,n,f⟩:=(show zW P w H h a (.tup (ks.map kV)) from ok a _ e)
 exact⟨o,b.toArray,n,c,d,f,by simpa using vQ6 r⟩
theorem qYy{kvs:List (List Key×V)}(ok:HOk P w H h)(e:Rd H a (.dT kvs)):kvs.length<=aS/\(a == eZ)=false/\
  ∃xs,KT H kvs xs/\h.DictOfH (tupleKind (zH P w)) a xs:=by
 obtain⟨z,y,xs,r,o,b,c,d,f,g,i,j⟩:=(show zW P w H h a (.dT kvs) from zKr ok e)
 refine⟨z,y,xs,r,o,b,c,d,f,g,i,fun x hx=>?_,j⟩;have all:∀{l:List (List Key×V)} {m:List (List Key×aX×Value)},KT H l m->∀x∈m,(tupleKind (zH P w)).is h x.1 x.2.1:=by
  intro l m q;induction q with
  |nil=>intro x hx;exact nomatch hx
  | @cons p q ps qs hq t ih=>
    intro x hx;rcases aG.mp hx with e|hx
    ·subst e;exact qXa ok (by rw[←hq.1];exact hq.2.1)
    ·exact ih x hx
 exact all r x hx
theorem jWd{kvs:List (List Key×V)}(ok:HOk P w H h)(e:H a=some (.dT kvs)):kvs.length<=aS/\(a == eZ)=false/\
  ∃xs,KT H kvs xs/\h.DictOfH (tupleKind (zH P w)) a xs:=qYy ok (.inl e)
end
noncomputable def DGet(H:Hp)(a:aX)(y:V)(r:Option V):Prop:=
 (∃c k,Rd H a (.dK c)/\y=kV k/\r=valV c k)\/∃c k b,Rd H a (.dT c)/\y=.ref b/\H b=some (.tup (k.map kV))/\r=valV c k
noncomputable def DPut(H:Hp)(a:aX)(y v:V)(H' :Hp):Prop:=
 (∃c k,H a=some (.dK c)/\y=kV k/\c.length<aS/\H' =upd H a (.dK (putK c k v)))\/
 ∃c k b,H a=some (.dT c)/\y=.ref b/\H b=some (.tup (k.map kV))/\c.length<aS/\H' =upd H a (.dT (putK c k v))
theorem DGet.k{kvs:List (Key×V)}{k:Key}(e:H a=some (.dK kvs)):DGet H a (kV k) (valV kvs k):=.inl ⟨kvs,k,.inl e,rfl,rfl⟩
theorem DPut.k{kvs:List (Key×V)}{k:Key}{v:V}(e:H a=some (.dK kvs))(hl:kvs.length<aS):DPut H a (kV k) v (upd H a (.dK (putK kvs k v))):=.inl ⟨kvs,k,e,rfl,hl,rfl⟩
section
variable{X:Cx}{pins:List (aX×Obj)}{σ:St}{H:Hp}{s:aY}{a:aX}{y v:V}{u r:Value}{o:Option V}{A:cQ}{E:Value->aY->Prop}
theorem Inv.big(I:Inv X pins σ H s):eZ<s.heap.objs.size:=by
 have h:cH<s.heap.objs.size:=(I.mod.glob.keeps I.bk).lt;exact Nat.lt_trans (by decide) h
theorem zQt(t:A.units+1<eA)(I:Inv X pins σ H s)(g:DGet H a y (some v))(r:RelV y u)(h:∀f s',Inv X pins σ H s' ->RelV v f ->Q f s'):
  aH (model X.prog X.w) A (getItem (.ref a) u) Q E s:=by
 rcases g with⟨i,k,e,j,l⟩|⟨i,k,b,e,j,x,l⟩
 ·subst j;obtain⟨z,B,C,c,m⟩:=qWk I.hok e;obtain⟨f,n,d⟩:=RelO.some_of (v:=v) (o:=valueAt C k) (by rw[l];exact c.val k);exact wpAny_getItem_of (qYv r) m.mapOf n (h f _ (I.tok _) d)
 ·subst j;cases(show u=Value.ref b from r);obtain⟨z,B,D,c,m⟩:=qYy I.hok e;obtain⟨f,n,d⟩:=RelO.some_of (v:=v) (o:=(atKey D k).map (·.2)) (by rw[l];exact c.val k);obtain⟨p,F,q⟩:=bX.mp n;refine wpAny_getItem_heap (tupleKind_room_in1 t) (qXa I.hok x) m F ?_
  rw[q];exact h f _ (I.tok _) d
theorem d_in(n:A.units+1<eA)(I:Inv X pins σ H s)(g:DGet H a y o)(m:RelV y u)(h:∀s',Inv X pins σ H s' ->Q (.bool o.isSome) s'):
  aH (model X.prog X.w) A (dX .In u (.ref a)) Q E s:=by
 rcases g with⟨d,k,e,f,l⟩|⟨d,k,b,e,f,p,l⟩
 ·subst f;obtain⟨z,i,r,c,j⟩:=qWk I.hok e;refine wpAny_in_of (qYv m) i j.mapOf ?_
  rw[←(c.val k).isSome_eq,←l];exact h _ (I.tok _)
 ·subst f;cases(show u=Value.ref b from m);obtain⟨z,i,t,c,j⟩:=qYy I.hok e;refine wpAny_in_heap (tupleKind_room_in1 n) (qXa I.hok p) i j ?_
  have q:=(c.val k).isSome_eq;rw[Option.isSome_map]at q;rw[←q,←l];exact h _ (I.tok _)
theorem zKc(n:A.units+1<eA)(I:Inv X pins σ H s)(g:DGet H a y o)(m:RelV y u)(h:∀s',Inv X pins σ H s' ->Q (.bool (!o.isSome)) s'):
  aH (model X.prog X.w) A (dX .NotIn u (.ref a)) Q E s:=by
 rcases g with⟨d,k,e,f,l⟩|⟨d,k,b,e,f,p,l⟩
 ·subst f;obtain⟨z,i,r,c,j⟩:=qWk I.hok e;refine wpAny_notIn_of (qYv m) i j.mapOf ?_
  rw[←(c.val k).isSome_eq,←l];exact h _ (I.tok _)
 ·subst f;cases(show u=Value.ref b from m);obtain⟨z,i,t,c,j⟩:=qYy I.hok e;refine wpAny_notIn_heap (tupleKind_room_in1 n) (qXa I.hok p) i j ?_
  have q:=(c.val k).isSome_eq;rw[Option.isSome_map]at q;rw[←q,←l];exact h _ (I.tok _)
theorem vV9{t' :Nat}{c:HO}(I:Inv X pins σ H s)(d:Mut (H a))(hs:eX a s.heap h')(f:∃q,h'.get? a=some q)(new:zW X.prog X.w (upd H a c) h' a c):
  Inv X pins σ (upd H a c) {s with heap:=h',toks:=t' }:=
 I.write (x:=a) (e:=a) d (.inl rfl) (fun b q hb z=>(hs.2 b hb).trans z) f new
theorem zZp{kvs:List (Key×V)}{vs:List (Key×Value)}(z:kvs.length<=aS)(c:(a == eZ)=false)(b:KV kvs vs)(dd:h'.DictOf (zH P w) a vs):
  zW P w H' h' a (.dK kvs):=⟨z,c,vs,b,dd⟩
theorem zQr{Q:Unit->aY->Prop}(J:A.units+1<eA)(I:Inv X pins σ H s)(g:DPut H a y v H')(B:RelV y u)(C:RelV v r)(h:∀s',Inv X pins σ H' s' ->Q () s'):
  aH (model X.prog X.w) A (setItem (.ref a) u r) Q E s:=by
 rcases g with⟨d,k,e,m,l,n⟩|⟨d,k,b,e,m,D,l,n⟩
 ·subst m n;obtain⟨z,o,K,f,p⟩:=jQe I.hok e;have t:K.length<=aS:=by rw[←f.length];exact z
  have x:(putK d k v).length <=aS:=by have:=qQq d k v;omega
  refine wpAny_setItem_pairs (hsz:=t) (qYv B) p fun F i hs=>h _ ?_
  have L:∃q,F.get? a=some q:=let ⟨q,_,_,j,_⟩:=i;⟨q,j⟩;exact vV9 I (by rw[e];exact True.intro) hs L (zZp x o (f.put k C) i)
 ·subst m n;cases(show u=Value.ref b from B);obtain⟨z,o,M,f,p⟩:=jWd I.hok e;have t:M.length<=aS:=by rw[←Paired.length f];exact z
  have x:(putK d k v).length <=aS:=by have:=qQq d k v;omega
  refine wpAny_setItem_heap (hsz:=t) (tupleKind_room_in1 J) (qXa I.hok D) p fun F i hs=>h _ ?_
  obtain⟨q,N,O,j,P,R,S,_,T⟩:=i;refine vV9 I (by rw[e];exact True.intro) hs ⟨q,j⟩ ⟨x,o,_,(f.put k D C).keeps fun c U G=>?_,q,N,O,j,P,R,S,T⟩;rw[qT (jJx G e (fun z=>nomatch z))];exact G
end
section
variable{X:Cx}{pins:List (aX×Obj)}{σ:St}{H:Hp}{s:aY}{a:aX}{kvs:List (Key×V)}{k:Key}{u:Value}{A:cQ}{E:Value->aY->Prop}
theorem jWh(I:Inv X pins σ H s)(e:Rd H a (.dK kvs))(h:∀t s',Inv X pins σ H s' ->Q (.int kvs.length t) s'):aH (model X.prog X.w) A (call (.builtin "len") [.ref a]) Q E s:=by
 obtain⟨z,c,f,b,d⟩:=qWk I.hok e;refine call_len_dict c d (by rw[←b.length];rw[sizeLine_eq]at z;omega) ?_
 rw[←b.length];exact h _ _ (I.tok _)
end
theorem vJ8{s:aY}{o:Option V}(I:Inv X pins σ H s)(g:DGet H a y o):s.TypeIs (.ref a) "dict":=by
 rcases g with⟨c,k,e,_,_⟩|⟨c,k,b,e,_,_,_⟩
 ·obtain⟨_,_,f,_,d⟩:=qWk I.hok e;exact d.typeIs
 ·obtain⟨_,_,h,_,d⟩:=qYy I.hok e;exact d.typeIs
noncomputable def jZ8(c d e:TE):TS:=fun D σ H=>e σ H fun v f=>c σ f fun x g=>d σ g fun y h=>∃a b,x=.ref a/\DPut h a y v b/\D.nx σ b
section
variable{X:Cx}{o i e value:Expr}{pos pos' tpos:Pos}{td ty tv:TE}
theorem zXt(c:X.A.units+1<eA)(d:PE X o td)(e:PE X i ty)(f:PE X value tv)(hs:swapsWith value (some (.Subscript o i pos')) pos.line X.env=pure false):
  PS X (.Assign [.Subscript o i pos'] value pos) (jZ8 td ty tv):=by
 intro b s σ H D I h;refine wpAny_Assign_Subscript (thn (f b s σ H _ I h) fun r j ⟨v,k,l,m,n⟩=>thn (d b j σ k _ l n) fun u p ⟨x,q,t,w,z⟩=>thn (e b p σ q _ t z) fun K L ⟨y,M,B,C,a,E,F,g,G⟩=>?_) hs;subst F;obtain rfl:u=Value.ref a:=w;exact zQr c B g C m fun N J=>⟨σ,E,J,G⟩
end
theorem vJy(h:Heap)(hb:eZ<h.objs.size):zW P w H (h.push {cls:=.type "dict",data:=.dict #[]}) h.objs.size (.dK []):=
 ⟨cF _,beq_eq_false_iff_ne.mpr (Ne.symm (bQ hb)),[],.nil,Heap.DictOf.new h⟩
noncomputable def tDNewK:TE:=fun _ H Q=>∀p,H p=none->Q (.ref p) (upd H p (.dK []))
section
variable{X:Cx}{pos:Pos}
theorem zJi:PE X (.Dict [] [] pos) tDNewK:=fun b s σ H Q I h=>
 wpAny_Dict_empty ⟨.ref s.heap.objs.size,_,I.laid (a:=s.heap.objs.size) (o:=.dK []) (t' :=s.toks) (fun _ _ q=>aJ _ q) (aC _) (vJy s.heap I.big),rfl,h _ (I.hok.fresh (aC _))⟩
end
noncomputable def wY(kvs a:List (Key×V)):List (Key×V):=a.foldl (fun b c=>putK b c.1 c.2) kvs
theorem qJu:∀(more kvs:List (Key×V)),(wY kvs more).length <=kvs.length+more.length
 |[],kvs=>by show kvs.length<=kvs.length+0;omega
 | p::r,kvs=>by
   have a:=qJu r (putK kvs p.1 p.2);have b:=qQq kvs p.1 p.2;show(wY (putK kvs p.1 p.2) r).length <=_;rw[aU];omega
structure M1(X:Cx)(o:Expr)(m:Str)(apos:Pos)(e:Expr)(cpos:Pos):Prop where
 base:attributeBase o m X.env (eval o X.env)=eval o X.env
 few:((cK cpos (aK [e] X.env)).all (fun x=>!x.1) && (backToKw cpos (keywordEach [] X.env)).all (fun x=>x.1.isSome)
  && decide (([e]:List Expr).length+([]:List Keyword).length+(if([]:List Keyword).isEmpty then 0 else 1)<30))=true
 line:(apos.endLine == cpos.line)=true
 trees:cK cpos (aK [e] X.env)=[(false,eval e X.env)]
noncomputable def IsD(H:Hp)(a:aX):Prop:=(∃b,Rd H a (.dK b))\/∃b,Rd H a (.dT b)
theorem jZh{s:aY}(I:Inv X pins σ H s)(d:IsD H a):
  s.TypeIs (.ref a) "dict"/\(∀b,Value.ref a=.ref b->∃c,s.heap.get? b=some c/\c.dict=none)/\(a == eZ)=false:=by
 rcases d with⟨g,e⟩|⟨g,e⟩
 ·obtain⟨_,h,k,_,f⟩:=qWk I.hok e;refine⟨f.typeIs,fun b q=>?_,h⟩;cases q;obtain⟨c,_,_,i,j,_⟩:=f;exact⟨c,i,j.2.1⟩
 ·obtain⟨_,h,l,_,f⟩:=qYy I.hok e;refine⟨f.typeIs,fun b q=>?_,h⟩;cases q;obtain⟨c,_,_,i,j,_⟩:=f;exact⟨c,i,j.2.1⟩
section
variable{X:Cx}{pins:List (aX×Obj)}{σ:St}{H:Hp}{s:aY}{a:aX}{y d:V}{u r:Value}{o:Option V}{A:cQ}{E:Value->aY->Prop}
theorem jZv(n:A.units+1<eA)(I:Inv X pins σ H s)(g:DGet H a y o)(m:RelV y u)(h:∀w' s',Inv X pins σ H s' ->RelV (o.getD .non) w' ->Q w' s'):
  aH (model X.prog X.w) A (call (.builtin "dict.get") [.ref a,u]) Q E s:=by
 rcases g with⟨f,k,e,i,l⟩|⟨f,k,b,e,i,p,l⟩
 ·subst i;obtain⟨z,j,r,c,d⟩:=qWk I.hok e;refine call_meetsIn PySem.F.slot_dict_get d.typeIs PySem.F.entry_dict_get (PySem.F.args_dict_get_2 _ _) (meets_dict_get (zH X.prog X.w) a (qYv m) j) ⟨_,d.mapOf,h _ _ (I.tok _) ?_⟩;rw[l];exact(c.val k).getD rfl
 ·subst i;cases(show u=Value.ref b from m);obtain⟨z,j,q,c,d⟩:=qYy I.hok e;refine call_meetsIn PySem.F.slot_dict_get d.typeIs PySem.F.entry_dict_get (PySem.F.args_dict_get_2 _ _) (meetsH_dict_get (tupleKind (zH X.prog X.w)) a b j) ⟨tupleKind_room_in1 n,k,q,qXa I.hok p,d,h _ _ (I.tok _) ?_⟩;rw[l];exact(c.val k).getD rfl
end
noncomputable def jQn(d e:TE):TE:=fun σ H Q=>d σ H fun x b=>∃a,x=.ref a/\IsD b a/\e σ b fun y c=>∃o,DGet c a y o/\Q (o.getD .non) c
section
variable{X:Cx}{o e f:Expr}{apos cpos:Pos}{td ty tx:TE}
theorem zJj(i:X.A.units+1<eA)(j:PE X o td)(k:PE X e ty)(m:M1 X o "get" apos e cpos):PE X (.Call (.Attribute o "get" apos) [e] [] cpos) (jQn td ty):=by
 intro b s σ H Q I h;refine wpAny_Call_method m.base m.few m.line PySem.F.plainAttrs_dict PySem.F.slot_dict_get PySem.F.type_dict_get (thn (j b s σ H _ I h) fun u l ⟨x,n,f,p,a,q,d,r⟩=>?_);subst q;obtain rfl:u=Value.ref a:=p;obtain⟨t,v,_⟩:=jZh f d;refine⟨t,v,?_⟩;rw[m.trees];refine Calls.callWith_builtin rfl (Calls.evalArgs_plain (Calls.spliced_cons (thn (k b l σ n _ f r) fun E G ⟨y,w,z,B,J,g,C⟩=>Calls.spliced_nil ?_)));exact jZv i z g B fun K L D c =>⟨_,w,D,c,C⟩
end
theorem vQ9{i l:aX}(a:l≠i)(xs:Array Value):Feed i l (fun k h=>h.IsListIter i l k/\h.IsList l xs) (fun k=>xs[k]?) where
 obj:=fun k h p=>by
  obtain⟨⟨o,e,_,d⟩,_⟩:=p;exact⟨o,e,fun v z=>by rw[d]at z;cases z⟩
 keep:=fun k h g p q=>⟨p.1.at fun o e=>q i o (.inl rfl) e,by
  obtain⟨o,e,r⟩:=p.2;exact⟨o,q l o (.inr rfl) e,r⟩⟩
 item:=fun p b f=>wpAny_nextOf_list_item p.1 p.2 b fun g j c=>f g ⟨j,p.2.extBut c.extBut a⟩ c
 stop:=fun m p b n=>wpAny_nextOf_list_end m p.1 p.2 b n
end L2
namespace L2
open PySem PySem.Spec PySem.W PyProof.Rows
section
variable{X:Cx}
theorem jVx(c:X.A.units+1<eA):OpR X (dX .In) (fun x y H Q=>∃a o,y=.ref a/\DGet H a x o/\Q (.bl o.isSome) H):=by
 intro b s σ H x y u v Q I ru rv h;obtain⟨a,o,rfl,g,q⟩:=h;cases(show v=Value.ref a from rv);exact d_in c I g ru fun e d =>⟨.bl _,H,d,rfl,q⟩
theorem vK2(c:X.A.units+1<eA):OpR X (dX .NotIn) (fun x y H Q=>∃a o,y=.ref a/\DGet H a x o/\Q (.bl (!o.isSome)) H):=by
 intro b s σ H x y u v Q I ru rv h;obtain⟨a,o,rfl,g,q⟩:=h;cases(show v=Value.ref a from rv);exact zKc c I g ru fun e d =>⟨.bl _,H,d,rfl,q⟩
end
end L2
namespace L2
open PySem PySem.Spec PyProof.Rows
variable{P:aA}{w:bW}{K:aQ}{pos p:Pos}{e1:Expr}{ta:TA}
noncomputable def Ite(K:aQ)(a:aX):It:=
 ⟨fun i H=>∃b x,SqL K H a b/\b[i]?=some x,
  fun i H v c =>∃p,v=.ref p/\H p=none/\∀b x,SqL K H a b->b[i]?=some x->c =upd H p (.tup [.int (i:Int),x]),
  fun i H=>∃b,SqL K H a b/\b.length<=i⟩
theorem vKm{l:List Expr}{M:Nat}(a e it:aX)(m:e≠it):
  Turn P w K (.Tuple l M pos) (Ite K a) [e,it] e (fun i h=>(∃d,IsEnum h e it (i:Int) d)/\h.IsListIter it a i) where
 mem:=by simp
 obj:=fun i h st c b=>by
  obtain⟨⟨d,f⟩,⟨o2,N,c2,d2⟩⟩:=st;grind
 keep:=fun i h G st k=>by
  obtain⟨⟨d,f⟩,O⟩:=st;exact⟨⟨d,k e (by simp) _ f⟩,O.at fun o j =>k it (by simp) o j⟩
 item:=by
  intro X r t v b i n s σ H E I hf st hg;subst r t v;obtain⟨Q,x,q,J⟩:=hg;obtain⟨y,z,A,B⟩:=I.list q;obtain⟨u,R,S⟩:=z.get J;obtain⟨⟨d,f⟩,g⟩:=st;refine wpAny_pyNext_enum_item f g A.isList (x:=u) (by simpa using R) m fun G T U V a4 C=>?_
  refine⟨_,rfl,wpAny_letOwnedTupleGo_enum T fun D p sb=>?_⟩;have W:s.heap.objs.size≠e:=dD (aE f);have F:∀c o,c∉ [e,it]->s.heap.get? c=some o->D.get? c=some o:=fun c o b j =>by
   simp only[aG,List.not_mem_nil,or_false,not_or]at b;exact sb.extBut c o b.1 (C c o b.1 b.2 j)
  refine⟨.ref s.heap.objs.size,upd H s.heap.objs.size (.tup [.int (i:Int),x]),I.turnedLaid (t' :=s.toks+1) F hf (aC _) ⟨zVq,[.int (i:Int) s.toks,u],.cons ⟨_,rfl⟩ (.cons S .nil),⟨_,sb.extBut _ _ W V,rfl,_,rfl⟩⟩,rfl,
   ⟨_,rfl,I.hok.fresh (aC _),fun Y x' Z e3=>?_⟩,⟨⟨_,p⟩,U.extBut sb.extBut m.symm⟩,fun c b=>?_⟩
  ·rw [I.list_inj Z q,J] at e3;grind
  ·obtain⟨o,j,_⟩:∃o,s.heap.get? c=some o/\True:=by
    have hc' :c=e\/c=it:=by simpa using b
    obtain⟨o2,N,_⟩:=g;grind
   rw[qT (bQ (aE j))];exact(hf c b).1
 done:=by
  intro X r t v b i n s σ H E I hf st hg;subst r t v;obtain⟨Q,q,L⟩:=hg;obtain⟨y,z,A,B⟩:=I.list q;obtain⟨⟨d,f⟩,g⟩:=st;have l1:=z.length;refine wpAny_pyNext_enum_end (I.ok.hd b) f g A.isList (by simp;omega) fun G C=>⟨rfl,I.turnedAll (t' :=s.toks) (ch:=[e,it]) (fun c o b j =>?_) hf⟩
  simp only[aG,List.not_mem_nil,or_false,not_or]at b;exact C c o b.2 j
 self:=fun _ _ _ _ _ st h=>let ⟨_,f⟩:=st.1;wpAny_pyIter_enum f h
section
variable{X:Cx}{elts:List Expr}{kk:Nat}{tpos:Pos}
noncomputable def jJ7(K:aQ)(c:TA):TI:=fun σ H R=>c σ H fun d b=>∃a,d=[.ref a]/\(∃e,SqL K b a e)/\R (Ite K a) b
theorem zX1(l:Gl X "enumerate")(m:X.mg "enumerate"=none)(ha:PA X [e1] ta)(hs:aK [e1] X.env=[(false,eval e1 X.env)]:=by rfl)(b:aK [] X.env=[]:=by rfl):PI X (.Tuple elts kk tpos) (.Call (.Name "enumerate" p) [e1] [] pos) (jJ7 X.K ta):=by
 intro d s σ H R I h;refine Call_ (qQv I l m Boot.«enumerate» (bH (thn (ha pos d s σ H _ I h) fun B f ⟨C,n,i,o,t⟩=>?_) (by rw[hs,b]) (by rw[b];rfl)));obtain⟨a,e,⟨D,v⟩,q⟩:=t;subst e;obtain⟨u,rfl,r⟩:=yG o;cases(show u=Value.ref a from r);obtain⟨w,E,x,y⟩:=i.list v;refine call_enumerate_list x.isList fun F k j z A=>?_
 refine wpAny_pyIter_enum k ?_
 refine⟨f.heap.objs.size+1,[f.heap.objs.size+1,f.heap.objs.size],_,_,n,rfl,i.kept (t' :=f.toks) A,vKm a _ _ (Nat.succ_ne_self _),⟨⟨_,k⟩,j⟩,fun c G=>?_,q⟩;have g :f.heap.objs.size<=c:=by
  grind
 exact i.fpOk g (i.hok.fresh g)
end
noncomputable def Itv(K:aQ)(a:aX)(n:Nat):It:=
 ⟨fun i H=>∃b x,SqL K H a b/\b.length=n/\i<n/\b[n - 1 - i]?=some x,fun i H x c =>c =H/\∀b,SqL K H a b->b[n - 1 - i]?=some x,fun i H=>∃b,SqL K H a b/\b.length=n/\i=n⟩
theorem zZx{R:Expr}(a it:aX)(n:Nat)(j:a≠it):Turn P w K R (Itv K a n) [it] it (fun i h=>h.IsRevIter it a ((n:Int) - 1 - (i:Int))) where
 mem:=by simp
 obj:=fun i h st b hb=>by
  have e:b=it:=by simpa using hb
  subst e;obtain⟨o,e,c,d⟩:=st;exact⟨o,e,fun v z=>by rw[d]at z;cases z⟩
 keep:=fun i h l st k=>by
  obtain⟨o,e,c,d⟩:=st;exact⟨o,k it (by simp) o e,c,d⟩
 item:=by
  intro X B C D F i g s σ H E I hf st hg;subst B C D;obtain⟨S,x,t,T,O,Q⟩:=hg;obtain⟨f,y,p,U⟩:=I.list t;obtain⟨u,V,Y⟩:=y.get Q;have Z:=y.length;obtain⟨G,f1,f2,J,L,M⟩:=hf it (by simp);have W:=Walks.listRev (prog:=X.prog) (w:=X.w) (A:=X.A) (I.ok.hd F) it a j f.toArray;have m:f.toArray.size=n:=by rw[aN];omega
  refine W.item i s _ _ (by omega) ⟨by omega,by rw[m];exact st,p.isList⟩ fun v l q pv N keep=>?_
  have ev:v=u:=by
   rw[m]at pv;have h2:f.toArray[n - 1 - i]?=some u:=by simpa using V
   rw[h2]at pv;cases pv;rfl
  subst ev;have r:l.IsRevIter it a ((n:Int) - 1 - ((i+1:Nat):Int)):=by
   have:=N.2.1;rw[m]at this;exact this
  have I1:Inv X g σ H {s with heap:=l,toks:=q}:=I.turned (t' :=q) (fun b o hb e=>keep b o (by simpa using hb) e) G f1 J L M;obtain⟨o,e,c,d⟩:=id r;exact⟨v,rfl,vZ6 (s:={s with heap:=l,toks:=q}) e c d (by decide) ⟨x,H,I1,Y,⟨rfl,fun ys hy=>by rw[I.list_inj hy t];exact Q⟩,r,fun b hb=>(hf b hb).1⟩⟩
 done:=by
  intro X B C D F i g s σ H E I hf st hg;subst B C D;obtain⟨S,t,T,O⟩:=hg;obtain⟨f,y,p,U⟩:=I.list t;have Z:=y.length;obtain⟨G,f1,f2,J,L,M⟩:=hf it (by simp);have W:=Walks.listRev (prog:=X.prog) (w:=X.w) (A:=X.A) (I.ok.hd F) it a j f.toArray;have m:f.toArray.size=n:=by rw[aN];omega
  refine W.done s _ _ ⟨aC _,by rw[m];rw[←O]at st⊢;exact st,p.isList⟩ fun l q keep=>⟨rfl,I.turned (t' :=q) (fun b o hb e=>keep b o (by simpa using hb) e) G f1 J L M⟩
 self:=fun _ _ _ _ _ st h=>wpAny_pyIter_revIter st h
section
variable{X:Cx}{tg:Expr}
noncomputable def iRev(K:aQ)(d:TA):TI:=fun σ H R=>d σ H fun e b=>∃a c,e=[.ref a]/\SqL K b a c/\R (Itv K a c.length) b
theorem jVf(m:Gl X "reversed")(n:X.mg "reversed"=none)(ha:PA X [e1] ta)(hs:aK [e1] X.env=[(false,eval e1 X.env)]:=by rfl)(f:aK [] X.env=[]:=by rfl):PI X tg (.Call (.Name "reversed" p) [e1] [] pos) (iRev X.K ta):=by
 intro g s σ H R I h;refine Call_ (qQv I m n Boot.«reversed» (bH (thn (ha pos g s σ H _ I h) fun C c ⟨D,t,i,v,w⟩=>?_) (by rw[hs,f]) (by rw[f];rfl)));obtain⟨a,j,e,x,q⟩:=w;subst e;obtain⟨u,rfl,r⟩:=yG v;cases(show u=Value.ref a from r);obtain⟨d,y,z,A⟩:=i.list x;have k:c.heap.IsList a d.toArray:=z.isList;have len:=y.length;have B:a≠c.heap.objs.size:=let ⟨o,e,_⟩:=k;bQ (aE e);refine call_reversed_list k ?_
 have l:({c with heap:=c.heap.push (revObj a ((d.toArray.size:Int) - 1))}:aY).heap.IsRevIter c.heap.objs.size a ((j.length:Int) - 1 - ((0:Nat):Int)):=⟨_,aP _ rfl,rfl,by rw[show(j.length:Int) - 1 - ((0:Nat):Int)=(d.toArray.size:Int) - 1 by rw[aN];omega];rfl⟩
 refine wpAny_pyIter_revIter l ?_
 refine⟨c.heap.objs.size,[c.heap.objs.size],_,_,t,rfl,i.kept (t' :=c.toks) fun b o e=>aJ _ e,zZx a _ _ B,l,fun b hb=>?_,q⟩;have e:b=c.heap.objs.size:=by simpa using hb
 subst e;exact i.fpOk (aC _) (i.hok.fresh (aC _))
end
noncomputable def CXd(_:aA)(_:bW):CXT:=fun _ _ _ _ _ _=>False
theorem v7{X:Cx}{E:XK}:zN (CXd P w) X E:=fun _ _ _ _ _ _ _ h=>h.elim
theorem Fun.okD{i:Str->Option Value}{d:Heap}{x b:Str}{st:Stmt}{f:aX}{j:bJ}{N ps:List Str}{k:Nat}{sp:Sp}(F:Fun K x b st f j)(S:FnScope N ps (qP st))(len:∀vs H Q E,sp vs H Q E->vs.length=ps.length)(e:∀(c:Value) (A:cQ) (a:List Env) (s:aY) (H:Hp) (vs:List V) (Q:VK) (E:XK),Room k (A.deeper (envOfC b (qP st) s.heap.objs.size f c))->sp vs H Q E->
   ∃t,PSs (cxOf (CXd P w) P w K i d N b (qP st) f c A a s H E) (zL st) t/\t {nx:=fun _ H' =>Q .non H',rt:=Q} (qZa N vs) H):FnOk P w K i d (CXd P w) (k+1) f j ps sp:=by
 obtain⟨p,q,kV,l,r,an,c,u,m,rfl,n,g⟩:=F.ex;exact jWb n g S len fun A a s H vs Q E o h=>e c A a s H vs Q E o h
noncomputable def ExcD(p:aX)(a:Value)(b:Option aX):Heap->Prop:=fun h=>∃o,h.get? p=some o/\o.cls=a/\o.dict=b/\∃c,o.data=.fields c
end L2
namespace DX
open PySem L2 PyProof.Rows
variable{H H' F':Hp}{v:V}{vs us:List V}{i j C n:Nat}{Z B' W' Y' B W:Fp}{α β κ:Type}{c:Nat->aX}{π:List Nat}{env env' args:Ev}{σ σ' τ:L2.St}{y:Option HO}{io:Bool}{Q:VK}{E:XK}{X:Cx}{e tg:Expr}{t':TT}{w:bW}{ss:List SV}{N ps Nc:List Str}{g:SG}{body:SS}{it:SI}{pos:Pos}{m:Str}{P:aA}{mg:Str->Option Value}{base:Heap}{fd:bJ}{kd:Kd}{as:List Am}{a0:Am}{q:Nat×List Str×List O}{scope:Scope}{CX:CXT}
inductive Kd where
 |lst|tup|dct (ks:List Key)|dcT (ks:List (List Key))|obj (C:Nat) (fs:List Str)|exc (C:Nat) (fs:List Str)
inductive D where
 |non|int (i:Int)|str (s:Str)|bl (b:Bool)|fn (j:Nat)|nd (k:Kd) (ds:List D)
inductive O where
 |fz (d:D)|ow (k:Kd) (os:List O)
abbrev D.tup(ds:List D):D:=.nd .tup ds
noncomputable abbrev Fp:=aX->Nat
noncomputable def one(p:aX):Fp:=fun a=>if a=p then 1 else 0
theorem wQ{p:aX}:one p p=1:=if_pos rfl
theorem xU{p a:aX}(h:a≠p):one p a=0:=if_neg h
noncomputable def hide(T:Fp)(H:Hp):Hp:=fun a=>if T a=0 then H a else none
theorem vH{T:Fp}{a:aX}(h:T a=0):hide T H a=H a:=if_pos h
theorem qWr{T:Fp}{a:aX}(h:T a≠0):hide T H a=none:=if_neg h
theorem jR{T:Fp}{a:aX}{o:HO}(h:hide T H a=some o):T a=0/\H a=some o:=by
 by_cases z:T a=0
 ·rw[vH z]at h;exact⟨z,h⟩
 ·rw[qWr z]at h;cases h
theorem qS{T:Fp}:Same (hide T H) H:=fun _ _ h=>(jR h).2
theorem zU{T b :Fp}(h:∀a o,T a=0->H a=some o->b a=0/\H' a=some o):Same (hide T H) (hide b H'):=fun a o e=>by
 obtain⟨z,q⟩:=jR e;obtain⟨c,d⟩:=h a o z q;rw[vH c];exact d
theorem zB{T b :Fp}(h:∀a,T a=0->b a=0):Same (hide T H) (hide b H):=zU fun a _ z q=>⟨h a z,q⟩
theorem zD{T b :Fp}(h:∀a,T a=0↔b a=0):hide T H=hide b H:=by
 funext a;by_cases z:T a=0
 ·rw[vH z,vH ((h a).mp z)]
 ·rw[qWr z,qWr fun c =>z ((h a).mpr c)]
theorem qKm{T:Fp}{p:aX}{o:HO}(h:T p≠0):hide T (upd H p o)=hide T H:=by
 funext a;by_cases z:T a=0
 ·rw[vH z,vH z,qT fun q=>h (by rw[←q];exact z)]
 ·rw[qWr z,qWr z]
noncomputable def Hb:HO->Prop
 |.tup _=>False
 |.frz _ _=>False
 |.tbl _=>False
 |.tab _ _ _=>False
 |.xd _=>False
 |_=>True
theorem jG{K:aQ}{a:aX}{xs:List V}(e:Same H H')(h:SqL K H a xs):SqL K H' a xs:=by
 rcases h with(h|⟨o,h⟩)|h
 ·exact .inl (.inl (e _ _ h))
 ·exact .inl (.inr ⟨o,e _ _ h⟩)
 ·exact .inr h
noncomputable def XdAt(F:Hp)(fs:List Str)(vs:List V):Option aX->Prop
 |none=>fs=[]
 |some dx=>F dx=some (.xd (fs.zip vs))
theorem vYg{F:Hp}(e:Same F F'){p:aX}{u:HO}(h:Rd F p u):Rd F' p u:=h.elim (fun x=>.inl (e _ _ x)) fun⟨o,x⟩=>.inr ⟨o,e _ _ x⟩
noncomputable def NdAt(K:aQ)(c:Nat->aX)(F:Hp)(p:aX):Kd->List V->Prop
 |.lst,vs=>SqL K F p vs
 |.tup,vs=>SqT K F p vs
 |.dct ks,vs=>ks.length=vs.length/\ks.Nodup/\Rd F p (.dK (ks.zip vs))
 |.dcT ks,vs=>ks.length=vs.length/\ks.Nodup/\F p=some (.dT (ks.zip vs))
 |.obj C fs,vs=>fs.length=vs.length/\∃b,F p=some (.ins (c C) b (fs.zip vs))
 |.exc C fs,vs=>fs.length=vs.length/\∃a,F p=some (.ext (ExcD p (.ref (c C)) a))/\XdAt F fs vs a
noncomputable def OwAt(c:Nat->aX)(H:Hp)(p:aX):Kd->List V->Prop
 |.lst,vs=>H p=some (.lst vs)
 |.tup,_=>False
 |.dct ks,vs=>ks.length=vs.length/\ks.Nodup/\H p=some (.dK (ks.zip vs))
 |.dcT ks,vs=>ks.length=vs.length/\ks.Nodup/\H p=some (.dT (ks.zip vs))
 |.obj C fs,vs=>fs.length=vs.length/\∃a,H p=some (.ins (c C) a (fs.zip vs))
 |.exc _ _,_=>False
section
variable{K:aQ}{c:Nat->aX}{F F' H H' :Hp}{p:aX}{k:Kd}{vs:List V}
theorem NdAt.same(e:Same F F')(h:NdAt K c F p k vs):NdAt K c F' p k vs:=by
 cases k with
 |lst=>exact jG e h
 |tup=>exact e.tup h
 |dct ks=>exact⟨h.1,h.2.1,vYg e h.2.2⟩
 |dcT ks=>exact⟨h.1,h.2.1,e _ _ h.2.2⟩
 |obj C fs=>obtain⟨a,f,b⟩:=h;exact⟨a,f,e _ _ b⟩
 | exc C fs=>
   obtain⟨a,g,b,d⟩:=h;refine⟨a,g,e _ _ b,?_⟩;cases g with
   |none=>exact d
   |some f=>exact e _ _ d
theorem OwAt.nd(h:OwAt c H p k vs)(e:F p=H p):NdAt K c F p k vs:=by
 cases k with
 |lst=>exact SqL.of (e.trans h)
 |tup=>exact h.elim
 |dct ks=>exact⟨h.1,h.2.1,.inl (e.trans h.2.2)⟩
 |dcT ks=>exact⟨h.1,h.2.1,e.trans h.2.2⟩
 |obj C fs=>obtain⟨a,d,b⟩:=h;exact⟨a,d,e.trans b⟩
 |exc C fs=>exact h.elim
theorem OwAt.eq(h:OwAt c H p k vs)(e:H' p=H p):OwAt c H' p k vs:=by
 cases k with
 |lst=>exact e.trans h
 |tup=>exact h.elim
 |dct ks=>exact⟨h.1,h.2.1,e.trans h.2.2⟩
 |dcT ks=>exact⟨h.1,h.2.1,e.trans h.2.2⟩
 |obj C fs=>obtain⟨a,d,b⟩:=h;exact⟨a,d,e.trans b⟩
 |exc C fs=>exact h.elim
theorem OwAt.hb(h:OwAt c H p k vs):∃o,H p=some o/\Hb o:=by
 cases k with
 |lst=>exact⟨_,h,trivial⟩
 |tup=>exact h.elim
 |dct ks=>exact⟨_,h.2.2,trivial⟩
 |dcT ks=>exact⟨_,h.2.2,trivial⟩
 |obj C fs=>obtain⟨a,d,b⟩:=h;exact⟨_,b,trivial⟩
 |exc C fs=>exact h.elim
end
inductive DAt(K:aQ)(c:Nat->aX)(F:Hp):V->D->Prop
 |non:DAt K c F .non .non
 |int (i:Int):DAt K c F (.int i) (.int i)
 |str (s:Str):DAt K c F (.str s) (.str s)
 |bl (b:Bool):DAt K c F (.bl b) (.bl b)
 |fn (j:Nat):DAt K c F (.ref (c j)) (.fn j)
 |nd {p:aX} {k:Kd} {vs:List V} {ds:List D} (h:NdAt K c F p k vs) (len:vs.length=ds.length) (r:∀(i:Nat) (v:V) (d:D),vs[i]?=some v->ds[i]?=some d->DAt K c F v d):DAt K c F (.ref p) (.nd k ds)
structure DsAt(K:aQ)(c:Nat->aX)(F:Hp)(vs:List V)(ds:List D):Prop where
 len:vs.length=ds.length
 r:∀(i:Nat) (v:V) (d:D),vs[i]?=some v->ds[i]?=some d->DAt K c F v d
section
variable{K:aQ}{c:Nat->aX}{F F' :Hp}
theorem DAt.un{k:Kd}{ds:List D}(h:DAt K c F v (.nd k ds)):∃p vs,v=.ref p/\NdAt K c F p k vs/\DsAt K c F vs ds:=by
 cases h with
 |nd h l r=>exact⟨_,_,rfl,h,l,r⟩
theorem DAt.of{p:aX}{k:Kd}{ds:List D}(h:NdAt K c F p k vs)(r:DsAt K c F vs ds):DAt K c F (.ref p) (.nd k ds):=.nd h r.len r.r
theorem DAt.same(e:Same F F'){d:D}(h:DAt K c F v d):DAt K c F' v d:=by
 induction h with
 |non=>exact .non
 |int i=>exact .int i
 |str i=>exact .str i
 |bl i=>exact .bl i
 |fn i=>exact .fn i
 |nd h l r ih=>exact .nd (h.same e) l ih
theorem DsAt.same(e:Same F F'){ds:List D}(h:DsAt K c F vs ds):DsAt K c F' vs ds:=⟨h.len,fun i v d a b=>(h.r i v d a b).same e⟩
theorem DsAt.nil:DsAt K c F [] []:=⟨rfl,fun i v d h _=>by simp at h⟩
theorem DsAt.cons{d:D}{ds:List D}(h:DAt K c F v d)(k:DsAt K c F vs ds):DsAt K c F (v::vs) (d::ds):=by
 refine⟨by rw[aU,aU,k.len],fun i u x a b=>?_⟩;cases i with
 |zero=>grind
 |succ i=>exact k.r i u x (by simpa using a) (by simpa using b)
theorem DsAt.un{d:D}{ds:List D}(h:DsAt K c F vs (d::ds)):∃v r,vs=v::r/\DAt K c F v d/\DsAt K c F r ds:=by
 cases vs with
 |nil=>cases h.len
 |cons v r=>exact⟨v,r,rfl,h.r 0 v d rfl rfl,Nat.succ.inj h.len,fun i u x a b=>h.r (i+1) u x (by simpa using a) (by simpa using b)⟩
theorem DsAt.un0(h:DsAt K c F vs []):vs=[]:=eP h.len
theorem DsAt.get{ds:List D}{d:D}(h:DsAt K c F vs ds)(e:ds[i]?=some d):∃v,vs[i]?=some v/\DAt K c F v d:=by
 have a:i<vs.length:=by rw[h.len];exact(aM.mp e).1
 exact⟨vs[i],aD a,h.r i _ d (aD a) e⟩
theorem DsAt.append{e:List V}{ds es:List D}(h:DsAt K c F vs ds)(k:DsAt K c F e es):DsAt K c F (vs ++ e) (ds ++ es):=by
 refine⟨by rw[aB,aB,h.len,k.len],fun i v d a b=>?_⟩;by_cases f:i<vs.length
 ·rw [dC f] at a;rw[dC (by rw[←h.len];exact f)]at b;exact h.r i v d a b
 ·rw [dN (by omega)] at a;rw[dN (by rw[←h.len];omega),←h.len]at b;exact k.r _ v d a b
theorem DsAt.take{ds:List D}(n:Nat)(h:DsAt K c F vs ds):DsAt K c F (vs.take n) (ds.take n):=by
 refine⟨by rw[List.length_take,List.length_take,h.len],fun i v d a b=>?_⟩;rw[List.getElem?_take]at a b;split at a
 ·rename_i z;rw[if_pos z]at b;exact h.r i v d a b
 ·cases a
theorem DsAt.drop{ds:List D}(n:Nat)(h:DsAt K c F vs ds):DsAt K c F (vs.drop n) (ds.drop n):=by
 refine⟨by rw[List.length_drop,List.length_drop,h.len],fun i v d a b=>?_⟩;rw[List.getElem?_drop]at a b;exact h.r _ v d a b
theorem DsAt.set{ds:List D}{d:D}(e:DAt K c F v d)(j:Nat)(h:DsAt K c F vs ds):DsAt K c F (vs.set j v) (ds.set j d):=by
 refine⟨by rw[bI,bI,h.len],fun i u x a b=>?_⟩;rw[List.getElem?_set]at a b;split at a
 ·rename_i z;rw[if_pos z]at b;split at a
  ·split at b
   ·cases a;cases b;exact e
   ·cases b
  ·cases a
 ·rename_i z;rw[if_neg z]at b;exact h.r i u x a b
end
mutual
def OAt(K:aQ)(c:Nat->aX)(F H:Hp):O->V->Fp->Prop
 |.fz d,v,Z=>DAt K c F v d/\∀a,Z a=0
 |.ow k os,v,Z=>∃p b e,v=.ref p/\OwAt c H p k b/\OsAt K c F H os b e /\∀a,Z a=one p a+e a
def OsAt(K:aQ)(c:Nat->aX)(F H:Hp):List O->List V->Fp->Prop
 |[],vs,Z=>vs=[]/\∀a,Z a=0
 |o::os,vs,Z=>∃v r b d,vs=v::r/\OAt K c F H o v b/\OsAt K c F H os r d/\∀a,Z a=b a+d a
end
mutual
def fzO:O->D
 |.fz d=>d
 |.ow k os=>.nd k (fzOs os)
def fzOs:List O->List D
 |[]=> []
 |o::os=>fzO o::fzOs os
end
theorem qWz:∀os:List O,fzOs os=os.map fzO
 |[]=>by simp[fzOs]
 |o::os=>by rw[fzOs,aL,qWz os]
section
variable{K:aQ}{c:Nat->aX}{F F' H H' :Hp}{v:V}{vs:List V}{Z Z' :Fp}{d:D}{k:Kd}{os:List O}{o:O}
theorem OAt.fz:OAt K c F H (.fz d) v Z↔DAt K c F v d/\∀a,Z a=0:=by rw[OAt]
theorem OAt.ow:OAt K c F H (.ow k os) v Z↔∃p vs Z',v=.ref p/\OwAt c H p k vs/\OsAt K c F H os vs Z' /\∀a,Z a=one p a+Z' a:=by rw[OAt]
theorem OsAt.nil:OsAt K c F H [] vs Z↔vs=[]/\∀a,Z a=0:=by rw[OsAt]
theorem OsAt.cons:OsAt K c F H (o::os) vs Z↔∃v r b d,vs=v::r/\OAt K c F H o v b/\OsAt K c F H os r d/\∀a,Z a=b a+d a:=by rw[OsAt]
mutual
theorem OAt.keepM(e:∀v d,DAt K c F v d->DAt K c F' v d):∀{o:O} {v:V} {Z:Fp},(∀a,Z a≠0->H' a=H a)->OAt K c F H o v Z->OAt K c F' H' o v Z
 | .fz d,v,Z,_,h=>by
   rw[OAt.fz]at h⊢;exact⟨e _ _ h.1,h.2⟩
 | .ow k os,v,Z,q,h=>by
   rw[OAt.ow]at h⊢;obtain⟨p,f,g,a,b,c,d⟩:=h;exact⟨p,f,g,a,b.eq (q p (by rw[d,wQ];omega)),OsAt.keepM e (fun a z=>q a (by rw[d];omega)) c,d⟩
theorem OsAt.keepM(e:∀v d,DAt K c F v d->DAt K c F' v d):∀{os:List O} {vs:List V} {Z:Fp},(∀a,Z a≠0->H' a=H a)->OsAt K c F H os vs Z->OsAt K c F' H' os vs Z
 |[],vs,Z,_,h=>by rw[OsAt.nil]at h⊢;exact h
 | o::os,vs,Z,q,h=>by
   rw[OsAt.cons]at h⊢;obtain⟨v,r,f,g,a,b,c,d⟩:=h;exact⟨v,r,f,g,a,OAt.keepM e (fun a z=>q a (by rw[d];omega)) b,OsAt.keepM e (fun a z=>q a (by rw[d];omega)) c,d⟩
end
theorem OAt.keep(e:Same F F'){o:O}(q:∀a,Z a≠0->H' a=H a)(h:OAt K c F H o v Z):OAt K c F' H' o v Z:=OAt.keepM (fun _ _ h=>h.same e) q h
theorem OsAt.keep(e:Same F F'){os:List O}(q:∀a,Z a≠0->H' a=H a)(h:OsAt K c F H os vs Z):OsAt K c F' H' os vs Z:=OsAt.keepM (fun _ _ h=>h.same e) q h
mutual
theorem OAt.dat(e:Same F F'):∀{o:O} {v:V} {Z:Fp},(∀a,Z a≠0->F' a=H a)->OAt K c F H o v Z->DAt K c F' v (fzO o)
 | .fz d,v,Z,_,h=>by
   rw[OAt.fz]at h;rw[fzO];exact h.1.same e
 | .ow k os,v,Z,q,h=>by
   rw[OAt.ow]at h;obtain⟨p,f,g,rfl,b,c,d⟩:=h;rw[fzO];exact .of (b.nd (q p (by rw[d,wQ];omega))) (OsAt.dat e (fun a z=>q a (by rw[d];omega)) c)
theorem OsAt.dat(e:Same F F'):∀{os:List O} {vs:List V} {Z:Fp},(∀a,Z a≠0->F' a=H a)->OsAt K c F H os vs Z->DsAt K c F' vs (fzOs os)
 |[],vs,Z,_,h=>by rw[OsAt.nil]at h;rw[h.1,fzOs];exact .nil
 | o::os,vs,Z,q,h=>by
   rw[OsAt.cons]at h;obtain⟨v,r,f,g,rfl,b,c,d⟩:=h;rw[fzOs];exact .cons (OAt.dat e (fun a z=>q a (by rw[d];omega)) b) (OsAt.dat e (fun a z=>q a (by rw[d];omega)) c)
end
mutual
theorem OAt.hb:∀{o:O} {v:V} {Z:Fp} {a:aX},OAt K c F H o v Z->Z a≠0->∃u,H a=some u/\Hb u
 |.fz d,v,Z,a,h,q=>by rw[OAt.fz]at h;exact absurd (h.2 a) q
 | .ow k os,v,Z,a,h,q=>by
   rw[OAt.ow]at h;obtain⟨p,e,f,rfl,b,c,d⟩:=h;by_cases z:a=p
   ·subst z;exact b.hb
   ·exact OsAt.hb c (by rw[d,xU z]at q;omega)
theorem OsAt.hb:∀{os:List O} {vs:List V} {Z:Fp} {a:aX},OsAt K c F H os vs Z->Z a≠0->∃u,H a=some u/\Hb u
 |[],vs,Z,a,h,q=>by rw[OsAt.nil]at h;exact absurd (h.2 a) q
 | o::os,vs,Z,a,h,q=>by
   rw[OsAt.cons]at h;obtain⟨v,r,e,f,rfl,b,c,d⟩:=h;by_cases z:e a=0
   ·exact OsAt.hb c (by rw[d]at q;omega)
   ·exact OAt.hb b z
end
theorem OAt.cast(h:OAt K c F H o v Z)(e:∀a,Z' a=Z a):OAt K c F H o v Z' :=by rw[show Z' =Z from funext e];exact h
theorem OsAt.length:∀{os:List O} {vs:List V} {Z:Fp},OsAt K c F H os vs Z->vs.length=os.length
 |[],vs,Z,h=>by rw[OsAt.nil]at h;rw[h.1];rfl
 | o::os,vs,Z,h=>by
   obtain⟨v,r,a,e,rfl,b,c,d⟩:=h;rw[aU,aU,c.length]
theorem OsAt.fzs:∀{ds:List D} {vs:List V} {Z:Fp},OsAt K c F H (ds.map .fz) vs Z↔DsAt K c F vs ds/\∀a,Z a=0
 | [],vs,Z=>by
   rw[List.map_nil,OsAt.nil];exact⟨fun h=>⟨by rw[h.1];exact .nil,h.2⟩,fun h=>⟨h.1.un0,h.2⟩⟩
 | d::ds,vs,Z=>by
   rw[aL,OsAt.cons];constructor
   ·rintro⟨v,r,e,f,rfl,b,c,d⟩;rw[OAt.fz]at b;rw[OsAt.fzs]at c;exact⟨.cons b.1 c.1,fun a=>by rw[d,b.2,c.2]⟩
   ·rintro⟨h,z⟩;obtain⟨v,r,rfl,b,c⟩:=h.un;exact⟨v,r,fun _=>0,fun _=>0,rfl,OAt.fz.mpr ⟨b,fun _=>rfl⟩,OsAt.fzs.mpr ⟨c,fun _=>rfl⟩,fun a=>z a⟩
theorem OsAt.focus:∀{os:List O} {vs:List V} {Z:Fp} {j:Nat} {o:O},OsAt K c F H os vs Z->os[j]?=some o->∃(v:V) (g R:Fp),vs[j]?=some v/\OAt K c F H o v g/\(∀a,Z a=g a+R a)/\
  ∀l H' o' i f,Same F l ->(∀a,R a≠0->H' a=H a)->OAt K c l H' o' i f ->OsAt K c l H' (os.set j o') (vs.set j i) (fun a=>f a+R a)
 |[],vs,Z,j,o,h,e=>by simp at e
 | o1::os,vs,Z,0,o,h,e=>by
   rw[OsAt.cons]at h;obtain⟨v,r,g,n,rfl,b,c,d⟩:=h;cases e;refine⟨v,g,n,rfl,b,d,fun l H' o' i f m k q=>?_⟩;rw[List.set_cons_zero,List.set_cons_zero,OsAt.cons];exact⟨i,r,f,n,rfl,q,c.keep m k,fun _=>rfl⟩
 | o1::os,vs,Z,j + 1,o,h,e=>by
   rw[OsAt.cons]at h;obtain⟨v,r,g,n,rfl,b,c,d⟩:=h;obtain⟨w,Y,R,p,s,t,u⟩:=OsAt.focus (j:=j) c (by simpa using e);refine⟨w,Y,fun a=>g a+R a,by simpa using p,s,fun a=>by rw[d,t];(try dsimp only at *);omega,fun l H' o' i f m k q=>?_⟩;rw[List.set_cons_succ,List.set_cons_succ,OsAt.cons];exact⟨v,r.set j i,g,_,rfl,b.keep m fun a z=>k a (by(try dsimp only at *);omega),u l H' o' i f m (fun a z=>k a (by(try dsimp only at *);omega)) q,fun a=>by(try dsimp only at *);omega⟩
theorem OsAt.append:∀{os:List O} {vs:List V} {Z:Fp} {os' :List O} {vs' :List V} {Z' :Fp},OsAt K c F H os vs Z->OsAt K c F H os' vs' Z' ->OsAt K c F H (os ++ os') (vs ++ vs') (fun a=>Z a+Z' a)
 | [],vs,Z,os',vs',Z',h,k=>by
   rw[OsAt.nil]at h;simp_all
 | o::os,vs,Z,os',vs',Z',h,k=>by
   obtain⟨v,r,e,f,rfl,b,c,d⟩:=h;rw[List.cons_append,List.cons_append,OsAt.cons];exact⟨v,r ++ vs',e,_,rfl,b,c.append k,fun a=>by rw[d];(try dsimp only at *);omega⟩
theorem OsAt.one:OsAt K c F H [o] [v] Z↔OAt K c F H o v Z:=by
 constructor
 ·rintro⟨f,r,g,i,e,b,c,d⟩;cases e;exact b.cast fun a=>by rw[d,c.2];omega
 ·intro h;exact⟨v,[],Z,fun _=>0,rfl,h,OsAt.nil.mpr ⟨rfl,fun _=>rfl⟩,fun a=>by(try dsimp only at *);omega⟩
end
noncomputable def getP:O->List Nat->Option O
 |o,[]=>some o
 | .ow _ os,j::π=>match os[j]? with
   |some o=>getP o π
   |none=>none
 |.fz _,_::_=>none
noncomputable def setP:O->List Nat->O->O
 |_,[],x=>x
 | .ow k os,j::π,x=> .ow k (match os[j]? with
   |some o=>os.set j (setP o π x)
   |none=>os)
 |.fz d,_::_,_=>.fz d
noncomputable def kids:HO->List V
 |.lst vs=>vs
 |.dK ws=>ws.map (·.2)
 |.dT ws=>ws.map (·.2)
 |.ins _ _ fs=>fs.map (·.2)
 |_=> []
noncomputable def walk(H:Hp):V->List Nat->Option V
 |v,[]=>some v
 | .ref p,j::π=>match H p with
   | some o=>match(kids o)[j]? with
     |some v=>walk H v π
     |none=>none
   |none=>none
 |_,_::_=>none
theorem qZm:∀{ks:List α} {vs:List β},ks.length=vs.length->(ks.zip vs).map (·.2)=vs
 |[],[],_=>rfl
 |k::ks,v::vs,h=>by rw[cB,aL,qZm (Nat.succ.inj h)]
 |[],_::_,h=>by cases h
 |_::_,[],h=>by cases h
theorem OwAt.kids{p:aX}{k:Kd}(h:OwAt c H p k vs):∃o,H p=some o/\kids o=vs:=by
 cases k with
 |lst=>exact⟨_,h,rfl⟩
 |tup=>exact h.elim
 |dct ks=>exact⟨_,h.2.2,qZm h.1⟩
 |dcT ks=>exact⟨_,h.2.2,qZm h.1⟩
 |obj C fs=>obtain⟨a,d,b⟩:=h;exact⟨_,b,qZm a⟩
 |exc C fs=>exact h.elim
theorem xI{l:List α}{x:α}(h:l[j]?=some x):l.set j x=l:=by
 apply List.ext_getElem?;grind
theorem qXb{p:aX}{o:HO}(h:H p=some o)(e:(kids o)[j]?=some v):walk H (.ref p) (j::π)=walk H v π:=by
 simp only[walk,h,e]
section
variable{K:aQ}{c:Nat->aX}{F F' H H' :Hp}
theorem OAt.focus:∀{π:List Nat} {o o1:O} {v:V} {Z:Fp},OAt K c F H o v Z->getP o π=some o1->∃(l:V) (m R:Fp),walk H v π=some l/\OAt K c F H o1 l m/\(∀a,Z a=m a+R a)/\
  ∀i H' f g,Same F i ->(∀a,R a≠0->H' a=H a)->OAt K c i H' f l g ->OAt K c i H' (setP o π f) v (fun a=>g a+R a)
 | [],o,o1,v,Z,h,e=>by
   cases e;refine⟨v,Z,fun _=>0,by cases v <;> rfl,h,fun a=>rfl,fun i H' f g n k q=>?_⟩;exact q.cast fun _=>rfl
 |j::π,.fz d,o1,v,Z,h,e=>by cases e
 | j::π, .ow k os,o1,v,Z,h,e=>by
   simp only[getP]at e;cases e0:os[j]? with
   |none=>rw[e0]at e;cases e
   | some o=>
     rw[e0]at e;obtain⟨p,t,J,rfl,b,u,d⟩:=h;obtain⟨w,Y,R,r,x,y,A⟩:=u.focus e0;obtain⟨l,m,B,g1,g2,C,D⟩:=OAt.focus x e;obtain⟨L,E,G⟩:=b.kids;refine⟨l,m,fun a=>one p a+R a+B a,by rw[qXb E (by rw[G];exact r)];exact g1,g2,fun a=>by rw[d,y,C];(try dsimp only at *);omega,fun i H' f g n k q=>?_⟩;have I:=D i H' f g n (fun a z=>k a (by(try dsimp only at *);omega)) q;have s:=A i H' _ w _ n (fun a z=>k a (by(try dsimp only at *);omega)) I;rw[xI r]at s;simp only[setP,e0];rw[OAt.ow];exact⟨p,t,_,rfl,b.eq (k p (by dsimp only;rw[wQ];omega)),s,fun a=>by(try dsimp only at *);omega⟩
end
inductive Slot where
 |un|s (io:Bool) (o:O)
noncomputable abbrev Ev:=List Slot
noncomputable def jF(K:aQ)(c:Nat->aX)(F H:Hp):Slot->Option V->Fp->Prop
 |.un,_,Z=>∀a,Z a=0
 |.s _ o,some v,Z=>OAt K c F H o v Z
 |.s _ _,none,_=>False
noncomputable def lamQ:Str:="next_out.<locals>.<lambda>"
noncomputable def TabF(c:Nat->aX)(F:Hp):Prop:=c 77≠0->F (c 77)=some (.tab (c 78) (c 79) lamQ)
theorem TabF.same{F:Hp}(h:TabF c F)(e:Same F F'):TabF c F' :=fun z=>e _ _ (h z)
noncomputable def SlAt(K:aQ)(c:Nat->aX)(F H:Hp):Ev->L2.St->Fp->Prop
 |[],σ,Z=>(σ=[]/\TabF c F)/\∀a,Z a=0
 |s::env,σ,Z=>∃x r b d,σ=x::r/\jF K c F H s x b/\SlAt K c F H env r d/\∀a,Z a=b a+d a
section
variable{K:aQ}{c:Nat->aX}{F F' H H' :Hp}
theorem jF.keepM(e:∀v d,DAt K c F v d->DAt K c F' v d){s:Slot}{x:Option V}(q:∀a,Z a≠0->H' a=H a)(h:jF K c F H s x Z):jF K c F' H' s x Z:=by
 cases s with
 |un=>exact h
 | s io o=>
   cases x with
   |none=>exact h.elim
   |some v=>exact OAt.keepM e q h
theorem jF.keep(e:Same F F'){s:Slot}{x:Option V}(q:∀a,Z a≠0->H' a=H a)(h:jF K c F H s x Z):jF K c F' H' s x Z:=h.keepM (fun _ _ h=>h.same e) q
theorem SlAt.cast{Z':Fp}(h:SlAt K c F H env σ Z)(e:∀a,Z' a=Z a):SlAt K c F H env σ Z' :=by rw[show Z' =Z from funext e];exact h
theorem jF.hb{s:Slot}{x:Option V}{a:aX}(h:jF K c F H s x Z)(q:Z a≠0):∃u,H a=some u/\Hb u:=by
 cases s with
 |un=>exact absurd (h a) q
 | s io o=>
   cases x with
   |none=>exact h.elim
   |some v=>exact OAt.hb h q
theorem SlAt.keepM(e:∀v d,DAt K c F v d->DAt K c F' v d)(t:TabF c F->TabF c F'):∀{env:Ev} {σ:L2.St} {Z:Fp},(∀a,Z a≠0->H' a=H a)->SlAt K c F H env σ Z->SlAt K c F' H' env σ Z
 |[],_,_,_,h=>⟨⟨h.1.1,t h.1.2⟩,h.2⟩
 | s::env,σ,Z,q,h=>by
   obtain⟨x,r,f,g,a,b,i,d⟩:=h;exact⟨x,r,f,g,a,b.keepM e fun a z=>q a (by rw[d];omega),i.keepM e t fun a z=>q a (by rw[d];omega),d⟩
theorem SlAt.keep(e:Same F F')(q:∀a,Z a≠0->H' a=H a)(h:SlAt K c F H env σ Z):SlAt K c F' H' env σ Z:=h.keepM (fun _ _ h=>h.same e) (fun t=>t.same e) q
theorem SlAt.hb:∀{env:Ev} {σ:L2.St} {Z:Fp} {a:aX},SlAt K c F H env σ Z->Z a≠0->∃u,H a=some u/\Hb u
 |[],_,_,a,h,q=>absurd (h.2 a) q
 | s::env,σ,Z,a,h,q=>by
   obtain⟨x,r,e,g,_,b,f,d⟩:=h;by_cases z:e a=0
   ·exact SlAt.hb f (by rw[d]at q;omega)
   ·exact b.hb z
theorem SlAt.tab:∀{env:Ev} {σ:L2.St} {Z:Fp},SlAt K c F H env σ Z->TabF c F
 |[],_,_,h=>h.1.2
 | _::_,_,_,h=>by
   obtain⟨_,_,_,_,_,_,a,_⟩:=h;exact a.tab
theorem SlAt.len:∀{env:Ev} {σ:L2.St} {Z:Fp},SlAt K c F H env σ Z->env.length=σ.length
 |[],_,_,h=>by rw[h.1.1];rfl
 | s::env,σ,Z,h=>by
   obtain⟨x,r,e,f,rfl,b,a,d⟩:=h;rw[aU,aU,a.len]
theorem SlAt.focus:∀{env:Ev} {σ:L2.St} {Z:Fp} {i:Nat} {s:Slot},SlAt K c F H env σ Z->env[i]?=some s->∃(x:Option V) (g R:Fp),σ[i]?=some x/\jF K c F H s x g/\(∀a,Z a=g a+R a)/\
  ∀(l H' :Hp) (m :Slot) (j :Option V) (f Y:Fp),Same F l ->(∀a,R a≠0->H' a=H a)->jF K c l H' m j f ->(∀a,Y a=f a+R a)->SlAt K c l H' (env.set i m) (σ.set i j) Y
 |[],_,_,i,s,h,e=>by simp at e
 | s1::env,σ,Z,0,s,h,e=>by
   obtain⟨x,r,g,o,rfl,b,p,d⟩:=h;cases e;exact⟨x,g,o,rfl,b,d,fun l H' m j f Y n k q y=>⟨j,r,f,o,rfl,q,p.keep n k,y⟩⟩
 | s1::env,σ,Z,i + 1,s,h,e=>by
   obtain⟨x,r,g,o,rfl,b,p,d⟩:=h;obtain⟨y,Y,R,u,v,w,A⟩:=SlAt.focus (i:=i) p (by simpa using e);refine⟨y,Y,fun a=>g a+R a,by simpa using u,v,fun a=>by rw[d,w];dsimp only;omega,fun l H' m j f B n k q t =>?_⟩;dsimp only at k t;exact⟨x,r.set i j,g,fun a=>f a+R a,rfl,b.keep n fun a z=>k a (by omega),A l H' m j f _ n (fun a z=>k a (by omega)) q (fun _=>rfl),fun a=>by rw[t];dsimp only;omega⟩
end
noncomputable abbrev hd2(B W:Fp):Fp:=fun a=>B a+W a
structure Cf(K:aQ)(c:Nat->aX)(env:Ev)(σ:L2.St)(H:Hp)(B W:Fp):Prop where
 at_:SlAt K c (hide (hd2 B W) H) H env σ W
 nd:∀a,B a+W a<=1
 hb:∀a,B a≠0->∃o,H a=some o/\Hb o
noncomputable def pinF(f:Str):Bool:= !(decide (f="place") || decide (f="slots") || decide (f="terms") || decide (f="top") || decide (f="bottom"))
def Pin(x y:Option HO):Prop:=match x with
 |some (.ins C dx fs)=>∃a,y=some (.ins C dx a)/\∀(j:Nat) f v,pinF f=true->fs[j]?=some (f,v)->a[j]?=some (f,v)
 |_=>True
theorem Pin.refl{x:Option HO}:Pin x x:=by
 unfold Pin;grind
theorem Pin.of{x:Option HO}(h:y=x):Pin x y:=by subst h;exact .refl
theorem Pin.trans{x z:Option HO}(a:Pin x y)(b:Pin y z):Pin x z:=by
 unfold Pin at a⊢;split
 ·obtain⟨c,rfl,e⟩:=a;obtain⟨d,rfl,f⟩:=b;grind
 ·trivial
theorem Pin.none:Pin none y:=trivial
structure Step(env:Ev)(σ:L2.St)(H:Hp)(B W:Fp)(env' :Ev)(σ' :L2.St)(H' :Hp)(V:Fp):Prop where
 same:Same (hide (hd2 B W) H) (hide (hd2 B V) H')
 by_:∀a,B a≠0->H' a=H a
 new:∀a,V a≠0->W a≠0\/H a=none
 dom:∀a,H' a=none->H a=none
 pin:∀a,W a≠0->V a≠0->Pin (H a) (H' a)
 io:∀(i:Nat) (o:O),env'[i]?=some (.s true o)->(∃o0,env[i]?=some (.s true o0))/\σ'[i]?=σ[i]?
 len:env'.length=env.length
section
variable{K:aQ}{c:Nat->aX}{env env' env2:Ev}{σ σ' σ2:L2.St}{H H' H2:Hp}{B W Y Y2 Z:Fp}
theorem Step.refl:Step env σ H B W env σ H W:=⟨Same.refl _,fun _ _=>rfl,fun _ h=>.inl h,fun _ h=>h,fun _ _ _=>.refl,fun _ o h=>⟨⟨o,h⟩,rfl⟩,rfl⟩
theorem Step.trans(a:Step env σ H B W env' σ' H' Y)(b:Step env' σ' H' B Y env2 σ2 H2 Y2):Step env σ H B W env2 σ2 H2 Y2:=by
 refine⟨a.same.trans b.same,fun z h=>(b.by_ z h).trans (a.by_ z h),fun z h=>?_,fun z h=>a.dom z (b.dom z h),fun z c d=>?_,fun i o h=>?_,b.len.trans a.len⟩
 ·rcases b.new z h with q | q
  ·exact a.new z q
  ·exact .inr (a.dom z q)
 ·rcases b.new z d with q | q
  ·exact(a.pin z c q).trans (b.pin z q d)
  ·rw[a.dom z q];exact .none
 ·obtain⟨⟨o1,c⟩,e⟩:=b.io i o h;obtain⟨q,f⟩:=a.io i o1 c;exact⟨q,e.trans f⟩
theorem Step.lift(b:Step env σ H B' W env' σ' H' Y)(h1:∀a,B' a=B a+Z a)(h2:∀a,W' a=W a+Z a)(c:∀a,Y' a=Y a+Z a):Step env σ H B W' env' σ' H' Y' :=by
 refine⟨?_,fun a h=>b.by_ a (by rw[h1];omega),fun a h=>?_,b.dom,fun a p q=>?_,b.io,b.len⟩
 ·have d:hide (hd2 B W') H=hide (hd2 B' W) H:=zD fun a=>by dsimp only [hd2];rw [h1,h2];omega
  have e:hide (hd2 B Y') H' =hide (hd2 B' Y) H' :=zD fun a=>by dsimp only[hd2];rw[h1,c];omega
  rw[d,e];exact b.same
 ·by_cases z:Y a=0
  ·exact .inl (by rw[c]at h;rw[h2];omega)
  ·rcases b.new a z with q | q
   ·exact .inl (by rw[h2];omega)
   ·exact .inr q
 ·by_cases z:Z a=0
  ·exact b.pin a (by rw[h2]at p;omega) (by rw[c]at q;omega)
  ·exact .of (b.by_ a (by rw[h1];omega))
theorem Step.cast(b:Step env σ H B W env' σ' H' Y)(h1:∀a,B' a=B a)(h2:∀a,W' a=W a)(c:∀a,Y' a=Y a):Step env σ H B' W' env' σ' H' Y' :=by
 rw[show B' =B from funext h1,show W' =W from funext h2,show Y' =Y from funext c];exact b
theorem Cf.cast(b:Cf K c env σ H B W)(h1:∀a,B' a=B a)(h2:∀a,W' a=W a):Cf K c env σ H B' W' :=by
 rw[show B' =B from funext h1,show W' =W from funext h2];exact b
theorem Cf.hbs(h:Cf K c env σ H B W){a:aX}(q:B a+W a≠0):∃o,H a=some o/\Hb o:=by
 by_cases z:B a=0
 ·exact h.at_.hb (by omega)
 ·exact h.hb a z
theorem Cf.fresh(h:Cf K c env σ H B W){a:aX}(q:H a=none):B a=0/\W a=0:=by
 have:B a+W a=0:=by
  by_cases z:B a+W a=0
  ·exact z
  ·obtain⟨o,e,_⟩:=h.hbs z;rw[q]at e;cases e
 omega
theorem Cf.grow(h:Cf K c env σ H B W)(e:Same H H'):Cf K c env σ H' B W:=by
 have st:∀a,B a+W a≠0->H' a=H a:=fun a z=>by obtain⟨o,q,_⟩:=h.hbs z;rw[q,e a o q]
 exact⟨h.at_.keep (zU fun a o z q=>⟨z,e a o q⟩) fun a z=>st a (by omega),h.nd,fun a z=>by rw[st a (by omega)];exact h.hb a z⟩
theorem Step.grow(h:Cf K c env σ H B W)(e:Same H H'):Step env σ H B W env σ H' W:=by
 have st:∀a,B a+W a≠0->H' a=H a:=fun a z=>by obtain⟨o,q,_⟩:=h.hbs z;rw[q,e a o q]
 refine⟨zU fun a o z q=>⟨z,e a o q⟩,fun a z=>st a (by omega),fun _ z=>.inl z,fun a z=>?_,fun a z _=>.of (st a (by omega)),fun _ o h=>⟨⟨o,h⟩,rfl⟩,rfl⟩;cases q:H a with
 |none=>rfl
 |some o=>rw[e a o q]at z;cases z
theorem Cf.focus(h:Cf K c env σ H B W){s:Slot}(e:env[i]?=some s):∃(x:Option V) (f R:Fp),σ[i]?=some x/\jF K c (hide (hd2 B W) H) H s x f/\(∀a,W a=f a+R a)/\
  ∀(H' :Hp) (d W' :Fp) (g :Slot) (j :Option V) (b :Fp),Same (hide (hd2 B W) H) (hide (hd2 d W') H')->(∀a,W' a=b a+R a)->(∀a,R a≠0->H' a=H a)->jF K c (hide (hd2 d W') H') H' g j b ->
   (∀a,d a+W' a<=1)->(∀a,d a≠0->∃o,H' a=some o/\Hb o)->Cf K c (env.set i g) (σ.set i j) H' d W' :=by
 obtain⟨x,f,R,l,m,n,p⟩:=h.at_.focus e;exact⟨x,f,R,l,m,n,fun H' d W' g j b r t k q nd hb=>⟨p _ H' g j b W' r k q t,nd,hb⟩⟩
end
noncomputable def getE(env:Ev)(i:Nat)(π:List Nat):Option O:=match env[i]? with
 |some (.s _ o)=>getP o π
 |_=>none
noncomputable def setE(env:Ev)(i:Nat)(π:List Nat)(x:O):Ev:=match env[i]? with
 |some (.s io o)=>env.set i (.s io (setP o π x))
 |_=>env
noncomputable def vC(H:Hp)(σ:L2.St)(i:Nat)(π:List Nat):Option V:=match σ[i]? with
 |some (some v)=>walk H v π
 |_=>none
section
variable{K:aQ}{c:Nat->aX}{env env' env2:Ev}{σ σ' σ2:L2.St}{H H' H2:Hp}{B W Y Y2 Z:Fp}{i:Nat}{π:List Nat}{o1:O}
theorem qJe{x:O}{o:O}(h:(setE env i π x)[j]?=some (.s true o)):∃a,env[j]?=some (.s true a):=by
 unfold setE at h;grind
theorem qQ8{x:O}:(setE env i π x).length =env.length:=by
 unfold setE;grind
theorem Cf.place(h:Cf K c env σ H B W)(e:getE env i π=some o1):∃(g:V) (j R:Fp),vC H σ i π=some g/\OAt K c (hide (hd2 B W) H) H o1 g j/\(∀a,W a=j a+R a)/\
  ∀(H' :Hp) (f W' :Fp) (b :O) (d :Fp),Same (hide (hd2 B W) H) (hide (hd2 f W') H')->(∀a,W' a=d a+R a)->(∀a,R a≠0->H' a=H a)->OAt K c (hide (hd2 f W') H') H' b g d ->
   (∀a,f a+W' a<=1)->(∀a,f a≠0->∃o,H' a=some o/\Hb o)->Cf K c (setE env i π b) σ H' f W' :=by
 unfold getE at e;split at e
 ·rename_i u o l;obtain⟨x,G,w,m,n,y,A⟩:=h.focus l;cases x with
  |none=>exact n.elim
  | some v=>
    obtain⟨g,j,C,g1,g2,D,E⟩:=OAt.focus n e;refine⟨g,j,fun a=>C a+w a,by unfold vC;rw[m];exact g1,g2,fun a=>by rw[y,D];dsimp only;omega,fun H' f W' b d p r k q nd hb=>?_⟩;dsimp only at r k;have F:=E _ H' b d p (fun a z=>k a (by omega)) q;have t:=A H' f W' (.s u (setP o π b)) (some v) _ p (fun a=>by rw[r];(try dsimp only);omega) (fun a z=>k a (by omega)) F nd hb;rw[xI m]at t;unfold setE;rw[l];exact t
 ·cases e
theorem Cf.freeze(h:Cf K c env σ H B W)(e:getE env i π=some o1):∃b W',vC H σ i π=some b/\Cf K c (setE env i π (.fz (fzO o1))) σ H B W' /\DAt K c (hide (hd2 B W') H) b (fzO o1)/\Step env σ H B W (setE env i π (.fz (fzO o1))) σ H W' :=by
 obtain⟨b,n,R,k,l,d,m⟩:=h.place e;have f:Same (hide (hd2 B W) H) (hide (hd2 B R) H):=zB fun a z=>by dsimp only[hd2]at *;rw[d]at z;omega
 have g:DAt K c (hide (hd2 B R) H) b (fzO o1):=l.dat f fun a z=>vH (by have:=h.nd a;rw[d]at this;dsimp only[hd2];omega)
 refine⟨b,R,k,m H B R _ (fun _=>0) f (fun a=>by(try dsimp only);omega) (fun _ _=>rfl) (OAt.fz.mpr ⟨g,fun _=>rfl⟩) (fun a=>by have:=h.nd a;rw[d]at this;omega) h.hb,g,?_⟩;exact⟨f,fun _ _=>rfl,fun a z=>.inl (by rw[d];omega),fun _ z=>z,fun _ _ _=>.refl,fun j o q=>⟨qJe q,rfl⟩,qQ8⟩
theorem Cf.view(h:Cf K c env σ H B W)(e:getE env i π=some o1):∃a,vC H σ i π=some a/\DAt K c H a (fzO o1):=by
 obtain⟨a,f,R,b,d,g,j⟩:=h.place e;exact⟨a,b,d.dat qS fun _ _=>rfl⟩
theorem Cf.put{u:V}{o:O}(h:Cf K c env σ H B' W)(hB:∀a,B' a=B a+Z a)(e:OAt K c (hide (hd2 B' W) H) H o u Z)(f:i<env.length):∃W',Cf K c (env.set i (.s io o)) (σ.set i (some u)) H B W' /\Same (hide (hd2 B' W) H) (hide (hd2 B W') H)/\∀a,W' a≠0->Z a+W a≠0:=by
 obtain⟨x,j,R,k,l,b,g⟩:=h.focus (aD f);have d:Same (hide (hd2 B' W) H) (hide (hd2 B fun a=>Z a+R a) H):=zB fun a z=>by dsimp only[hd2]at *;rw[b,hB]at z;omega
 refine⟨fun a=>Z a+R a,g H B _ (.s io o) (some u) Z d (fun _=>rfl) (fun _ _=>rfl) (e.keep d fun _ _=>rfl) (fun a=>?_) (fun a z=>h.hb a (by rw[hB];omega)),d,fun a z=>?_⟩
 ·have:=h.nd a;rw[b,hB]at this;(try dsimp only);omega
 ·dsimp only at z;rw[b];omega
end
inductive Res(α:Type) where
 |ok (a:α)|er (C:Nat) (fs:List (Str×D))|no
noncomputable def Res.bind{α β:Type}(x:Res α)(f:α->Res β):Res β:=match x with
 |.ok a=>f a
 |.er C fs=>.er C fs
 |.no =>.no
noncomputable def Res.wp{α:Type}(x:Res α)(Q:α->Prop)(E:Nat->List (Str×D)->Prop):Prop:=match x with
 |.ok a=>Q a
 |.er C fs=>E C fs
 |.no =>False
noncomputable def opt{α:Type}:Option α->Res α
 |some a=>.ok a
 |none=>.no
theorem qY{f:α->Res β}{Q:β->Prop}{E:Nat->List (Str×D)->Prop}:∀{x:Res α},(x.bind f).wp Q E↔x.wp (fun a=>(f a).wp Q E) E
 |.ok _=>Iff.rfl
 |.er _ _=>Iff.rfl
 |.no =>Iff.rfl
theorem qC{Q b :α->Prop}{E E' :Nat->List (Str×D)->Prop}(c:∀a,Q a->b a)(d:∀C fs,E C fs->E' C fs):∀{x:Res α},x.wp Q E->x.wp b E'
 |.ok a,h=>c a h
 |.er C fs,h=>d C fs h
 |.no,h=>h.elim
theorem qB{f:α->Res β}{Q:β->Prop}{E:Nat->List (Str×D)->Prop}:∀{x:Option α},((opt x).bind f).wp Q E->∃a,x=some a/\(f a).wp Q E
 |some a,h=>⟨a,rfl,h⟩
 |none,h=>h.elim
theorem vN{b:Bool}{x:Res α}{Q:α->Prop}{E:Nat->List (Str×D)->Prop}(h:(cond b x .no).wp Q E):b=true/\x.wp Q E:=by
 cases b with
 |true=>grind
 |false=>exact h.elim
structure StepX(H:Hp)(B W:Fp)(H' :Hp)(Y:Fp):Prop where
 same:Same (hide (hd2 B W) H) (hide (hd2 B Y) H')
 by_:∀a,B a≠0->H' a=H a
 dom:∀a,H' a=none->H a=none
noncomputable def ErAt(K:aQ)(c:Nat->aX)(F H:Hp)(fs:List (Str×D)):Option aX->Prop
 |none=>fs=[]
 |some dx=>∃a:List (Str×V),H dx=some (.xd a)/\a.map (·.1)=fs.map (·.1)/\DsAt K c F (a.map (·.2)) (fs.map (·.2))
noncomputable def erP(K:aQ)(c:Nat->aX)(E:XK)(H:Hp)(B W:Fp):Nat->List (Str×D)->Prop:=fun C fs=>∀a Y b,StepX H B W a Y->ErAt K c (hide (hd2 B Y) a) a fs b->E (.ref (c C)) b a
section
variable{K:aQ}{c:Nat->aX}{E:XK}{env env' :Ev}{σ σ' :L2.St}{H H' H2:Hp}{B W Y Y2 Z:Fp}{C:Nat}{fs:List (Str×D)}
theorem Step.x(a:Step env σ H B W env' σ' H' Y)(b:StepX H' B Y H2 Y2):StepX H B W H2 Y2:=⟨a.same.trans b.same,fun z h=>(b.by_ z h).trans (a.by_ z h),fun z h=>a.dom z (b.dom z h)⟩
theorem erP.back(a:Step env σ H B W env' σ' H' Y)(h:erP K c E H B W C fs):erP K c E H' B Y C fs:=fun b d e f g=>h b d e (a.x f) g
end
structure Got(K:aQ)(c:Nat->aX)(env:Ev)(σ:L2.St)(H:Hp)(B W:Fp)(env' :Ev)(H' :Hp)(W' Z:Fp)(o:O)(u:V):Prop where
 st:Step env σ H B W env' σ H' (hd2 W' Z)
 cf:Cf K c env' σ H' (hd2 B Z) W'
 at_:OAt K c (hide (hd2 (hd2 B Z) W') H') H' o u Z
structure GotD(K:aQ)(c:Nat->aX)(env:Ev)(σ:L2.St)(H:Hp)(B W:Fp)(env' :Ev)(H' :Hp)(W' :Fp)(x:D)(u:V):Prop where
 st:Step env σ H B W env' σ H' W'
 cf:Cf K c env' σ H' B W'
 at_:DAt K c (hide (hd2 B W') H') u x
noncomputable abbrev SE:=Ev->Res (O×Ev)
noncomputable abbrev SV:=Ev->Res (D×Ev)
def tE(K:aQ)(c:Nat->aX)(E:XK)(s:SE):TE:=fun σ H Q=>∃a B W,Cf K c a σ H B W/\(s a).wp (fun r=>∀u b d Z,Got K c a σ H B W r.2 b d Z r.1 u->Q u b) (erP K c E H B W)
noncomputable def tV(K:aQ)(c:Nat->aX)(E:XK)(s:SV):TE:=fun σ H Q=>∃a B W,Cf K c a σ H B W/\(s a).wp (fun r=>∀u b d,GotD K c a σ H B W r.2 b d r.1 u->Q u b) (erP K c E H B W)
structure ED(X:Cx)(c:Nat->aX)(E:XK)(e:Expr)(s:SE):Prop where
 h:PE X e (tE X.K c E s)
structure EV(X:Cx)(c:Nat->aX)(E:XK)(e:Expr)(s:SV):Prop where
 h:PE X e (tV X.K c E s)
theorem PE.imp{t t' :TE}(h:PE X e t)(k:∀σ H Q,t' σ H Q->t σ H Q):PE X e t' :=fun a s σ H Q I q=>h a s σ H Q I (k σ H Q q)
section
variable{K:aQ}{c:Nat->aX}{E:XK}{env env' env2:Ev}{σ σ' :L2.St}{H H' H2:Hp}{B W W' W2 Y Y2 Z:Fp}{o:O}{u:V}{x:D}
theorem Got.fz(g:Got K c env σ H B W env' H' W' Z o u):GotD K c env σ H B W env' H' W' (fzO o) u:=by
 have d:Same (hide (hd2 (hd2 B Z) W') H') (hide (hd2 B W') H'):=zB fun a z=>by dsimp only[hd2]at *;omega
 have b:Same (hide (hd2 B (hd2 W' Z)) H') (hide (hd2 B W') H'):=zB fun a z=>by dsimp only[hd2]at *;omega
 refine⟨⟨g.st.same.trans b,g.st.by_,fun a h=>g.st.new a (by dsimp only[hd2];omega),g.st.dom,fun a e f=>g.st.pin a e (by dsimp only[hd2];omega),g.st.io,g.st.len⟩,
  ⟨g.cf.at_.keep d fun _ _=>rfl,fun a=>by have:=g.cf.nd a;dsimp only[hd2]at this;omega,fun a h=>g.cf.hb a (by dsimp only[hd2];omega)⟩,g.at_.dat d fun a h=>vH ?_⟩
 have:=g.cf.nd a;dsimp only[hd2]at *;omega
theorem GotD.own(g:GotD K c env σ H B W env' H' W' x u):Got K c env σ H B W env' H' W' (fun _=>0) (.fz x) u:=by
 refine⟨g.st.cast (fun _=>rfl) (fun _=>rfl) fun _=>rfl,g.cf.cast (fun _=>rfl) fun _=>rfl,OAt.fz.mpr ⟨?_,fun _=>rfl⟩⟩;exact g.at_
end
section
variable{X:Cx}{c:Nat->aX}{E:XK}{e:Expr}
noncomputable def fzS(s:SE):SV:=fun a=>(s a).bind fun r=>.ok (fzO r.1,r.2)
noncomputable def owS(s:SV):SE:=fun a=>(s a).bind fun r=>.ok (.fz r.1,r.2)
theorem ev_e{s:SE}(h:ED X c E e s):EV X c E e (fzS s):=by
 refine⟨PE.imp h.h fun σ H Q=>?_⟩;rintro⟨a,B,W,b,w⟩;exact⟨a,B,W,b,qC (fun r q u d f Z g=>q u d f g.fz) (fun _ _ q=>q) (qY.mp w)⟩
theorem ed_v{s:SV}(h:EV X c E e s):ED X c E e (owS s):=by
 refine⟨PE.imp h.h fun σ H Q=>?_⟩;rintro⟨a,B,W,b,w⟩;exact⟨a,B,W,b,qC (fun r q u d f g=>q u d f _ g.own) (fun _ _ q=>q) (qY.mp w)⟩
end
inductive Hn where
 |d (x:D)|p (i:Nat) (π:List Nat)
noncomputable abbrev SP:=Ev->Option Hn
def HnAt(K:aQ)(c:Nat->aX)(F:Hp)(σ:L2.St)(H:Hp)(u:V):Hn->Prop
 |.d x=>DAt K c F u x
 |.p i π=>vC H σ i π=some u
noncomputable def tP(K:aQ)(c:Nat->aX)(s:SP):TE:=fun σ H Q=>∃a B W h,Cf K c a σ H B W/\s a=some h/\∀u,HnAt K c (hide (hd2 B W) H) σ H u h->Q u H
structure EP(X:Cx)(c:Nat->aX)(e:Expr)(s:SP):Prop where
 h:PE X e (tP X.K c s)
noncomputable def hnO(o:O)(i:Nat)(π:List Nat):Hn:=match o with
 |.fz d=>.d d
 |.ow _ _=>.p i π
noncomputable def hnV(env:Ev):Hn->Res (D×Ev)
 |.d x=>.ok (x,env)
 |.p i π=>(opt (getE env i π)).bind fun o=>.ok (fzO o,setE env i π (.fz (fzO o)))
noncomputable def pV(s:SP):SV:=fun a=>(opt (s a)).bind (hnV a)
theorem vWl{K:aQ}{h:Hn}{u:V}{Q:D×Ev->Prop}{f:Nat->List (Str×D)->Prop}(a:Cf K c env σ H B W)(b:HnAt K c (hide (hd2 B W) H) σ H u h)(w:(hnV env h).wp Q f):
  ∃x env' W',GotD K c env σ H B W env' H W' x u/\Q (x,env'):=by
 cases h with
 |d x=>exact⟨x,env,W,⟨.refl,a,b⟩,w⟩
 | p i π=>
   obtain⟨o,g,j⟩:=qB w;obtain⟨n,W',e,k,l,m⟩:=a.freeze g;have:vC H σ i π=some u:=b;rw[this]at e;cases e;exact⟨_,_,W',⟨m,k,l⟩,j⟩
theorem ev_p{s:SP}(h:EP X c e s):EV X c E e (pV s):=by
 refine⟨PE.imp h.h fun σ H Q=>?_⟩;rintro⟨a,B,W,b,w⟩;obtain⟨f,i,j⟩:=qB w;refine⟨a,B,W,f,b,i,fun u k=>?_⟩;obtain⟨x,d,l,g,q⟩:=vWl b k j;grind
noncomputable def rsv(env:Ev):Hn->Option D
 |.d x=>some x
 | .p i π=>match getE env i π with
   |some o=>some (fzO o)
   |none=>none
theorem wX{K:aQ}{h:Hn}{u:V}{x:D}(b:Cf K c env σ H B W)(a:HnAt K c (hide (hd2 B W) H) σ H u h)(e:rsv env h=some x):DAt K c H u x:=by
 cases h with
 |d y=>cases e;exact DAt.same qS a
 | p i π=>
   simp only[rsv]at e;cases e0:getE env i π with
   |none=>grind
   | some o=>
     rw[e0]at e;cases e;obtain⟨f,g,j⟩:=b.view e0;have:vC H σ i π=some u:=a;grind
inductive Vw(K:aQ)(c:Nat->aX)(F H:Hp):V->D->Prop
 |d {u:V} {x:D} (h:DAt K c F u x):Vw K c F H u x
 |nd {p:aX} {k:Kd} {vs:List V} {ds:List D} (h:NdAt K c H p k vs) (r:DsAt K c F vs ds):Vw K c F H (.ref p) (.nd k ds)
section
variable{K:aQ}{c:Nat->aX}{F F' H H' :Hp}{u:V}{x:D}
theorem Vw.un{k:Kd}{ds:List D}(s:Same F H)(h:Vw K c F H u (.nd k ds)):∃p vs,u=.ref p/\NdAt K c H p k vs/\DsAt K c F vs ds:=by
 generalize e:D.nd k ds=y at h;cases h with
 | d h=>
   subst e;obtain⟨p,vs,a,b,f⟩:=h.un;exact⟨p,vs,a,b.same s,f⟩
 |nd h r=>cases e;exact⟨_,_,rfl,h,r⟩
theorem Vw.same(s:Same F F')(h:Vw K c F H u x):Vw K c F' H u x:=by
 cases h with
 |d h=>exact .d (h.same s)
 |nd h r=>exact .nd h (r.same s)
theorem Vw.dat(s:Same F H)(h:Vw K c F H u x):DAt K c H u x:=by
 cases h with
 |d h=>exact h.same s
 |nd h r=>exact .of h (r.same s)
end
noncomputable def vZ5:O->O
 |.fz d=>.fz d
 |.ow k os=>.ow k (os.map fun o=>.fz (fzO o))
noncomputable def rsvB(env:Ev):Hn->Res (D×Ev)
 |.d x=>.ok (x,env)
 |.p i π=>(opt (getE env i π)).bind fun o=>.ok (fzO o,setE env i π (vZ5 o))
theorem vYe{K:aQ}{h:Hn}{u:V}{Q:D×Ev->Prop}{y:Nat->List (Str×D)->Prop}(e:Cf K c env σ H B W)(m:HnAt K c (hide (hd2 B W) H) σ H u h)(w:(rsvB env h).wp Q y):
  ∃x env' W',Step env σ H B W env' σ H W' /\Cf K c env' σ H B W' /\Vw K c (hide (hd2 B W') H) H u x/\Q (x,env'):=by
 cases h with
 |d x=>exact⟨x,env,W,.refl,e,.d m,w⟩
 | p i π=>
   obtain⟨o,A,n⟩:=qB w;obtain⟨G,C,R,r,g,f,s⟩:=e.place A;have:vC H σ i π=some u:=m;rw[this]at r;cases r;cases o with
   | fz d=>
     have q:=s H B W (.fz d) C (Same.refl _) f (fun _ _=>rfl) (OAt.fz.mpr g) e.nd e.hb;exact⟨d,_,W,⟨Same.refl _,fun _ _=>rfl,fun _ z=>.inl z,fun _ z=>z,fun _ _ _=>.refl,fun j o z=>⟨qJe z,rfl⟩,qQ8⟩,q,.d g.1,n⟩
   | ow k os=>
     obtain⟨p,t,E,rfl,b,F,d⟩:=g;have lo:∀a,E a≠0->B a+(one p a+R a)=0:=fun a z=>by have:=e.nd a;rw[f,d]at this;omega
     have l:Same (hide (hd2 B W) H) (hide (hd2 B fun a=>one p a+R a) H):=zB fun a z=>by dsimp only[hd2]at *;rw[f,d]at z;omega
     have v:DsAt K c (hide (hd2 B fun a=>one p a+R a) H) t (fzOs os):=F.dat l fun a z=>vH (lo a z)
     have q:=s H B (fun a=>one p a+R a) (.ow k (os.map fun o=>.fz (fzO o))) (one p) l (fun _=>rfl) (fun _ _=>rfl)
      (OAt.ow.mpr ⟨p,t,fun _=>0,rfl,b,by rw[show(os.map fun o=>O.fz (fzO o))=(fzOs os).map .fz by rw[qWz,bL];rfl,OsAt.fzs];exact⟨v,fun _=>rfl⟩,fun _=>rfl⟩) (fun a=>by have:=e.nd a;rw[f,d]at this;(try dsimp only);omega) e.hb
     refine⟨_,_,_,⟨l,fun _ _=>rfl,fun a z=>.inl ?_,fun _ z=>z,fun _ _ _=>.refl,fun j o z=>⟨qJe z,rfl⟩,qQ8⟩,q,?_,n⟩
     ·grind
     ·exact .nd (b.nd rfl) v
inductive Oe where
 |p (s:SP)|v (s:SV)
noncomputable def Oe.isP:Oe->Bool
 |.p _=>true
 |.v _=>false
noncomputable def Hn.st:Hn->Bool
 |.d _=>true
 |.p _ π=>π.isEmpty
noncomputable def oV:Oe->SV
 |.p s=>pV s
 |.v s=>s
noncomputable def evO:Oe->Ev->Res (Hn×Ev)
 |.p s,env=>(opt (s env)).bind fun h=>.ok (h,env)
 |.v s,env=>(s env).bind fun r=>.ok (.d r.1,r.2)
noncomputable def tO(K:aQ)(c:Nat->aX)(E:XK):Oe->TE
 |.p s=>tP K c s
 |.v s=>tV K c E s
structure OD(X:Cx)(c:Nat->aX)(E:XK)(e:Expr)(o:Oe):Prop where
 h:PE X e (tO X.K c E o)
structure GotH(K:aQ)(c:Nat->aX)(env:Ev)(σ:L2.St)(H:Hp)(B W:Fp)(o:Oe)(env' :Ev)(H' :Hp)(W' :Fp)(h:Hn)(u:V):Prop where
 st:Step env σ H B W env' σ H' W'
 cf:Cf K c env' σ H' B W'
 at_:HnAt K c (hide (hd2 B W') H') σ H' u h
 pu:o.isP=true->H' =H/\W' =W/\env' =env
noncomputable def zT(K:aQ)(c:Nat->aX)(F:Hp)(σ:L2.St)(H:Hp):List V->List Hn->Prop
 |[],[]=>True
 |u::us,h::hs=>HnAt K c F σ H u h/\zT K c F σ H us hs
 |_,_=>False
section
variable{K:aQ}{c:Nat->aX}{E:XK}{env env' env2:Ev}{σ σ' :L2.St}{H H' H2:Hp}{B W W' W2 Y Y2 Z:Fp}{o:Oe}{h:Hn}{u:V}{x:D}{Q:VK}
theorem qQ2{w:Hn×Ev->Prop}(a:Cf K c env σ H B W)(b:(evO o env).wp w (erP K c E H B W))(k:∀r,w r->∀u H' W',GotH K c env σ H B W o r.2 H' W' r.1 u->Q u H'):tO K c E o σ H Q:=by
 cases o with
 | p s=>
   obtain⟨d,e,f⟩:=qB b;exact⟨env,B,W,d,a,e,fun u h=>k _ f u H W ⟨.refl,a,h,fun _=>⟨rfl,rfl,rfl⟩⟩⟩
 |v s=>exact⟨env,B,W,a,qC (fun r q u H' W' g=>k _ q u H' W' ⟨g.st,g.cf,g.at_,fun z=>by cases z⟩) (fun _ _ q=>q) (qY.mp b)⟩
theorem HnAt.step(a:HnAt K c (hide (hd2 B W) H) σ H u h)(g:Same (hide (hd2 B W) H) (hide (hd2 B W') H'))(hs:h.st=true):HnAt K c (hide (hd2 B W') H') σ H' u h:=by
 cases h with
 |d x=>exact DAt.same g a
 | p i π=>
   cases π with
   | nil=>
     have b :vC H σ i []=some u:=a;show vC H' σ i []=some u;unfold vC at b ⊢;cases e:σ[i]? with
     |none=>rw[e]at b;cases b
     | some v=>
       rw[e]at b;cases v with
       |none=>cases b
       |some v=>simpa[walk] using b
   |cons j π=>cases hs
theorem GotH.next{o2:Oe}{h2:Hn}{d:V}(a:GotH K c env σ H B W o env' H' W' h u)(b:GotH K c env' σ H' B W' o2 env2 H2 W2 h2 d)(hs:(h.st || o2.isP)=true):HnAt K c (hide (hd2 B W2) H2) σ H2 u h:=by
 cases e:h.st with
 |true=>exact a.at_.step b.st.same e
 | false=>
   rw[e]at hs;obtain⟨f,g,_⟩:=b.pu (by simpa using hs);subst f g;exact a.at_
end
section
variable{X:Cx}{c:Nat->aX}{E:XK}{e a b:Expr}{o oa ob:Oe}
theorem od_v{s:SV}(h:EV X c E e s):OD X c E e (.v s):=⟨h.h⟩
theorem od_e{s:SE}(h:ED X c E e s):OD X c E e (.v (fzS s)):=⟨(ev_e h).h⟩
theorem OD.val(h:OD X c E e o):EV X c E e (oV o):=by
 cases o with
 |p s=>exact ev_p ⟨h.h⟩
 |v s=>exact⟨h.h⟩
theorem OD.ow(h:OD X c E e o):ED X c E e (owS (oV o)):=ed_v h.val
end
noncomputable def oC(d:D):Oe:=.p fun _=>some (.d d)
noncomputable def vXp(i:Nat):SP:=fun a=>match a[i]? with
 |some (.s _ o)=>some (hnO o i [])
 |_=>none
noncomputable def oN(i:Nat):Oe:=.p (vXp i)
section
variable{X:Cx}{c:Nat->aX}{E:XK}{e:Expr}{pos:Pos}
theorem od_c{d:D}(h:PE X e (tC v))(k:∀F,DAt X.K c F v d):OD X c E e (oC d):=by
 refine⟨PE.imp h fun σ H Q=>?_⟩;rintro⟨a,B,W,f,g,b,q⟩;cases b;exact q v (k _)
theorem qV{i:Int}:OD X c E (.Constant (.int i) j pos) (oC (.int i)):=od_c jVp fun _=>.int i
theorem qW{x:Str}:OD X c E (.Constant (.str x) j pos) (oC (.str x)):=od_c jVl fun _=>.str x
theorem qZc{x:Bool}:OD X c E (.Constant (.bool x) j pos) (oC (.bl x)):=od_c jJk fun _=>.bl x
theorem zZh{K:aQ}{F:Hp}{o:O}{u:V}(h:OAt K c F H o u Z)(w:vC H σ i π=some u):HnAt K c F σ H u (hnO o i π):=by
 cases o with
 |fz d=>rw[OAt.fz]at h;exact h.1
 |ow k os=>exact w
theorem zYk(h:PE X e (tVar i)):OD X c E e (oN i):=by
 refine⟨PE.imp h fun σ H Q=>?_⟩;rintro⟨b,B,W,d,g,a,q⟩;simp only[vXp]at a;cases e1:b[i]? with
 |none=>grind
 | some s=>
   rw[e1]at a;cases s with
   |un=>cases a
   | s io o=>
     cases a;obtain⟨x,j,R,d,f,k,l⟩:=g.focus e1;cases x with
     |none=>exact f.elim
     |some v=>exact⟨v,d,q v (zZh f (by unfold vC;rw[d];simp[walk]))⟩
end
noncomputable def PrS1(K:aQ)(c:Nat->aX)(r:V->Hp->VK->Prop)(f:D->Option D):Prop:=∀(u:V) (H:Hp) (x z:D) (Q:VK),DAt K c H u x->f x=some z->(∀v,(∀F,DAt K c F v z)->Q v H)->r u H Q
noncomputable def PrS2(K:aQ)(c:Nat->aX)(r:R2)(f:D->D->Option D):Prop:=∀(u w:V) (H:Hp) (x y z:D) (Q:VK),DAt K c H u x->DAt K c H w y->f x y=some z->(∀v,(∀F,DAt K c F v z)->Q v H)->r u w H Q
noncomputable def sp1(f:D->Option D)(a:SP):SP:=fun b=>(a b).bind fun h=>(rsv b h).bind fun x=>(f x).bind fun z=>some (.d z)
noncomputable def sv1(f:D->Option D)(a:Oe):SV:=fun b=>(evO a b).bind fun r=>(opt (rsv r.2 r.1)).bind fun x=>(opt (f x)).bind fun z=>.ok (z,r.2)
noncomputable def o1(f:D->Option D):Oe->Oe
 |.p s=>.p (sp1 f s)
 |a=>.v (sv1 f a)
noncomputable def sp2(f:D->D->Option D)(a b:SP):SP:=fun c=>(a c).bind fun h=>(b c).bind fun e =>(rsv c h).bind fun x=>(rsv c e).bind fun y=>(f x y).bind fun z=>some (.d z)
noncomputable def sv2(f:D->D->Option D)(a b:Oe):SV:=fun d=>(evO a d).bind fun r=>(evO b r.2).bind fun c =>cond (r.1.st || b.isP) ((opt (rsv c.2 r.1)).bind fun x=>(opt (rsv c.2 c.1)).bind fun y=>(opt (f x y)).bind fun z=>.ok (z,c.2)) .no
noncomputable def o2(f:D->D->Option D)(a b:Oe):Oe:=match a,b with
 |.p s,.p t=>.p (sp2 f s t)
 |a,b=>.v (sv2 f a b)
section
variable{X:Cx}{K:aQ}{c:Nat->aX}{E:XK}{e a b:Expr}{pos:Pos}{oa ob:Oe}
theorem bnd{x:Option α}{f:α->Option β}{b:β}(h:x.bind f=some b):∃a,x=some a/\f a=some b:=cU.mp h
theorem zVd{r:V->Hp->VK->Prop}{f:D->Option D}(j:PrS1 K c r f)(h:tO K c E (o1 f oa) σ H Q):tUn r (tO K c E oa) σ H Q:=by
 cases oa with
 | p s=>
   obtain⟨a,B,W,J,b,l,q⟩:=h;obtain⟨ha,m,n⟩:=bnd l;obtain⟨x,d,t⟩:=bnd n;obtain⟨z,e,y⟩:=bnd t;cases y;exact⟨a,B,W,ha,b,m,fun u A=>j u H x z Q (wX b A d) e fun v i=>q v (i _)⟩
 | v s=>
   obtain⟨a,B,W,b,w⟩:=h;refine qQ2 (o:=.v s) b (qY.mp w) fun r C u k F g=>?_
   obtain⟨x,d,G⟩:=qB C;obtain⟨z,e,I⟩:=qB G;exact j u k x z Q (wX g.cf g.at_ d) e fun v i=>I v k F ⟨g.st,g.cf,i _⟩
theorem zVt{r:R2}{f:D->D->Option D}(b:PrS2 K c r f)(h:tV K c E (sv2 f oa ob) σ H Q):tOp r (tO K c E oa) (tO K c E ob) σ H Q:=by
 obtain⟨d,B,W,e,w⟩:=h;refine qQ2 e (qY.mp w) fun F g u G I g1=>?_
 refine qQ2 g1.cf (qC (fun _ q=>q) (fun C fs i=>i.back g1.st) (qY.mp g)) fun J j v a k g2=>?_
 obtain⟨hs,l⟩:=vN j;obtain⟨x,m,n⟩:=qB l;obtain⟨y,o,p⟩:=qB n;obtain⟨z,s,t⟩:=qB p;exact b u v a x y z Q (wX g2.cf (g1.next g2 hs) m) (wX g2.cf g2.at_ o) s fun v A=>t v a k ⟨g1.st.trans g2.st,g2.cf,A _⟩
theorem zVc{r:R2}{f:D->D->Option D}(d:PrS2 K c r f)(h:tO K c E (o2 f oa ob) σ H Q):tOp r (tO K c E oa) (tO K c E ob) σ H Q:=by
 cases oa with
 |v s=>exact zVt d h
 | p s=>
   cases ob with
   |v t=>exact zVt d h
   | p t=>
     obtain⟨a,B,W,J,b,g,q⟩:=h;obtain⟨ha,i,j⟩:=bnd g;obtain⟨hb,k,l⟩:=bnd j;obtain⟨x,m,n⟩:=bnd l;obtain⟨y,o,A⟩:=bnd n;obtain⟨z,C,e⟩:=bnd A;cases e;exact⟨a,B,W,ha,b,i,fun u F=>⟨a,B,W,hb,b,k,fun w G=>d u w H x y z Q (wX b F m) (wX b G o) C fun v I=>q v (I _)⟩⟩
theorem jJn{op:UnaryOp}{r:V->Hp->VK->Prop}{f:D->Option D}(b:UnR X (unaryOp op) r)(d:PrS1 X.K c r f)(ha:OD X c E a oa):OD X c E (.UnaryOp op a pos) (o1 f oa):=
 ⟨PE.imp (jJh b ha.h) fun _ _ _ h=>zVd d h⟩
theorem qYr{op:Operator}{r:R2}{f:D->D->Option D}(d:OpR X (binaryOp op) r)(e:PrS2 X.K c r f)(ha:OD X c E a oa)(hb:OD X c E b ob):OD X c E (.BinOp a op b pos) (o2 f oa ob):=
 ⟨PE.imp (zVk d ha.h hb.h) fun _ _ _ h=>zVc e h⟩
theorem qW7{op:CmpOp}{r:R2}{f:D->D->Option D}(d:OpR X (dX op) r)(e:PrS2 X.K c r f)(ha:OD X c E a oa)(hb:OD X c E b ob)(g:behindInMarks op b=false):OD X c E (.Compare a [op] [b] pos) (o2 f oa ob):=
 ⟨PE.imp (zX6 d ha.h hb.h g) fun _ _ _ h=>zVc e h⟩
end
noncomputable abbrev ST:=Ev->Res (Bool×Ev)
noncomputable def tT(K:aQ)(c:Nat->aX)(E:XK)(s:ST):TT:=fun σ H Q=>∃a B W,Cf K c a σ H B W/\(s a).wp (fun r=>∀b d,Step a σ H B W r.2 σ b d ->Cf K c r.2 σ b B d ->Q r.1 b) (erP K c E H B W)
structure TD(X:Cx)(c:Nat->aX)(E:XK)(e:Expr)(s:ST):Prop where
 h:PT X e (tT X.K c E s)
structure WD(X:Cx)(c:Nat->aX)(E:XK)(e:Expr)(s:ST):Prop where
 h:PW X e (tT X.K c E s)
theorem PT.imp{t:TT}(h:PT X e t)(k:∀σ H Q,t' σ H Q->t σ H Q):PT X e t' :=fun a s σ H Q I q=>h a s σ H Q I (k σ H Q q)
theorem PW.imp{t:TT}(h:PW X e t)(k:∀σ H Q,t' σ H Q->t σ H Q):PW X e t' :=fun b a s σ H Q I q=>h b a s σ H Q I (k σ H Q q)
noncomputable def blOf:D->Option Bool
 |.bl b=>some b
 |_=>none
theorem zKh{K:aQ}{F:Hp}{u:V}{x:D}{b:Bool}(h:DAt K c F u x)(e:blOf x=some b):u=.bl b:=by
 cases h <;> cases e
 rfl
noncomputable def asB(o:Oe):ST:=fun a=>(oV o a).bind fun r=>(opt (blOf r.1)).bind fun b=>.ok (b,r.2)
theorem vWg{K:aQ}{o:Oe}(h:tV K c E (oV o) σ H Q):tO K c E o σ H Q:=by
 cases o with
 |v s=>exact h
 | p s=>
   obtain⟨a,B,W,b,w⟩:=h;obtain⟨e,f,i⟩:=qB w;refine⟨a,B,W,e,b,f,fun u j=>?_⟩;obtain⟨x,d,k,g,q⟩:=vWl b j i;grind
theorem vZ0{K:aQ}{o:Oe}{Q:Bool->Hp->Prop}(h:tT K c E (asB o) σ H Q):tO K c E o σ H fun x H1=>∃k,x=.bl k/\Q k H1:=by
 obtain⟨a,B,W,d,w⟩:=h;refine vWg ⟨a,B,W,d,qC (fun m e u H1 f g=>?_) (fun _ _ i=>i) (qY.mp w)⟩;obtain⟨b,j,l⟩:=qB e;exact⟨b,zKh g.at_ j,l H1 f g.st g.cf⟩
section
variable{X:Cx}{c:Nat->aX}{E:XK}{e a b d:Expr}{rest:List Expr}{pos:Pos}{sa sb:ST}{oa ob oc:Oe}{o:Oe}
theorem qJz(h:OD X c E e o)(a:∀whole,isTrue e X.env whole=(do let v ←whole;standAt e.pos;holding [v] (truthy v)):=by intro _;rfl):TD X c E e (asB o):=
 ⟨PT.imp (jQ4 h.h a) fun _ _ _ h=>vZ0 h⟩
theorem qZf{op:CmpOp}{r:R2}{f:D->D->Option D}(d:OpR X (dX op) r)(e:PrS2 X.K c r f)(ha:OD X c E a oa)(hb:OD X c E b ob)(g:behindInMarks op b=false):TD X c E (.Compare a [op] [b] pos) (asB (o2 f oa ob)):=
 ⟨PT.imp (zXp d ha.h hb.h g) fun _ _ _ h=>zVc e (vZ0 h)⟩
noncomputable def bAnd(s t:ST):ST:=fun a=>(s a).bind fun r=>cond r.1 (t r.2) (.ok (false,r.2))
noncomputable def bOr(s t:ST):ST:=fun a=>(s a).bind fun r=>cond r.1 (.ok (true,r.2)) (t r.2)
noncomputable def bNot(s:ST):ST:=fun a=>(s a).bind fun r=>.ok (!r.1,r.2)
theorem td_w(h:WD X c E e sa):TD X c E e sa:=⟨PW.pt h.h⟩
theorem qJc(h:TD X c E a sa):WD X c E (.BoolOp .And [a] pos) sa:=⟨zXm h.h⟩
theorem qJy(h:TD X c E a sa):WD X c E (.BoolOp .Or [a] pos) sa:=⟨jQz h.h⟩
theorem vX1{K:aQ}{s:ST}{Q:Bool->Hp->Prop}(st:Step env σ H B W env' σ' H' W')(f:Cf K c env' σ' H' B W')(h:(s env').wp (fun r=>∀a b,Step env σ H B W r.2 σ' a b->Cf K c r.2 σ' a B b->Q r.1 a) (erP K c E H B W)):tT K c E s σ' H' Q:=
 ⟨env',B,W',f,qC (fun r q a b d e=>q a b (st.trans d) e) (fun C fs g=>g.back st) h⟩
theorem qZe(ha:TD X c E a sa)(hb:WD X c E (.BoolOp .And (b::rest) pos) sb):WD X c E (.BoolOp .And (a::b::rest) pos) (bAnd sa sb):=by
 refine⟨PW.imp (jQ0 ha.h hb.h) fun σ H Q=>?_⟩;rintro⟨f,B,W,i,w⟩;refine⟨f,B,W,i,qC (fun j g l m d e=>?_) (fun _ _ n=>n) (qY.mp w)⟩;obtain⟨k,o⟩:=j;cases k with
 |false=>exact g l m d e
 |true=>exact vX1 d e g
theorem qXt(ha:TD X c E a sa)(hb:WD X c E (.BoolOp .Or (b::rest) pos) sb):WD X c E (.BoolOp .Or (a::b::rest) pos) (bOr sa sb):=by
 refine⟨PW.imp (jJd ha.h hb.h) fun σ H Q=>?_⟩;rintro⟨f,B,W,i,w⟩;refine⟨f,B,W,i,qC (fun j g l m d e=>?_) (fun _ _ n=>n) (qY.mp w)⟩;obtain⟨k,o⟩:=j;cases k with
 |true=>exact g l m d e
 |false=>exact vX1 d e g
theorem vVi(ha:TD X c E a sa):TD X c E (.UnaryOp .Not a pos) (bNot sa):=by
 refine⟨PT.imp (jQ5 ha.h) fun σ H Q=>?_⟩;rintro⟨b,B,W,d,w⟩;exact⟨b,B,W,d,qC (fun g e=>e) (fun _ _ f=>f) (qY.mp w)⟩
end
section
variable{X:Cx}{c:Nat->aX}{E:XK}{e a b d:Expr}{rest:List Expr}{pos:Pos}{sa sb:ST}{oa ob oc:Oe}{o:Oe}
noncomputable def oAnd(s t:Oe):Oe:=.v fun a=>(asB s a).bind fun r=>cond r.1 (oV t r.2) (.ok (.bl false,r.2))
noncomputable def oOr(s t:Oe):Oe:=.v fun a=>(asB s a).bind fun r=>cond r.1 (.ok (.bl true,r.2)) (oV t r.2)
noncomputable def oNot(s:Oe):Oe:=.v fun a=>(asB s a).bind fun r=>.ok (.bl (!r.1),r.2)
theorem vX0{K:aQ}{s:SV}(st:Step env σ H B W env' σ H' W')(d:Cf K c env' σ H' B W')(h:(s env').wp (fun r=>∀u a b,GotD K c env σ H B W r.2 a b r.1 u->Q u a) (erP K c E H B W)):tV K c E s σ H' Q:=
 ⟨env',B,W',d,qC (fun r q u a b g=>q u a b ⟨st.trans g.st,g.cf,g.at_⟩) (fun C fs e=>e.back st) h⟩
theorem vVn{op}(h:OD X c E a o):OD X c E (.BoolOp op [a] pos) o:=⟨jVm h.h⟩
theorem vVo(ha:OD X c E a oa)(hb:OD X c E (.BoolOp .And (b::rest) pos) ob):OD X c E (.BoolOp .And (a::b::rest) pos) (oAnd oa ob):=by
 refine⟨PE.imp (jVr ha.h hb.h) fun σ H Q=>?_⟩;rintro⟨g,B,W,j,w⟩;refine vZ0 (Q:=fun k f=>if k=true then tO X.K c E ob σ f Q else Q (.bl false) f) ⟨g,B,W,j,qC (fun l i f m d e=>?_) (fun _ _ n=>n) (qY.mp w)⟩;obtain⟨k,o⟩:=l;cases k with
 |false=>exact i _ f m ⟨d,e,.bl false⟩
 |true=>exact vWg (vX0 d e i)
theorem jJo(ha:OD X c E a oa)(hb:OD X c E (.BoolOp .Or (b::rest) pos) ob):OD X c E (.BoolOp .Or (a::b::rest) pos) (oOr oa ob):=by
 refine⟨PE.imp (jJi ha.h hb.h) fun σ H Q=>?_⟩;rintro⟨g,B,W,j,w⟩;refine vZ0 (Q:=fun k f=>if k=true then Q (.bl true) f else tO X.K c E ob σ f Q) ⟨g,B,W,j,qC (fun l i f m d e=>?_) (fun _ _ n=>n) (qY.mp w)⟩;obtain⟨k,o⟩:=l;cases k with
 |true=>exact i _ f m ⟨d,e,.bl true⟩
 |false=>exact vWg (vX0 d e i)
theorem jV0(ha:OD X c E a oa):OD X c E (.UnaryOp .Not a pos) (oNot oa):=by
 refine⟨PE.imp (jVn ha.h) fun σ H Q=>?_⟩;rintro⟨b,B,W,g,w⟩;exact vZ0 (Q:=fun k d=>Q (.bl (!k)) d) ⟨b,B,W,g,qC (fun m i d j e f=>i _ d j ⟨e,f,.bl _⟩) (fun _ _ l=>l) (qY.mp w)⟩
theorem Got.back{K:aQ}{a:Ev}{b:Hp}{d:Fp}{o:O}{u:V}(st:Step env σ H B W env' σ H' W')(g:Got K c env' σ H' B W' a b d Z o u):Got K c env σ H B W a b d Z o u:=⟨st.trans g.st,g.cf,g.at_⟩
end
noncomputable def fidx(f:Str):List Str->Option Nat
 |[]=>none
 |g::r=>if f=g then some 0 else(fidx f r).map (· + 1)
theorem qVq{f:Str}:∀{fs:List Str} {vs:List V} {j:Nat} {v:V},fidx f fs=some j->vs[j]?=some v->(fs.zip vs).lookup f=some v
 |[],vs,j,v,h,e=>by cases h
 |g::r,[],j,v,h,e=>by simp at e
 | g::r,w::vs,j,v,h,e=>by
   rw[cB];simp only[fidx]at h;by_cases q:f=g
   ·rw [if_pos q] at h;cases h;cases e;rw[List.lookup,show(f == g)=true by rw[q];exact beq_self_eq_true _]
   ·rw [if_neg q] at h;obtain⟨i,a,rfl⟩:=bX.mp h;rw[List.lookup,show(f == g)=false from beq_eq_false_iff_ne.mpr q];exact qVq a (by simpa using e)
noncomputable def kidx{κ:Type}[DecidableEq κ](k:κ):List κ->Option Nat
 |[]=>none
 |g::r=>if g=k then some 0 else(kidx k r).map (· + 1)
theorem qZn{k:Key}:∀{ks:List Key} {vs:List V},ks.length=vs.length->valV (ks.zip vs) k=(kidx k ks).bind fun j=>vs[j]?
 |[],[],_=>rfl
 | g::r,w::vs,h=>by
   rw[cB];simp only[kidx];by_cases q:g=k
   ·rw[if_pos q,qWv q];rfl
   ·rw [if_neg q,qWw q,qZn (Nat.succ.inj h)];cases kidx k r with
    |none=>rfl
    |some i=>rfl
 |[],_::_,h=>by cases h
 |_::_,[],h=>by cases h
theorem vV4[DecidableEq κ]{k:κ}:∀{ks:List κ} {j:Nat},kidx k ks=some j->j<ks.length/\ks[j]?=some k
 |[],j,h=>by cases h
 | g::r,j,h=>by
   simp only[kidx]at h;by_cases q:g=k
   ·rw[if_pos q]at h;cases h;exact⟨Nat.succ_pos _,by rw[q];rfl⟩
   ·rw [if_neg q] at h;obtain⟨i,a,rfl⟩:=bX.mp h;obtain⟨b,c⟩:=vV4 a;exact⟨Nat.succ_lt_succ b,by simpa using c⟩
theorem vQw:∀{π:List Nat} {v u w:V} {j:Nat},walk H v π=some u->walk H u [j]=some w->walk H v (π ++ [j])=some w
 | [],v,u,w,j,h,k=>by
   have:v=u:=by cases v <;> simpa[walk] using h
   rw[this];exact k
 | i::π,v,u,w,j,h,k=>by
   cases v with
   | ref p=>
     rw[List.cons_append];simp only[walk]at h⊢;cases e:H p with
     |none=>rw[e]at h;cases h
     | some o=>
       rw[e]at h;dsimp only at h⊢;cases e2:(kids o)[i]? with
       |none=>rw[e2]at h;cases h
       | some v=>
         rw[e2]at h;exact vQw h k
   |_=>cases h
theorem vWw{u w:V}(h:vC H σ i π=some u)(k:walk H u [j]=some w):vC H σ i (π ++ [j])=some w:=by
 unfold vC at h⊢;cases e:σ[i]? with
 |none=>rw[e]at h;cases h
 | some x=>
   rw[e]at h;cases x with
   |none=>cases h
   |some v=>exact vQw h k
theorem zZc{K:aQ}{F:Hp}{k:Kd}{os:List O}{o:O}{p:aX}(w:vC H σ i π=some (.ref p))(b:OwAt c H p k vs)(r:OsAt K c F H os vs Z)(e:os[j]?=some o):
  ∃v,vs[j]?=some v/\HnAt K c F σ H v (hnO o i (π ++ [j])):=by
 obtain⟨v,h,R,a,d,l,m⟩:=r.focus e;obtain⟨n,f,g⟩:=b.kids;refine⟨v,a,zZh d (vWw w ?_)⟩;rw[qXb f (by rw[g];exact a)];simp[walk]
noncomputable def fldD(cs:List Nat)(f:Str):D->Option D
 |.nd (.obj C fs) ds=>cond (cs.contains C) ((fidx f fs).bind fun j=>ds[j]?) none
 |_=>none
noncomputable def zK9(env:Ev)(cs:List Nat)(f:Str):Hn->Option Hn
 |.d x=>(fldD cs f x).map .d
 | .p i π=>match getE env i π with
   |some (.ow (.obj C fs) os)=>cond (cs.contains C) ((fidx f fs).bind fun j=>(os[j]?).bind fun o=>some (hnO o i (π ++ [j]))) none
   |_=>none
noncomputable def oFld(cs:List Nat)(f:Str):Oe->Oe
 |.p s=>.p fun a=>(s a).bind (zK9 a cs f)
 |.v s=>.v fun a=>(s a).bind fun r=>(opt (fldD cs f r.1)).bind fun x=>.ok (x,r.2)
noncomputable def xP(K:aQ)(c:Nat->aX)(cs:List Nat)(f:Str):Prop:=∀C∈cs,Cls K (c C)/\xB K (c C) f
theorem vS{b:Bool}{x:Option α}{y:α}(h:cond b x none=some y):b=true/\x=some y:=by
 grind
theorem has_mem{cs:List Nat}(h:cs.contains C=true):C∈cs:=List.contains_iff_mem.mp h
section
variable{X:Cx}{K:aQ}{c:Nat->aX}{E:XK}{e a b:Expr}{pos:Pos}{o oa ob:Oe}{f:Str}{cs:List Nat}
theorem vY1{F:Hp}{u:V}{x y:D}(ok:xP K c cs f)(h:DAt K c F u x)(e:fldD cs f x=some y):∃a C b fs v,u=.ref a/\F a=some (.ins C b fs)/\Cls K C/\xB K C f/\fs.lookup f=some v/\DAt K c F v y:=by
 unfold fldD at e;split at e
 ·rename_i C fs ds;obtain⟨d,g⟩:=vS e;obtain⟨j,i,k⟩:=bnd g;obtain⟨p,q,rfl,⟨r,b,l⟩,m⟩:=h.un;obtain⟨v,g1,g2⟩:=m.get k;obtain⟨n,o⟩:=ok C (has_mem d);exact⟨p,_,b,_,v,rfl,l,n,o,qVq i g1,g2⟩
 ·cases e
theorem vB(ok:xP X.K c cs f)(h:OD X c E e o)(hb:attributeBase e f X.env (eval e X.env)=eval e X.env:=by rfl):OD X c E (.Attribute e f pos) (oFld cs f o):=by
 refine⟨PE.imp (jVq h.h hb) fun σ H Q q=>?_⟩;cases o with
 | p s=>
   obtain⟨env,B,W,h1,z,O,q⟩:=q;obtain⟨M,P,l⟩:=bnd O;refine⟨env,B,W,M,z,P,fun u N=>?_⟩;cases M with
   | d x=>
     obtain⟨y,m,rfl⟩:=bX.mp l;obtain⟨a,C,n,fs,v,rfl,F,G,I,J,L⟩:=vY1 ok N m;exact⟨a,C,n,fs,v,rfl,qS _ _ F,G,I,J,q v L⟩
   | p i π=>
     have t :vC H σ i π=some u:=N;simp only[zK9]at l;cases m:getE env i π with
     |none=>rw[m]at l;cases l
     | some o1=>
       rw[m]at l;cases o1 with
       |fz d=>cases l
       | ow k os=>
         cases k with
         | obj C fs=>
           obtain⟨S,T⟩:=vS l;obtain⟨j,U,V⟩:=bnd T;obtain⟨o2,Y,Z⟩:=bnd V;cases Z;obtain⟨v1,Z1,R,A,D,w3,w4⟩:=z.place m;rw[t]at A;cases A;rw[OAt.ow]at D;obtain⟨p,vs,Z',rfl,b,cc,d⟩:=D;obtain⟨v,g1,g2⟩:=zZc t b cc Y;obtain⟨b1,n,b2⟩:=b;obtain⟨k1,k2⟩:=ok C (has_mem S);exact⟨p,_,n,_,v,rfl,b2,k1,k2,qVq U g1,q v g2⟩
         |_=>cases l
 | v s=>
   obtain⟨env,B,W,z,w⟩:=q;refine⟨env,B,W,z,qC (fun r A u H1 W1 g=>?_) (fun _ _ he=>he) (qY.mp w)⟩;obtain⟨y,m,D⟩:=qB A;obtain⟨a,C,n,fs,v,rfl,F,G,I,J,L⟩:=vY1 ok g.at_ m;exact⟨a,C,n,fs,v,rfl,qS _ _ F,G,I,J,D v H1 W1 ⟨g.st,g.cf,L⟩⟩
end
noncomputable def qV7:D->Option Key
 |.int i=>some (.inl i)
 |.str x=>some (.inr x)
 |_=>none
theorem qZu{K:aQ}{F:Hp}{u:V}{x:D}{k:Key}(h:DAt K c F u x)(e:qV7 x=some k):u=kV k:=by
 cases h <;> cases e <;> rfl
noncomputable def yJ:D->Option Int
 |.int i=>some i
 |_=>none
theorem zR{K:aQ}{F:Hp}{u:V}{x:D}{i:Int}(h:DAt K c F u x)(e:yJ x=some i):u=.int i:=by
 cases h <;> cases e <;> rfl
noncomputable def zVe:D->Option Str
 |.str i=>some i
 |_=>none
theorem qKb{K:aQ}{F:Hp}{u:V}{x:D}{i:Str}(h:DAt K c F u x)(e:zVe x=some i):u=.str i:=by
 cases h <;> cases e <;> rfl
noncomputable def idxK(n:Nat)(y:D):Kd->Option Nat
 |.lst =>(yJ y).bind fun i=>ixN n i
 |.tup =>(yJ y).bind fun i=>ixN n i
 |.dct ks=>(qV7 y).bind fun k=>kidx k ks
 |_=>none
noncomputable def ixD(x y:D):Option D:=match x with
 |.nd k ds=>(idxK ds.length y k).bind fun j=>ds[j]?
 |.str z=>(yJ y).bind fun i=>(atI z.cps.toList i).bind fun a=>cond (decide (z.length<=aS)) (some (.str ⟨#[a]⟩)) none
 |_=>none
noncomputable def hnIx(env:Ev)(y:D):Hn->Option Hn
 |.d x=>(ixD x y).map .d
 | .p i π=>match getE env i π with
   |some (.ow k os)=>(idxK os.length y k).bind fun j=>(os[j]?).bind fun o=>some (hnO o i (π ++ [j]))
   |_=>none
noncomputable def oIx(a b:Oe):Oe:=match a,b with
 |.p s,.p t=>.p fun c=>(s c).bind fun h=>(t c).bind fun e =>(rsv c e).bind fun y=>hnIx c y h
 |a,b=>.v fun c=>(evO a c).bind fun r=>(evO b r.2).bind fun d =>cond r.1.st ((opt (rsv d.2 d.1)).bind fun y=>(opt (hnIx d.2 y r.1)).bind fun h=>hnV d.2 h) .no
noncomputable def rDGet:R2:=fun x y H Q=>∃a v,x=.ref a/\DGet H a y (some v)/\Q v H
theorem zYt(f:X.A.units+1<eA):IxR X rDGet:=by
 intro b c e s σ H x y v u Q I rx ry h hs;obtain⟨a,z,rfl,g,q⟩:=h;cases rx;exact tail_any (vJ8 I g) PySem.F.slot_dict_getitem.lookup (zQt f I g ry fun j k i d =>⟨z,H,i,d,q⟩) hs
noncomputable def rIxA(K:aQ):R2:=fun x y H Q=>rIx K x y H Q\/rDGet x y H Q
theorem jZd(a:X.A.units+1<eA):IxR X (rIxA X.K):=jZb.or (zYt a)
section
variable{X:Cx}{K:aQ}{c:Nat->aX}{E:XK}{e a b:Expr}{pos:Pos}{o oa ob:Oe}
theorem zZt{xs:List α}{i:Int}{v:α}(h:ixN xs.length i=some j)(e:xs[j]?=some v):atI xs i=some v:=by
 unfold atI;rw[h];exact e
theorem vWq{a:aX}{kvs:List (Key×V)}{k:Key}(e:Rd H a (.dK kvs)):DGet H a (kV k) (valV kvs k):=.inl ⟨kvs,k,e,rfl,rfl⟩
theorem zK4{p:aX}{w:V}{k:Kd}{y:D}(h:NdAt K c H p k vs)(g:vs.length=n)(d:DAt K c H w y)(e:idxK n y k=some j)(f:vs[j]?=some v)(q:Q v H):rIxA K (.ref p) w H Q:=by
 subst g;cases k with
 | lst=>
   obtain⟨i,a,b⟩:=bnd e;exact .inl (.inl ⟨p,vs,i,v,rfl,zR d a,h,zZt b f,q⟩)
 | tup=>
   obtain⟨i,a,b⟩:=bnd e;exact .inl (.inr (.inl ⟨p,vs,i,v,rfl,zR d a,h,zZt b f,q⟩))
 | dct ks=>
   obtain⟨k,a,b⟩:=bnd e;refine .inr ⟨p,v,rfl,?_,q⟩;rw[qZu d a];have:=vWq (k:=k) h.2.2;rw[qZn h.1,b]at this;rw[←f];exact this
 |_=>cases e
theorem jZf{F:Hp}{u w:V}{x y z:D}(s:Same F H)(h:DAt K c F u x)(d:DAt K c H w y)(e:ixD x y=some z)(q:∀v,DAt K c F v z->Q v H):rIxA K u w H Q:=by
 unfold ixD at e;split at e
 ·obtain⟨j,a,b⟩:=bnd e;obtain⟨p,t,rfl,g,f⟩:=h.un;obtain⟨v,g1,g2⟩:=f.get b;exact zK4 (g.same s) f.len d a g1 (q v g2)
 ·rename_i k;obtain⟨i,a,b⟩:=bnd e;obtain⟨l,m,n⟩:=bnd b;obtain⟨o,r⟩:=vS n;cases r;exact .inl (.inr (.inr ⟨k,i,l,qKb h rfl,zR d a,of_decide_eq_true o,m,q _ (.str _)⟩))
 ·cases e
theorem vYx{h h' :Hn}{u w:V}{y:D}(n:Cf K c env σ H B W)(f:HnAt K c (hide (hd2 B W) H) σ H u h)(g:DAt K c H w y)(e:hnIx env y h=some h')(q:∀v,HnAt K c (hide (hd2 B W) H) σ H v h' ->Q v H):rIxA K u w H Q:=by
 cases h with
 | d x=>
   obtain⟨z,o,rfl⟩:=bX.mp e;exact jZf qS f g o q
 | p i π=>
   have a :vC H σ i π=some u:=f;simp only[hnIx]at e;cases e3:getE env i π with
   |none=>grind
   | some o1=>
     rw[e3]at e;cases o1 with
     |fz d=>cases e
     | ow k os=>
       obtain⟨j,r,s⟩:=bnd e;obtain⟨o2,t,A⟩:=bnd s;cases A;obtain⟨E,F,R,l,C,G,I⟩:=n.place e3;rw[a]at l;cases l;obtain⟨p,J,L,rfl,b,m,d⟩:=C;obtain⟨v,g1,g2⟩:=zZc a b m t;exact zK4 (b.nd rfl) m.length g r g1 (q v g2)
theorem vX3(h:tV K c E (fun env=>(evO oa env).bind fun r=>(evO ob r.2).bind fun r' =>cond r.1.st ((opt (rsv r'.2 r'.1)).bind fun y=>(opt (hnIx r'.2 y r.1)).bind fun h=>hnV r'.2 h) .no) σ H Q):tOp (rIxA K) (tO K c E oa) (tO K c E ob) σ H Q:=by
 obtain⟨env,B,W,b,w⟩:=h;refine qQ2 b (qY.mp w) fun s d u t A g1=>?_
 refine qQ2 g1.cf (qC (fun _ q=>q) (fun C fs e=>e.back g1.st) (qY.mp d)) fun D f v i F g2=>?_
 obtain⟨hs,j⟩:=vN f;obtain⟨y,k,l⟩:=qB j;obtain⟨G,m,n⟩:=qB l;refine vYx g2.cf (g1.next g2 (by rw[hs];rfl)) (wX g2.cf g2.at_ k) m fun z o=>?_
 obtain⟨x,a,p,g,q⟩:=vWl g2.cf o n;exact q z i p ⟨(g1.st.trans g2.st).trans g.st,g.cf,g.at_⟩
theorem jJp(f:X.A.units+1<eA)(ha:OD X c E a oa)(hb:OD X c E b ob)(hs:qYo b:=by exact fun _ _=>rfl):OD X c E (.Subscript a b pos) (oIx oa ob):=by
 refine⟨PE.imp (jJj (jZd f) ha.h hb.h hs) fun σ H Q h=>?_⟩;cases oa with
 |v s=>exact vX3 h
 | p s=>
   cases ob with
   |v t=>exact vX3 h
   | p t=>
     obtain⟨d,B,W,z,e,g,q⟩:=h;obtain⟨i,j,k⟩:=bnd g;obtain⟨l,m,n⟩:=bnd k;obtain⟨y,o,r⟩:=bnd n;exact⟨d,B,W,i,e,j,fun u f=>⟨d,B,W,l,e,m,fun w x=>vYx e f (wX e x o) r q⟩⟩
end
noncomputable def evOs:List Oe->Ev->Res (List Hn×Ev)
 |[],env=>.ok ([],env)
 |o::os,env=>(evO o env).bind fun r=>cond (r.1.st || os.all Oe.isP) ((evOs os r.2).bind fun a =>.ok (r.1::a.1,a.2)) .no
noncomputable def tOs(K:aQ)(c:Nat->aX)(E:XK):List Oe->TA
 |[]=>tNil
 |o::os=>vZz (tO K c E o) (tOs K c E os)
structure OsD(X:Cx)(c:Nat->aX)(E:XK)(es:List Expr)(os:List Oe):Prop where
 h:PA X es (tOs X.K c E os)
theorem qH:OsD X c E [] []:=⟨qJ0⟩
theorem vO{es:List Expr}{o:Oe}{os:List Oe}(ha:OD X c E e o)(a:OsD X c E es os)(hs:aK (e::es) X.env=(false,eval e X.env)::aK es X.env:=by rfl):OsD X c E (e::es) (o::os):=⟨yY ha.h a.h hs⟩
structure GotHs(K:aQ)(c:Nat->aX)(env:Ev)(σ:L2.St)(H:Hp)(B W:Fp)(os:List Oe)(env' :Ev)(H' :Hp)(W' :Fp)(hs:List Hn)(us:List V):Prop where
 st:Step env σ H B W env' σ H' W'
 cf:Cf K c env' σ H' B W'
 at_:zT K c (hide (hd2 B W') H') σ H' us hs
 pu:os.all Oe.isP=true->H' =H/\W' =W/\env' =env
section
variable{K:aQ}{c:Nat->aX}{E:XK}
theorem qVf:∀{os:List Oe} {env:Ev} {σ:L2.St} {H:Hp} {B W:Fp} {Q:List V->Hp->Prop} {w:List Hn×Ev->Prop},Cf K c env σ H B W->(evOs os env).wp w (erP K c E H B W)->(∀r,w r->∀us H' W',GotHs K c env σ H B W os r.2 H' W' r.1 us->Q us H')->tOs K c E os σ H Q
 |[],env,σ,H,B,W,Q,w,cf,hw,k=>k _ hw [] H W ⟨.refl,cf,trivial,fun _=>⟨rfl,rfl,rfl⟩⟩
 | o::os,env,σ,H,B,W,Q,w,cf,hw,k=>by
   refine qQ2 cf (qY.mp hw) fun r a u l m g1=>?_
   obtain⟨hs,b⟩:=vN a;refine qVf g1.cf (qC (fun _ q=>q) (fun C fs d=>d.back g1.st) (qY.mp b)) fun n f us g h g2=>?_
   refine k _ f (u::us) g h ⟨g1.st.trans g2.st,g2.cf,⟨?_,g2.at_⟩,fun z=>?_⟩
   ·cases e:r.1.st with
    |true=>exact g1.at_.step g2.st.same e
    | false=>
      rw[e]at hs;obtain⟨i,j,_⟩:=g2.pu (by simpa using hs);rw[i,j];exact g1.at_
   ·rw [eB,aF] at z;obtain⟨p,s,t⟩:=g1.pu z.1;obtain⟨v,x,y⟩:=g2.pu z.2;grind
noncomputable def rsvs(env:Ev):List Hn->Option (List D)
 |[]=>some []
 |h::hs=>(rsv env h).bind fun x=>(rsvs env hs).bind fun a=>some (x::a)
theorem vYd(b:Cf K c env σ H B W):∀{hs:List Hn} {us:List V} {xs:List D},zT K c (hide (hd2 B W) H) σ H us hs->rsvs env hs=some xs->DsAt K c H us xs
 |[],[],xs,_,e=>by cases e;exact .nil
 | h::hs,u::us,xs,a,e=>by
   obtain⟨x,d,f⟩:=bnd e;obtain⟨j,g,i⟩:=bnd f;cases i;exact .cons (wX b a.1 d) (vYd b a.2 g)
 |[],_::_,_,a,_=>a.elim
 |_::_,[],_,a,_=>a.elim
noncomputable def yH:List Hn->Ev->Res (List D×Ev)
 |[],env=>.ok ([],env)
 |h::hs,env=>(rsvB env h).bind fun r=>(yH hs r.2).bind fun a =>.ok (r.1::a.1,a.2)
noncomputable def Vws(K:aQ)(c:Nat->aX)(F H:Hp):List V->List D->Prop
 |[],[]=>True
 |u::us,x::xs=>Vw K c F H u x/\Vws K c F H us xs
 |_,_=>False
theorem HnAt.mono{F:Hp}{u:V}{h:Hn}(a:HnAt K c F σ H u h)(s:Same F F'):HnAt K c F' σ H u h:=by
 cases h with
 |d x=>exact DAt.same s a
 |p i π=>exact a
theorem zT.mono{F:Hp}(s:Same F F'):∀{us:List V} {hs:List Hn},zT K c F σ H us hs->zT K c F' σ H us hs
 |[],[],_=>trivial
 |u::us,h::hs,a=>⟨a.1.mono s,zT.mono s a.2⟩
 |[],_::_,a=>a.elim
 |_::_,[],a=>a.elim
theorem rsvBs_wp{j:Nat->List (Str×D)->Prop}:∀{hs:List Hn} {us:List V} {env:Ev} {σ:L2.St} {H:Hp} {B W:Fp} {Q:List D×Ev->Prop},Cf K c env σ H B W->zT K c (hide (hd2 B W) H) σ H us hs->(yH hs env).wp Q j->
  ∃xs env' W',Step env σ H B W env' σ H W' /\Cf K c env' σ H B W' /\Vws K c (hide (hd2 B W') H) H us xs/\Q (xs,env')
 |[],[],env,σ,H,B,W,Q,cf,_,w=>⟨[],env,W,.refl,cf,trivial,w⟩
 | h::hs,u::us,env,σ,H,B,W,Q,cf,a,w=>by
   obtain⟨x,i,p,b,f,k,l⟩:=vYe cf a.1 (qY.mp w);obtain⟨xs,d,m,e,g,n,o⟩:=rsvBs_wp f (zT.mono b.same a.2) (qY.mp l);exact⟨x::xs,d,m,b.trans e,g,⟨k.same e.same,n⟩,o⟩
 |[],_::_,_,_,_,_,_,_,_,a,_=>a.elim
 |_::_,[],_,_,_,_,_,_,_,a,_=>a.elim
end
noncomputable def PrSN(K:aQ)(c:Nat->aX)(r:List V->Hp->VK->Prop)(f:List D->Option D):Prop:=∀(us:List V) (H:Hp) (xs:List D) (z:D) (Q:VK),DsAt K c H us xs->f xs=some z->(∀v,(∀F,DAt K c F v z)->Q v H)->r us H Q
noncomputable def svN(f:List D->Option D)(os:List Oe):SV:=fun a=>(evOs os a).bind fun r=>(opt (rsvs r.2 r.1)).bind fun b=>(opt (f b)).bind fun z=>.ok (z,r.2)
noncomputable def oL(f:List D->Option D)(os:List Oe):Oe:=match os with
 |[.p s]=>.p fun a=>(s a).bind fun h=>(rsv a h).bind fun x=>(f [x]).bind fun z=>some (.d z)
 |os=>.v (svN f os)
section
variable{X:Cx}{K:aQ}{c:Nat->aX}{E:XK}{e:Expr}{es:List Expr}{pos p:Pos}{x:Str}{id T:String}{r:List V->Hp->VK->Prop}{os:List Oe}
theorem jQm{f:List D->Option D}(b:PrSN K c r f)(h:tV K c E (svN f os) σ H Q):tCB r (tOs K c E os) σ H Q:=by
 obtain⟨d,B,W,e,w⟩:=h;refine qVf e (qY.mp w) fun s i j a k g=>?_
 obtain⟨l,m,n⟩:=qB i;obtain⟨z,o,p⟩:=qB n;exact b j a l z Q (vYd g.cf g.at_ m) o fun v q=>p v a k ⟨g.st,g.cf,q _⟩
theorem zKn{f:List D->Option D}(b:PrSN K c r f)(h:tO K c E (oL f os) σ H Q):tCB r (tOs K c E os) σ H Q:=by
 unfold oL at h;split at h
 ·obtain⟨a,B,W,s,d,e,q⟩:=h;obtain⟨g,i,j⟩:=bnd e;obtain⟨x,k,l⟩:=bnd j;obtain⟨z,m,n⟩:=bnd l;cases n;exact⟨a,B,W,g,d,i,fun u o=>b [u] H [x] z Q (.cons (wX d o k) .nil) m fun v p=>q v (p _)⟩
 ·exact jQm b h
theorem vJo{f:List D->Option D}(d:zC X (.builtin id) r)(g:PrSN X.K c r f)(i:Gl X x)(j:X.mg x=none)(k:cR x=some (.builtin id))(ha:OsD X c E (e::es) os)(l:x≠"__name__":=by decide)(a:(x == ("__debug__":Str))=false:=by decide)(m:aK (e::es) X.env=(false,eval e X.env)::aK es X.env:=by rfl)(b:(cK pos (aK es X.env)).any (·.1)=false:=by rfl):OD X c E (.Call (.Name x p) (e::es) [] pos) (oL f os):=
 ⟨PE.imp (qZp d i j k ha.h l a m b) fun _ _ _ h=>zKn g h⟩
theorem vK6{f:List D->Option D}(d:zC X (.type T) r)(g:PrSN X.K c r f)(i:Gl X x)(j:X.mg x=none)(k:cR x=some (.type T))(ha:OsD X c E (e::es) os)(l:x≠"__name__":=by decide)(a:(x == ("__debug__":Str))=false:=by decide)(m:aK (e::es) X.env=(false,eval e X.env)::aK es X.env:=by rfl)(b:(cK pos (aK es X.env)).any (·.1)=false:=by rfl):OD X c E (.Call (.Name x p) (e::es) [] pos) (oL f os):=
 ⟨PE.imp (qQ9 d i j k ha.h l a m b) fun _ _ _ h=>zKn g h⟩
end
section
variable{K:aQ}{c:Nat->aX}{E:XK}{env env' :Ev}{σ:L2.St}{H H' :Hp}{B W W' :Fp}{p:aX}{o:O}{k:Kd}
theorem Got.lay(b:Cf K c env σ H B W)(e:H p=none)(d:Same H H'){ds:List D}(ha:OwAt c H' p k vs)(g:DsAt K c (hide (hd2 (hd2 B W) (one p)) H') vs ds):Got K c env σ H B W env H' W (one p) (.ow k (ds.map .fz)) (.ref p):=by
 obtain⟨i,s⟩:=b.fresh e;have st:∀a,B a+W a≠0->H' a=H a:=fun a z=>by obtain⟨o,q,_⟩:=b.hbs z;rw[q,d a o q]
 have j:∀a o,H a=some o->a≠p:=fun a o q z=>by rw[z,e]at q;cases q
 have f:Same (hide (hd2 B W) H) (hide (hd2 (hd2 B (one p)) W) H'):=zU fun a o z q=>⟨by have:=xU (j a o q);dsimp only[hd2]at *;omega,d a o q⟩
 have l:hide (hd2 B (hd2 W (one p))) H' =hide (hd2 (hd2 B (one p)) W) H' :=zD fun a=>by dsimp only[hd2];omega
 have m:hide (hd2 (hd2 B W) (one p)) H' =hide (hd2 (hd2 B (one p)) W) H' :=zD fun a=>by dsimp only[hd2];omega
 refine⟨⟨by rw[l];exact f,fun a z=>st a (by omega),fun a z=>?_,fun a z=>?_,fun a i _=>.of (st a (by omega)),fun _ o h=>⟨⟨o,h⟩,rfl⟩,rfl⟩,⟨b.at_.keep f fun a z=>st a (by omega),fun a=>?_,fun a z=>?_⟩,OAt.ow.mpr ⟨p,vs,fun _=>0,rfl,ha,OsAt.fzs.mpr ⟨by rw[←m];exact g,fun _=>rfl⟩,fun _=>rfl⟩⟩
 ·by_cases q:a=p
  ·exact .inr (by rw[q];exact e)
  ·exact .inl (by have:=xU q;dsimp only[hd2]at z;omega)
 ·cases q:H a with
  |none=>rfl
  |some o=>rw[d a o q]at z;cases z
 ·have:=b.nd a;by_cases q:a=p
  ·subst q;rw[show hd2 B (one a) a=B a+one a a from rfl,wQ];omega
  ·rw[show hd2 B (one p) a=B a+one p a from rfl,xU q];omega
 ·by_cases q:a=p
  ·subst q;exact ha.hb
  ·rw [show hd2 B (one p) a=B a + one p a from rfl,xU q] at z;obtain⟨o,n,r⟩:=b.hb a (by omega);exact⟨o,d a o n,r⟩
theorem qZs(f:Cf K c env σ H B W)(b:H p=none)(d:Same H H'):Same (hide (hd2 B W) H) (hide (hd2 (hd2 B W) (one p)) H'):=zU fun a o z q=>⟨by
 have e:a≠p:=fun z=>by rw[z,b]at q;cases q
 have:=xU e;dsimp only[hd2]at *;omega,d a o q⟩
end
noncomputable def PrF(K:aQ)(c:Nat->aX)(r:List V->Hp->VK->Prop)(f:List D->Option (List D)):Prop:=∀(us:List V) (H:Hp) (T:Fp) (xs ds:List D) (Q:VK),(∀a,T a≠0->∃o,H a=some o/\Hb o)->Vws K c (hide T H) H us xs->f xs=some ds->
 (∀p d b,H p=none->Same H b ->b p=some (.lst d)->DsAt K c (hide (hd2 T (one p)) b) d ds->Q (.ref p) b)->r us H Q
noncomputable def PrA(K:aQ)(c:Nat->aX)(r:List V->Hp->VK->Prop)(f:List D->Option D):Prop:=∀(us:List V) (H:Hp) (T:Fp) (xs:List D) (z:D) (Q:VK),(∀a,T a≠0->∃o,H a=some o/\Hb o)->Vws K c (hide T H) H us xs->f xs=some z->
 (∀v b,Same H b ->DAt K c (hide T b) v z->Q v b)->r us H Q
noncomputable def eF(f:List D->Option (List D))(os:List Oe):SE:=fun a=>(evOs os a).bind fun r=>(yH r.1 r.2).bind fun q=>(opt (f q.1)).bind fun ds=>.ok (.ow .lst (ds.map .fz),q.2)
noncomputable def svA(f:List D->Option D)(os:List Oe):SV:=fun a=>(evOs os a).bind fun r=>(yH r.1 r.2).bind fun q=>(opt (f q.1)).bind fun z=>.ok (z,q.2)
section
variable{X:Cx}{K:aQ}{c:Nat->aX}{E:XK}{e:Expr}{es:List Expr}{pos p:Pos}{x:Str}{id T:String}{r:List V->Hp->VK->Prop}{os:List Oe}
theorem zVa{f:List D->Option (List D)}(j:PrF K c r f)(h:tE K c E (eF f os) σ H Q):tCB r (tOs K c E os) σ H Q:=by
 obtain⟨l,B,W,m,w⟩:=h;refine qVf m (qY.mp w) fun I n o q J g=>?_
 obtain⟨s,e,i,d,b,t,u⟩:=rsvBs_wp g.cf g.at_ (qY.mp n);obtain⟨ds,v,x⟩:=qB u;refine j o q (hd2 B i) s ds Q (fun a z=>b.hbs z) t v fun p L y A C F G=>?_
 exact x _ y i _ ((Got.lay b A C (k:=.lst) F G).back (g.st.trans d))
theorem jZ7{f:List D->Option D}(k:PrA K c r f)(h:tV K c E (svA f os) σ H Q):tCB r (tOs K c E os) σ H Q:=by
 obtain⟨l,B,W,m,w⟩:=h;refine qVf m (qY.mp w) fun C n o p F g=>?_
 obtain⟨q,e,i,d,b,s,t⟩:=rsvBs_wp g.cf g.at_ (qY.mp n);obtain⟨z,u,x⟩:=qB t;refine k o p (hd2 B i) q z Q (fun a z=>b.hbs z) s u fun v y j A=>?_
 exact x v y i ⟨(g.st.trans d).trans (.grow b j),b.grow j,A⟩
theorem zWi{f:List D->Option (List D)}(d:zC X (.builtin id) r)(g:PrF X.K c r f)(i:Gl X x)(j:X.mg x=none)(k:cR x=some (.builtin id))(ha:OsD X c E (e::es) os)(l:x≠"__name__":=by decide)(a:(x == ("__debug__":Str))=false:=by decide)(m:aK (e::es) X.env=(false,eval e X.env)::aK es X.env:=by rfl)(b:(cK pos (aK es X.env)).any (·.1)=false:=by rfl):ED X c E (.Call (.Name x p) (e::es) [] pos) (eF f os):=
 ⟨PE.imp (qZp d i j k ha.h l a m b) fun _ _ _ h=>zVa g h⟩
theorem zQo{f:List D->Option (List D)}(d:zC X (.type T) r)(g:PrF X.K c r f)(i:Gl X x)(j:X.mg x=none)(k:cR x=some (.type T))(ha:OsD X c E (e::es) os)(l:x≠"__name__":=by decide)(a:(x == ("__debug__":Str))=false:=by decide)(m:aK (e::es) X.env=(false,eval e X.env)::aK es X.env:=by rfl)(b:(cK pos (aK es X.env)).any (·.1)=false:=by rfl):ED X c E (.Call (.Name x p) (e::es) [] pos) (eF f os):=
 ⟨PE.imp (qQ9 d i j k ha.h l a m b) fun _ _ _ h=>zVa g h⟩
theorem zQl{f:List D->Option D}(d:zC X (.type T) r)(g:PrA X.K c r f)(i:Gl X x)(j:X.mg x=none)(k:cR x=some (.type T))(ha:OsD X c E (e::es) os)(l:x≠"__name__":=by decide)(a:(x == ("__debug__":Str))=false:=by decide)(m:aK (e::es) X.env=(false,eval e X.env)::aK es X.env:=by rfl)(b:(cK pos (aK es X.env)).any (·.1)=false:=by rfl):EV X c E (.Call (.Name x p) (e::es) [] pos) (svA f os):=
 ⟨PE.imp (qQ9 d i j k ha.h l a m b) fun _ _ _ h=>jZ7 g h⟩
end
noncomputable def evVs:List SV->Ev->Res (List D×Ev)
 |[],env=>.ok ([],env)
 |s::ss,env=>(s env).bind fun r=>(evVs ss r.2).bind fun a =>.ok (r.1::a.1,a.2)
noncomputable def tVs(K:aQ)(c:Nat->aX)(E:XK):List SV->TA
 |[]=>tNil
 |s::ss=>vZz (tV K c E s) (tVs K c E ss)
structure VsD(X:Cx)(c:Nat->aX)(E:XK)(es:List Expr)(ss:List SV):Prop where
 h:PA X es (tVs X.K c E ss)
theorem qX:VsD X c E [] []:=⟨qJ0⟩
theorem vP{es:List Expr}{s:SV}(ha:EV X c E e s)(a:VsD X c E es ss)(hs:aK (e::es) X.env=(false,eval e X.env)::aK es X.env:=by rfl):VsD X c E (e::es) (s::ss):=⟨yY ha.h a.h hs⟩
structure GotDs(K:aQ)(c:Nat->aX)(env:Ev)(σ:L2.St)(H:Hp)(B W:Fp)(env' :Ev)(H' :Hp)(W' :Fp)(xs:List D)(us:List V):Prop where
 st:Step env σ H B W env' σ H' W'
 cf:Cf K c env' σ H' B W'
 at_:DsAt K c (hide (hd2 B W') H') us xs
theorem qVe{K:aQ}:∀{ss:List SV} {env:Ev} {σ:L2.St} {H:Hp} {B W:Fp} {Q:List V->Hp->Prop} {w:List D×Ev->Prop},Cf K c env σ H B W->(evVs ss env).wp w (erP K c E H B W)->(∀r,w r->∀us H' W',GotDs K c env σ H B W r.2 H' W' r.1 us->Q us H')->tVs K c E ss σ H Q
 |[],env,σ,H,B,W,Q,w,cf,hw,k=>k _ hw [] H W ⟨.refl,cf,.nil⟩
 | s::ss,env,σ,H,B,W,Q,w,cf,hw,k=>by
   refine⟨env,B,W,cf,qC (fun r b u g h g1=>?_) (fun _ _ a=>a) (qY.mp hw)⟩;refine qVe g1.cf (qC (fun _ q=>q) (fun C fs a=>a.back g1.st) (qY.mp b)) fun i d us e f g2=>?_
   exact k _ d (u::us) e f ⟨g1.st.trans g2.st,g2.cf,.cons (g1.at_.same g2.st.same) g2.at_⟩
noncomputable def svTup(b:List SV):SV:=fun a=>(evVs b a).bind fun r=>cond (decide (r.1.length<=1000)) (.ok (.tup r.1,r.2)) .no
noncomputable def eLst(b:List SV):SE:=fun a=>(evVs b a).bind fun r=>cond (decide (r.1.length<=1000)) (.ok (.ow .lst (r.1.map .fz),r.2)) .no
theorem zZb(h:n<=1000):n<=aS:=dH (vQz h)
section
variable{X:Cx}{c:Nat->aX}{E:XK}{es:List Expr}{pos:Pos}{ss:List SV}
theorem qL{x1}(h:VsD X c E es ss):EV X c E (.Tuple es x1 pos) (svTup ss):=by
 refine⟨PE.imp (jVk h.h) fun σ H Q=>?_⟩;rintro⟨f,B,W,i,w⟩;refine qVe i (qY.mp w) fun r j l d m g=>?_
 obtain⟨n,s⟩:=vN j;refine⟨zZb (by rw[g.at_.len];exact of_decide_eq_true n),fun p e=>?_⟩;have b:Same d (upd d p (.tup l)):=.upd e;obtain⟨t,u⟩:=g.cf.fresh e;refine s (.ref p) _ m ⟨g.st.trans (.grow g.cf b),g.cf.grow b,.of (k:=.tup) (SqT.of ?_) (g.at_.same (zU fun a o z q=>⟨z,b a o q⟩))⟩;rw[vH (by dsimp only[hd2];omega),upd_same]
theorem vM(h:VsD X c E es ss):ED X c E (.List es pos) (eLst ss):=by
 refine⟨PE.imp (jVo h.h) fun σ H Q=>?_⟩;rintro⟨e,B,W,f,w⟩;refine qVe f (qY.mp w) fun r i j b l g=>?_
 obtain⟨m,n⟩:=vN i;refine⟨zZb (by rw[g.at_.len];exact of_decide_eq_true m),fun p a=>?_⟩;have d:Same b (upd b p (.lst j)):=.upd a;exact n (.ref p) _ l _ ((Got.lay g.cf a d (k:=.lst) upd_same (g.at_.same (qZs g.cf a d))).back g.st)
noncomputable def eDct0:SE:=fun a=>.ok (.ow (.dct []) [],a)
theorem qVm:ED X c E (.Dict [] [] pos) eDct0:=by
 refine⟨PE.imp zJi fun σ H Q=>?_⟩;rintro⟨b,B,W,d,w⟩;intro p a;have e:Same H (upd H p (.dK [])):=.upd a;exact w (.ref p) _ W _ (Got.lay d a e (k:=.dct []) (vs:=[]) (ds:=[]) ⟨rfl,List.nodup_nil,upd_same⟩ .nil)
end
inductive Out where
 |nx (env:Ev)|rt (o:O) (env:Ev)|bk (env:Ev)|ct (env:Ev)
noncomputable abbrev SS:=Ev->Res Out
structure GotR(K:aQ)(c:Nat->aX)(env:Ev)(σ:L2.St)(H:Hp)(B W:Fp)(env' :Ev)(σ' :L2.St)(H' :Hp)(W' Z:Fp)(o:O)(u:V):Prop where
 st:Step env σ H B W env' σ' H' (hd2 W' Z)
 cf:Cf K c env' σ' H' (hd2 B Z) W'
 at_:OAt K c (hide (hd2 (hd2 B Z) W') H') H' o u Z
noncomputable def OutP(K:aQ)(c:Nat->aX)(env:Ev)(σ:L2.St)(H:Hp)(B W:Fp)(D:Ends):Out->Prop
 |.nx e=>∀σ' H' W',Step env σ H B W e σ' H' W' ->Cf K c e σ' H' B W' ->D.nx σ' H'
 |.bk e=>∀σ' H' W',Step env σ H B W e σ' H' W' ->Cf K c e σ' H' B W' ->D.bk σ' H'
 |.ct e=>∀σ' H' W',Step env σ H B W e σ' H' W' ->Cf K c e σ' H' B W' ->D.ct σ' H'
 |.rt o e=>∀v σ' H' W' Z,GotR K c env σ H B W e σ' H' W' Z o v->D.rt v H'
noncomputable def tS(K:aQ)(c:Nat->aX)(E:XK)(s:SS):TS:=fun D σ H=>∃a B W,Cf K c a σ H B W/\(s a).wp (OutP K c a σ H B W D) (erP K c E H B W)
structure SD(X:Cx)(c:Nat->aX)(E:XK)(st:Stmt)(s:SS):Prop where
 h:PS X st (tS X.K c E s)
structure SDs(X:Cx)(c:Nat->aX)(E:XK)(st:List Stmt)(s:SS):Prop where
 h:PSs X st (tS X.K c E s)
theorem PS.imp{st:Stmt}{t t' :TS}(h:PS X st t)(k:∀D σ H,t' D σ H->t D σ H):PS X st t' :=fun a s σ H D I q=>h a s σ H D I (k D σ H q)
theorem PSs.imp{st:List Stmt}{t t' :TS}(h:PSs X st t)(k:∀D σ H,t' D σ H->t D σ H):PSs X st t' :=fun a s σ H D I q=>h a s σ H D I (k D σ H q)
theorem PS.len{st:Stmt}{t:TS}(h:PS X st (fun D σ H=>σ.length=X.N.length/\t D σ H)):PS X st t:=fun a s σ H D I q=>h a s σ H D I ⟨I.len,q⟩
section
variable{K:aQ}{c:Nat->aX}{E:XK}{env env' :Ev}{σ σ' :L2.St}{H H' :Hp}{B W W' :Fp}{D:Ends}{o:Out}{s:SS}
theorem OutP.back(st:Step env σ H B W env' σ' H' W')(h:OutP K c env σ H B W D o):OutP K c env' σ' H' B W' D o:=by
 cases o with
 |nx e=>exact fun σ2 a b d f=>h σ2 a b (st.trans d) f
 |bk e=>exact fun σ2 a b d f=>h σ2 a b (st.trans d) f
 |ct e=>exact fun σ2 a b d f=>h σ2 a b (st.trans d) f
 |rt r e=>exact fun v σ2 a b Z g=>h v σ2 a b Z ⟨st.trans g.st,g.cf,g.at_⟩
theorem vVs(st:Step env σ H B W env' σ' H' W')(a:Cf K c env' σ' H' B W')(h:(s env').wp (OutP K c env σ H B W D) (erP K c E H B W)):tS K c E s D σ' H' :=
 ⟨env',B,W',a,qC (fun _ q=>q.back st) (fun _ _ b=>b.back st) h⟩
end
noncomputable def sSeq(s t:SS):SS:=fun a=>(s a).bind fun o=>match o with
 |.nx e=>t e
 |o=>.ok o
noncomputable def sNil:SS:=fun a=>.ok (.nx a)
section
variable{X:Cx}{c:Nat->aX}{E:XK}{st:Stmt}{sts:List Stmt}{s t u:SS}{pos:Pos}
theorem qE:SDs X c E [] sNil:=by
 refine⟨PSs.imp zXr fun D σ H=>?_⟩;rintro⟨a,B,W,b,w⟩;exact w σ H W .refl b
theorem qZ(h:SD X c E st s):SDs X c E [st] s:=⟨zXq h.h⟩
theorem qQ(h:SD X c E st s)(k:SDs X c E sts t):SDs X c E (st::sts) (sSeq s t):=by
 refine⟨PSs.imp (zZ8 h.h k.h) fun D σ H=>?_⟩;rintro⟨b,B,W,g,w⟩;refine⟨b,B,W,g,qC (fun o a=>?_) (fun _ _ i=>i) (qY.mp w)⟩;cases o with
 |nx e=>exact fun σ' j l d f =>vVs d f a
 |bk e=>exact a
 |ct e=>exact a
 |rt r e=>exact a
noncomputable def sIf(b:ST)(s t:SS):SS:=fun a=>(b a).bind fun r=>cond r.1 (s r.2) (t r.2)
theorem vV{x y:List Stmt}{sc:ST}(g:TD X c E e sc)(ha:SDs X c E x s)(hb:SDs X c E y t):SD X c E (.If e x y pos) (sIf sc s t):=by
 refine⟨PS.imp (jJe g.h ha.h hb.h) fun D σ H=>?_⟩;rintro⟨d,B,W,i,w⟩;refine⟨d,B,W,i,qC (fun j f m n a b=>?_) (fun _ _ l=>l) (qY.mp w)⟩;obtain⟨k,o⟩:=j;cases k with
 |true=>exact vVs a b f
 |false=>exact vVs a b f
noncomputable def sRet(s:SE):SS:=fun a=>(s a).bind fun r=>.ok (.rt r.1 r.2)
theorem qF{s:SE}(h:ED X c E e s):SD X c E (.Return (some e) pos) (sRet s):=by
 refine⟨PS.imp (jQ7 h.h) fun D σ H=>?_⟩;rintro⟨a,B,W,b,w⟩;exact⟨a,B,W,b,qC (fun k d u f i Z g=>d u σ f i Z ⟨g.st,g.cf,g.at_⟩) (fun _ _ j=>j) (qY.mp w)⟩
noncomputable def eMv(i:Nat):SE:=fun a=>match a[i]? with
 |some (.s false o)=>.ok (o,a.set i .un)
 |_=>.no
theorem vWz{s:Slot}{o:O}(hs:∀o,s≠ .s true o)(h:(env.set i s)[j]?=some (.s true o)):j≠i/\env[j]?=some (.s true o):=by
 grind
theorem qJp(h:PE X e (tVar i)):ED X c E e (eMv i):=by
 refine⟨PE.imp h fun σ H Q=>?_⟩;rintro⟨n,B,W,g,w⟩;unfold eMv at w;split at w
 ·rename_i o p;obtain⟨x,d,R,m,k,f,r⟩:=g.focus p;cases x with
  |none=>exact k.elim
  | some v=>
    have eq:hide (hd2 (hd2 B d) R) H=hide (hd2 B W) H:=zD fun a=>by dsimp only[hd2];rw[f];omega
    have l:hide (hd2 B (hd2 R d)) H=hide (hd2 B W) H:=zD fun a=>by dsimp only[hd2];rw[f];omega
    have b :=r H (hd2 B d) R .un (some v) (fun _=>0) (by rw[eq];exact Same.refl _) (fun a=>by omega) (fun _ _=>rfl) (fun _=>rfl) (fun a=>by have:=g.nd a;rw[f]at this;dsimp only[hd2];omega) (fun a z=>by
     by_cases q:B a=0
     ·exact jF.hb (x:=some v) k (by dsimp only[hd2]at z;omega)
     ·exact g.hb a q)
    rw[xI m]at b;refine⟨v,m,w v H R d ⟨⟨by rw[l];exact Same.refl _,fun _ _=>rfl,fun a z=>.inl (by dsimp only[hd2]at z;rw[f];omega),fun _ z=>z,fun _ _ _=>.refl,fun j s q=>?_,bI⟩,b,by rw[eq];exact k⟩⟩;grind
 ·exact w.elim
noncomputable def zV(s:SE):SS:=fun a=>(s a).bind fun r=>.ok (.nx r.2)
theorem vG{s:SE}(h:ED X c E e s)(hs:swapsWith e none pos.line X.env=pure false:=by rfl):SD X c E (.Expr e pos) (zV s):=by
 refine⟨PS.imp (zXs h.h hs) fun D σ H=>?_⟩;rintro⟨env,B,W,a,w⟩;exact⟨env,B,W,a,qC (fun j b u d f Z g=>b σ d f g.fz.st g.fz.cf) (fun _ _ i=>i) (qY.mp w)⟩
end
section
variable{K:aQ}{c:Nat->aX}{env env' :Ev}{σ σ' :L2.St}{H H' :Hp}{B W W' Z:Fp}{i:Nat}{o:O}{u:V}
theorem GotR.put(g:GotR K c env σ H B W env' σ' H' W' Z o u)(e:i<env'.length):∃b,Step env σ H B W (env'.set i (.s false o)) (σ'.set i (some u)) H' b/\Cf K c (env'.set i (.s false o)) (σ'.set i (some u)) H' B b:=by
 obtain⟨b,d,f,h⟩:=g.cf.put (B:=B) (io:=false) (fun _=>rfl) g.at_ e;refine⟨b,g.st.trans ⟨?_,fun _ _=>rfl,fun a z=>.inl ?_,fun _ z=>z,fun _ _ _=>.refl,fun j k q=>?_,bI⟩,d⟩
 ·rw [show hide (hd2 B (hd2 W' Z)) H' =hide (hd2 (hd2 B Z) W') H' from zD fun a=>by dsimp only [hd2];omega];exact f
 ·have:=h a z;dsimp only[hd2];omega
 ·obtain⟨l,m⟩:=vWz (fun _ z=>by cases z) q;exact⟨⟨k,m⟩,cC (Ne.symm l)⟩
theorem Got.r(g:Got K c env σ H B W env' H' W' Z o u):GotR K c env σ H B W env' σ H' W' Z o u:=⟨g.st,g.cf,g.at_⟩
end
noncomputable def sSet(i:Nat)(s:SE):SS:=fun a=>(s a).bind fun r=>.ok (.nx (r.2.set i (.s false r.1)))
section
variable{X:Cx}{c:Nat->aX}{E:XK}{pos pos' :Pos}{i:Nat}{x:Str}{e:Expr}
theorem Cf.len{K:aQ}(h:Cf K c env σ H B W):env.length=σ.length:=h.at_.len
theorem vVy{K:aQ}(a:Cf K c env σ H B W)(hl:σ.length=N.length)(b:N[i]?=some x):i<env.length:=by
 rw[a.len,hl];exact(aM.mp b).1
theorem qVg{s:SE}(d:X.N.Nodup)(b:X.N[i]?=some x)(f:Loc X.env.scope x)(a:ED X c E e s)(hs:swapsWith e (some (.Name x pos')) pos.line X.env=pure false:=by rfl)(j:X.fn x=true\/X.env.scope.names.lookup x=some .local :=by first|exact .inl rfl|exact .inr rfl|assumption):
  SD X c E (.Assign [.Name x pos'] e pos) (sSet i s):=by
 refine⟨PS.len (PS.imp (jQ6 d b f a.h hs j) fun D σ H=>?_)⟩;rintro⟨k,env,B,W,l,w⟩;refine⟨env,B,W,l,qC (fun q m u n t Z g=>?_) (fun _ _ a=>a) (qY.mp w)⟩;obtain⟨o,p,c2⟩:=g.r.put (vVy g.cf k b);exact m _ n o p c2
end
noncomputable abbrev SG:=D->Ev->Option Ev
noncomputable def tG(K:aQ)(c:Nat->aX)(T:List Nat)(g:SG):TG:=fun v σ H Q=>∃a B W d e,Cf K c a σ H B W/\DAt K c (hide (hd2 B W) H) v d/\g d a=some e/\∀σ' W',Step a σ H B W e σ' H W' ->Cf K c e σ' H B W' ->(∀i,i∉T->σ'[i]?=σ[i]?)->Q σ' H
structure GD(X:Cx)(c:Nat->aX)(e:Expr)(T:List Nat)(g:SG):Prop where
 h:PG X e (tG X.K c T g)
noncomputable abbrev SGs:=List D->Ev->Option Ev
noncomputable def tGs(K:aQ)(c:Nat->aX)(T:List Nat)(g:SGs):TGs:=fun b σ H Q=>∃a B W ds e,Cf K c a σ H B W/\DsAt K c (hide (hd2 B W) H) b ds/\g ds a=some e/\∀σ' W',Step a σ H B W e σ' H W' ->Cf K c e σ' H B W' ->(∀i,i∉T->σ'[i]?=σ[i]?)->Q σ' H
structure GDs(X:Cx)(c:Nat->aX)(es:List Expr)(T:List Nat)(g:SGs):Prop where
 h:PGs X es (tGs X.K c T g)
theorem PG.imp{t t' :TG}(h:PG X e t)(k:∀v σ H Q,t' v σ H Q->t v σ H Q):PG X e t' :=fun a s σ H v u Q I r q=>h a s σ H v u Q I r (k v σ H Q q)
theorem PGs.imp{e:List Expr}{t t' :TGs}(h:PGs X e t)(k:∀v σ H Q,t' v σ H Q->t v σ H Q):PGs X e t' :=fun a s σ H v u Q I r q=>h a s σ H v u Q I r (k v σ H Q q)
theorem PG.len{t:TG}(h:PG X e (fun v σ H Q=>σ.length=X.N.length/\t v σ H Q)):PG X e t:=fun a s σ H v u Q I r q=>h a s σ H v u Q I r ⟨I.len,q⟩
noncomputable def gN(i:Nat):SG:=fun d a=>some (a.set i (.s false (.fz d)))
noncomputable def gNl:SGs:=fun ds a=>match ds with
 |[]=>some a
 |_=>none
noncomputable def gCn(g:SG)(b:SGs):SGs:=fun ds a=>match ds with
 |d::r=>(g d a).bind fun e=>b r e
 |[]=>none
noncomputable def gT(n:Nat)(b:SGs):SG:=fun d a=>match d with
 |.nd .tup ds=>if ds.length=n then b ds a else none
 |_=>none
section
variable{X:Cx}{c:Nat->aX}{pos:Pos}{x:Str}{i n:Nat}{e:Expr}{es:List Expr}{g:SG}{gs:SGs}{T T' :List Nat}
theorem zY4(f:X.N.Nodup)(a:X.N[i]?=some x)(h:Loc X.env.scope x)(k:X.fn x=true\/X.env.scope.names.lookup x=some .local :=by first|exact .inl rfl|exact .inr rfl|assumption):GD X c (.Name x pos) [i] (gN i):=by
 refine⟨PG.len (PG.imp (zX3 f a h k) fun v σ H Q=>?_)⟩;rintro⟨l,env,B,W,d,e,b,m,n,o⟩;cases n;have g:GotD X.K c env σ H B W env H W d v:=⟨.refl,b,m⟩
 obtain⟨p,q,c2⟩:=g.own.r.put (vVy b l a);exact o _ p q c2 fun j s=>cC fun z=>s (by rw[z];exact dM)
theorem qQo:GDs X c [] [] gNl:=by
 refine⟨PGs.imp zX2 fun v σ H Q=>?_⟩;rintro⟨b,B,W,ds,e,f,g,a,h⟩;cases ds with
 | nil=>
   have:=g.un0;cases a;exact⟨this,h _ W .refl f fun _ _=>rfl⟩
 |cons d r=>cases a
theorem v9(h:GD X c e T g)(k:GDs X c es T' gs)(hs:(assignEach (e::es) X.env).map (·.2)=assign e X.env::(assignEach es X.env).map (·.2):=by rfl):GDs X c (e::es) (T ++ T') (gCn g gs):=by
 refine⟨PGs.imp (zJe h.h k.h hs) fun v σ H Q=>?_⟩;rintro⟨env,B,W,ds,e,q,s,j,t⟩;cases ds with
 |nil=>cases j
 | cons d r=>
   obtain⟨u,w,rfl,a,b⟩:=s.un;obtain⟨o,x,j⟩:=bnd j;exact⟨u,w,rfl,env,B,W,d,o,q,a,x,fun σ' y f l A=>⟨o,B,y,r,e,l,b.same f.same,j,fun σ2 C m n D=>t σ2 C (f.trans m) n fun i p=>(D i fun z=>p (bU _ z)).trans (A i fun z=>p (List.mem_append_left _ z))⟩⟩
theorem qZi{k:Nat}(g:X.calm=true)(h:GDs X c es T gs)(i:(assignEach es X.env).length =n:=by rfl)(b:(assignEach es X.env).findIdx? (·.1)=none:=by rfl):GD X c (.Tuple es k pos) T (gT n gs):=by
 refine⟨PG.imp (jVg g h.h i b) fun v σ H Q=>?_⟩;rintro⟨env,B,W,d,e,j,l,a,m⟩;unfold gT at a;split at a
 ·rename_i ds;split at a
  ·rename_i o;obtain⟨p,q,r,s,f⟩:=l.un;exact⟨p,q,r,qS.tup s,by rw[f.len];exact o,env,B,W,ds,e,j,f,a,m⟩
  ·cases a
 ·cases a
end
noncomputable def ItD(K:aQ)(c:Nat->aX)(F:Hp)(J:It)(ds:List D):Prop:=∀(i:Nat) (H:Hp) (T:Fp),Same F (hide T H)->(∀a,T a≠0->∃o,H a=some o/\Hb o)->
 (∀d,ds[i]?=some d->J.go i H/\∀x b,J.yld i H x b ->Same H b /\DAt K c (hide T b) x d)/\(i=ds.length->J.stop i H)
noncomputable abbrev SI:=Ev->Res (List D×Ev)
noncomputable def tIt(K:aQ)(c:Nat->aX)(E:XK)(s:SI):TI:=fun σ H R=>∃a B W,Cf K c a σ H B W/\(s a).wp (fun r=>∀J b d,Step a σ H B W r.2 σ b d ->Cf K c r.2 σ b B d ->ItD K c (hide (hd2 B d) b) J r.1->R J b) (erP K c E H B W)
structure ID'(X:Cx)(c:Nat->aX)(E:XK)(tg e:Expr)(s:SI):Prop where
 h:PI X tg e (tIt X.K c E s)
theorem PI.imp{t t' :TI}(h:PI X tg e t)(k:∀σ H R,t' σ H R->t σ H R):PI X tg e t' :=fun a s σ H R I q=>h a s σ H R I (k σ H R q)
noncomputable def forS(g:SG)(a:SS):List D->SS
 |[],env=>.ok (.nx env)
 |d::ds,env=>(opt (g d env)).bind fun b=>(a b).bind fun o=>match o with
    |.nx e2=>forS g a ds e2
    |.ct e2=>forS g a ds e2
    |.bk e2=>.ok (.nx e2)
    |.rt r e2=>.ok (.rt r e2)
noncomputable def sFor(it:SI)(g:SG)(a:SS):SS:=fun b=>(it b).bind fun r=>forS g a r.1 r.2
theorem zWd{K:aQ}{T:List Nat}{D:Ends}{J:It}{H1:Hp}{p:Fp}{ds:List DX.D}{e1:Ev}(L:Cf K c e1 σ H1 B p)(F:ItD K c (hide (hd2 B p) H1) J ds)(h1:(forS g body ds e1).wp (OutP K c e1 σ H1 B p D) (erP K c E H1 B p)):∃W:Nat->Nat->L2.St->Hp->Prop,(∃m,W 0 m σ H1)/\∀i m σ H,W i m σ H->
   (J.stop i H/\D.nx σ H)\/(J.go i H/\∃N:L2.St->Hp->Prop,(∀σ' H',N σ' H' ->∃V,V<m/\W (i+1) V σ' H')/\∀x H',J.yld i H x H' ->tG K c T g x σ H' fun σ2 e=>tS K c E body {D with nx:=N,ct:=N,bk:=D.nx} σ2 e):=by
 refine⟨fun i m σ' H' =>m=ds.length - i/\i<=ds.length/\∃b f,Same (hide (hd2 B p) H1) (hide (hd2 B f) H')/\Cf K c b σ' H' B f /\(forS g body (ds.drop i) b).wp (OutP K c b σ' H' B f D) (erP K c E H' B f),
  ⟨ds.length,by simp,cF _,e1,p,Same.refl _,L,h1⟩,?_⟩
 rintro i m σ' H' ⟨rfl,hi,b,f,X,k,C⟩;obtain⟨M,O⟩:=F i H' (hd2 B f) X (fun a z=>k.hbs z);by_cases t:i<ds.length
 ·obtain⟨Y,yl⟩:=M ds[i] (aD t);refine .inr ⟨Y,fun σ2 e=>ds.length - (i+1)<ds.length - i/\(ds.length - (i+1)=ds.length - (i+1)/\i+1<=ds.length/\∃d l,Same (hide (hd2 B p) H1) (hide (hd2 B l) e)/\Cf K c d σ2 e B l/\(forS g body (ds.drop (i+1)) d).wp (OutP K c d σ2 e B l D) (erP K c E e B l)),fun σ2 e q=>⟨_,q.1,q.2⟩,fun x e y=>?_⟩;obtain⟨G,hx⟩:=yl x e y;rw[List.drop_eq_getElem_cons t]at C;obtain⟨I,e2,C⟩:=qB C;refine⟨b,B,f,ds[i],I,k.grow G,hx,e2,fun σ3 P Q R _=>?_⟩;have n:Step b σ' H' B f I σ3 e P:=(Step.grow k G).trans Q
  have next:∀h,(forS g body (ds.drop (i+1)) h).wp (OutP K c b σ' H' B f D) (erP K c E H' B f)->∀σ4 j s,Step I σ3 e B P h σ4 j s->Cf K c h σ4 j B s->
    ds.length - (i+1)<ds.length - i/\(ds.length - (i+1)=ds.length - (i+1)/\i+1<=ds.length/\∃d l,Same (hide (hd2 B p) H1) (hide (hd2 B l) j)/\Cf K c d σ4 j B l/\(forS g body (ds.drop (i+1)) d).wp (OutP K c d σ4 j B l D) (erP K c E j B l)):=fun h q σ4 j s u w=>by
   have A:=n.trans u;exact⟨by omega,rfl,t,h,s,X.trans A.same,w,qC (fun o q=>q.back A) (fun _ _ S=>S.back A) q⟩
  refine⟨I,B,P,R,qC (fun o q=>?_) (fun _ _ S=>S.back n) (qY.mp C)⟩;cases o with
  |nx h=>exact next h q
  |ct h=>exact next h q
  |bk h=>exact fun σ4 j s u w=>q σ4 j s (n.trans u) w
  |rt r h=>exact fun v σ4 j s Z g=>q v σ4 j s Z ⟨n.trans g.st,g.cf,g.at_⟩
 ·have U:i=ds.length:=by omega
  subst U;rw[List.drop_length]at C;exact .inl ⟨O rfl,C σ' H' f .refl k⟩
theorem zW2{K:aQ}{T:List Nat}{D:Ends}(h:tS K c E (sFor it g body) D σ H):tFor (tIt K c E it) (tG K c T g) (tS K c E body) D σ H:=by
 obtain⟨d,B,W,i,w⟩:=h;refine⟨d,B,W,i,qC (fun k j J l m a e b=>?_) (fun _ _ f=>f) (qY.mp w)⟩;exact zWd e b (qC (fun o q=>q.back a) (fun _ _ f=>f.back a) j)
theorem jV{a:Expr}{b:List Stmt}{T:List Nat}{s:SS}(d:PassesOwn (model X.prog X.w) X.A X.env X.xe)(e:X.calm=true)(f:ID' X c E tg a it)(i:GD X c tg T g)(hb:SDs X c E b s)(hs:∀x,foldedSetIterable a X.env x=pure x:=by intro _;rfl):SD X c E (.For tg a b [] pos) (sFor it g s):=
 ⟨PS.imp (jQ8 d e f.h i.h hb.h hs) fun _ _ _ h=>zW2 h⟩
noncomputable abbrev Fn:=Ev->Res (O×Ev)
noncomputable def jV8:Slot->Slot
 |.s true o=>.s true o
 |_=>.un
noncomputable def outs:Nat->Ev->Ev
 | 0,_=> []
 |_+1,[]=> []
 |n+1,s::e=>jV8 s::outs n e
noncomputable def fnS(n m:Nat)(a:SS):Fn:=fun b=>(a (b ++ List.replicate m .un)).bind fun o=>match o with
 |.nx e=>.ok (.fz .non,outs n e)
 |.rt r e=>.ok (r,outs n e)
 |_=>.no
noncomputable def spD(K:aQ)(c:Nat->aX)(n:Nat)(F:Fn):Sp:=fun b H Q E=>∃a B W,a.length=n/\Cf K c a (b.map some) H B W/\
 (F a).wp (fun r=>∀v d e Z,GotR K c a (b.map some) H B W r.2 (b.map some) d e Z r.1 v->Q v d) (erP K c E H B W)
section
variable{K:aQ}{c:Nat->aX}{F H H' :Hp}
theorem SlAt.uns(t:TabF c F):∀m:Nat,SlAt K c F H (List.replicate m .un) (List.replicate m none) (fun _=>0)
 | 0=>⟨⟨rfl,t⟩,fun _=>rfl⟩
 |m+1=>⟨none,List.replicate m none,fun _=>0,fun _=>0,rfl,fun _=>rfl,SlAt.uns t m,fun _=>rfl⟩
theorem SlAt.append:∀{env env' :Ev} {σ σ' :L2.St} {Z Z' :Fp},SlAt K c F H env σ Z->SlAt K c F H env' σ' Z' ->SlAt K c F H (env ++ env') (σ ++ σ') (fun a=>Z a+Z' a)
 | [],env',σ,σ',Z,Z',h,k=>by
   rw[h.1.1];exact k.cast fun a=>by rw[h.2];omega
 | s::env,env',σ,σ',Z,Z',h,k=>by
   obtain⟨x,r,e,g,rfl,b,f,d⟩:=h;exact⟨x,r ++ σ',e,_,rfl,b,f.append k,fun a=>by dsimp only;rw[d];omega⟩
theorem Cf.ext{m:Nat}(h:Cf K c args τ H B W):Cf K c (args ++ List.replicate m .un) (τ ++ List.replicate m none) H B W:=
 ⟨(h.at_.append (SlAt.uns h.at_.tab m)).cast fun a=>by(try dsimp only);omega,h.nd,h.hb⟩
theorem SlAt.outs:∀{n:Nat} {e:Ev} {σ τ:L2.St} {Z:Fp},SlAt K c F H e σ Z->n<=e.length->τ.length=n->(∀(i:Nat) o,i<n->e[i]?=some (.s true o)->σ[i]?=τ[i]?)->∃Z',SlAt K c F H (outs n e) τ Z' /\∀a,Z' a<=Z a
 | 0,e,σ,τ,Z,h,hl,ht,k=>⟨fun _=>0,⟨⟨eP ht,h.tab⟩,fun _=>rfl⟩,fun _=>cF _⟩
 |n+1,[],σ,τ,Z,h,hl,ht,k=>by simp at hl
 |n+1,s::e,σ,[],Z,h,hl,ht,k=>by simp at ht
 | n + 1,s::e,σ,t::τ,Z,h,hl,ht,k=>by
   obtain⟨x,r,f,p,rfl,b,m,d⟩:=h;obtain⟨Z',g,j⟩:=SlAt.outs (n:=n) (τ:=τ) m (by simpa using hl) (by simpa using ht) fun i o q e=>by
    have:=k (i+1) o (by omega) (by simpa using e);simpa using this
   have un:∃Y:Fp,SlAt K c F H (.un ::DX.outs n e) (t::τ) Y/\∀a,Y a<=Z a:=⟨Z',⟨t,τ,fun _=>0,Z',rfl,fun _=>rfl,g,fun a=>by dsimp only;omega⟩,fun a=>by have:=j a;rw[d];omega⟩
   cases s with
   |un=>exact un
   | s io o=>
     cases io with
     |false=>exact un
     | true=>
       have l:=k 0 o (by omega) rfl;simp only[eW,Option.some.injEq]at l;subst l;exact⟨fun a=>f a+Z' a,⟨x,τ,f,Z',rfl,b,g,fun _=>rfl⟩,fun a=>by have:=j a;rw[d];dsimp only;omega⟩
theorem vJn:∀{n i:Nat} {e:Ev} {o:O},(outs n e)[i]?=some (.s true o)->i<n/\e[i]?=some (.s true o)
 | 0,i,e,o,h=>by simp[outs]at h
 |n+1,i,[],o,h=>by simp[outs]at h
 | n + 1,0,s::e,o,h=>by
   simp only[outs,eW,Option.some.injEq]at h;refine⟨Nat.succ_pos _,?_⟩;cases s with
   |un=>cases h
   |s io o' =>cases io <;> cases h;rfl
 | n + 1,i + 1,s::e,o,h=>by
   simp only[outs,List.getElem?_cons_succ]at h⊢;obtain⟨b,a⟩:=vJn h;exact⟨by omega,a⟩
theorem vJm:∀{n:Nat} {e:Ev},n<=e.length->(outs n e).length =n
 | 0,e,_=>by simp[outs]
 |n+1,[],h=>by simp at h
 |n+1,s::e,h=>by rw[outs,aU,vJm (by simpa using h)]
theorem GotR.out{e:Ev}{m:Nat}{r:O}(l:args.length=n)(t:Cf K c args τ H B W)(g:GotR K c (args ++ List.replicate m .un) (τ ++ List.replicate m none) H B W e σ' H' W' Z r v):
  ∃b,GotR K c args τ H B W (outs n e) τ H' b Z r v:=by
 have d:n<=e.length:=by rw[g.st.len,aB];omega
 have hτ:τ.length=n:=by rw[←t.len];exact l
 have back:∀(i:Nat) (o:O),i<n->e[i]?=some (.s true o)->(∃p,args[i]?=some (.s true p))/\σ'[i]?=τ[i]?:=fun i o j h=>by
  obtain⟨⟨p,u⟩,y⟩:=g.st.io i o h;grind
 obtain⟨b,w,f⟩:=g.cf.at_.outs d hτ fun i o j h=>(back i o j h).2
 have q:Same (hide (hd2 (hd2 B Z) W') H') (hide (hd2 (hd2 B Z) b) H'):=zB fun a z=>by have:=f a;dsimp only[hd2]at *;omega
 have k:Same (hide (hd2 B (hd2 W' Z)) H') (hide (hd2 B (hd2 b Z)) H'):=zB fun a z=>by have:=f a;dsimp only[hd2]at *;omega
 refine⟨b,⟨g.st.same.trans k,g.st.by_,fun a z=>g.st.new a (by have:=f a;dsimp only[hd2]at *;omega),g.st.dom,fun a x A=>g.st.pin a x (by have:=f a;dsimp only[hd2]at *;omega),fun i o h=>?_,by rw[vJm d,l]⟩,
  ⟨w.keep q fun _ _=>rfl,fun a=>by have:=f a;have:=g.cf.nd a;dsimp only[hd2]at *;omega,g.cf.hb⟩,g.at_.keep q fun _ _=>rfl⟩
 obtain⟨j,u⟩:=vJn h;grind
end
theorem fnD{K:aQ}{x b:Str}{st:Stmt}{f:aX}{k:Nat}(F:Fun K x b st f fd)(S:FnScope N ps (qP st))(hb:∀(i:Value) (A:cQ) (a:List Env) (s:aY) (H:Hp) (E:XK),Room k (A.deeper (envOfC b (qP st) s.heap.objs.size f i))->SDs (cxOf (CXd P w) P w K mg base N b (qP st) f i A a s H E) c E (zL st) body):
  FnOk P w K mg base (CXd P w) (k+1) f fd ps (spD K c ps.length (fnS ps.length (N.length - ps.length) body)):=by
 refine F.okD S (fun j H Q E h=>?_) (fun i y a s H j Q E z h=>?_)
 ·obtain⟨d,B,W,p,l,_⟩:=h;have:=l.len;rw[aZ]at this;omega
 ·obtain⟨d,B,W,p,l,m⟩:=h;have q:j.length=ps.length:=by
   have:=l.len;rw[aZ]at this;omega
  refine⟨_,(hb i y a s H E z).h,?_⟩;have t:L2.qZa N j=j.map some ++ List.replicate (N.length - ps.length) none:=by unfold L2.qZa;rw[q]
  show tS K c E body _ (L2.qZa N j) H;rw[t];unfold fnS at m;refine⟨d ++ List.replicate (N.length - ps.length) .un,B,W,l.ext,qC (fun o n=>?_) (fun _ _ C=>C) (qY.mp m)⟩;cases o with
  | nx e=>
    intro σ' H' W' st' cf';have g:GotR K c (d ++ List.replicate (N.length - ps.length) .un) (j.map some ++ List.replicate (N.length - ps.length) none) H B W e σ' H' W' (fun _=>0) (.fz .non) .non :=⟨st'.cast (fun _=>rfl) (fun _=>rfl) fun _=>rfl,cf'.cast (fun _=>rfl) fun _=>rfl,OAt.fz.mpr ⟨.non,fun _=>rfl⟩⟩
    obtain⟨u,g2⟩:=g.out p l;exact n .non H' u _ g2
  | rt r e=>
    intro v σ' H' W' Z g;obtain⟨u,g2⟩:=g.out p l;exact n v H' u Z g2
  |bk e=>exact n.elim
  |ct e=>exact n.elim
mutual
def vF:D->Bool
 |.nd .tup ds=>flatDs ds
 |.nd _ _=>false
 |_=>true
def flatDs:List D->Bool
 |[]=>true
 |d::ds=>vF d && flatDs ds
end
mutual
def qYx:O->Bool
 |.fz d=>vF d
 |.ow _ os=>flatOs os
def flatOs:List O->Bool
 |[]=>true
 |o::os=>qYx o && flatOs os
end
theorem qK2:∀{ds:List D} {i:Nat} {d:D},flatDs ds=true->ds[i]?=some d->vF d=true
 |[],i,d,h,e=>by simp at e
 | x::ds,0,d,h,e=>by
   rw[flatDs,aF]at h;cases e;exact h.1
 | x::ds,i + 1,d,h,e=>by
   rw[flatDs,aF]at h;exact qK2 h.2 (by simpa using e)
section
variable{K:aQ}{c:Nat->aX}{F F' H H' :Hp}
theorem zZ0(k:∀a o,F a=some o->¬Hb o->F' a=some o){p:aX}(h:SqT K F p vs):SqT K F' p vs:=by
 rcases h with(h|⟨o,h⟩)|h
 ·exact .inl (.inl (k _ _ h fun z=>z))
 ·exact .inl (.inr ⟨o,k _ _ h fun z=>z⟩)
 ·exact .inr h
theorem DAt.flat(k:∀a o,F a=some o->¬Hb o->F' a=some o){d:D}(h:DAt K c F v d)(e:vF d=true):DAt K c F' v d:=by
 induction h with
 |non=>exact .non
 |int i=>exact .int i
 |str i=>exact .str i
 |bl i=>exact .bl i
 |fn i=>exact .fn i
 | @nd p kd vs ds h l r ih=>
   cases kd with
   | tup=>
     exact .nd (zZ0 k h) l fun i v d a b=>ih i v d a b (qK2 e b)
   |lst=>simp[vF]at e
   |dct ks=>simp[vF]at e
   |dcT ks=>simp[vF]at e
   |obj C fs=>simp[vF]at e
   |exc C fs=>simp[vF]at e
mutual
theorem OAt.flat(k:∀a o,F a=some o->¬Hb o->F' a=some o):∀{o:O} {v:V} {Z:Fp},qYx o=true->OAt K c F H o v Z->OAt K c F' H o v Z
 | .fz d,v,Z,hf,h=>by
   rw[OAt.fz]at h⊢;rw[qYx]at hf;exact⟨h.1.flat k hf,h.2⟩
 | .ow kd os,v,Z,hf,h=>by
   rw[OAt.ow]at h⊢;rw[qYx]at hf;obtain⟨p,e,f,a,b,c,d⟩:=h;exact⟨p,e,f,a,b,OsAt.flat k hf c,d⟩
theorem OsAt.flat(k:∀a o,F a=some o->¬Hb o->F' a=some o):∀{os:List O} {vs:List V} {Z:Fp},flatOs os=true->OsAt K c F H os vs Z->OsAt K c F' H os vs Z
 |[],vs,Z,hf,h=>by rw[OsAt.nil]at h⊢;exact h
 | o::os,vs,Z,hf,h=>by
   rw[OsAt.cons]at h⊢;rw[flatOs,aF]at hf;obtain⟨v,r,e,f,a,b,c,d⟩:=h;exact⟨v,r,e,f,a,OAt.flat k hf.1 b,OsAt.flat k hf.2 c,d⟩
end
end
mutual
def ndD:D->Bool
 |.nd (.dct _) _=>false
 |.nd (.dcT _) _=>false
 |.nd _ ds=>ndDs ds
 |_=>true
def ndDs:List D->Bool
 |[]=>true
 |d::ds=>ndD d && ndDs ds
end
mutual
def ndO:O->Bool
 |.fz d=>ndD d
 |.ow _ os=>ndOs os
def ndOs:List O->Bool
 |[]=>true
 |o::os=>ndO o && ndOs os
end
noncomputable def ndS:Slot->Bool
 |.un =>true
 |.s _ o=>ndO o
theorem vJq:∀{ds:List D} {i:Nat} {d:D},ndDs ds=true->ds[i]?=some d->ndD d=true
 |[],i,d,h,e=>by simp at e
 | x::ds,0,d,h,e=>by
   rw[ndDs,aF]at h;cases e;exact h.1
 | x::ds,i + 1,d,h,e=>by
   rw[ndDs,aF]at h;exact vJq h.2 (by simpa using e)
noncomputable def isDK:HO->Prop
 |.dK _=>True
 |.dT _=>True
 |_=>False
section
variable{K:aQ}{c:Nat->aX}{F F' H H' :Hp}
theorem NdAt.nd'(k:∀a o,F a=some o->¬isDK o->F' a=some o){p:aX}(h:NdAt K c F p kd vs)(hk:∀ks,kd≠ .dct ks)(g :∀ks,kd≠ .dcT ks):NdAt K c F' p kd vs:=by
 cases kd with
 | lst=>
   rcases h with(h|⟨o,h⟩)|h
   ·exact .inl (.inl (k _ _ h fun z=>z))
   ·exact .inl (.inr ⟨o,k _ _ h fun z=>z⟩)
   ·exact .inr h
 | tup=>
   rcases h with(h|⟨o,h⟩)|h
   ·exact .inl (.inl (k _ _ h fun z=>z))
   ·exact .inl (.inr ⟨o,k _ _ h fun z=>z⟩)
   ·exact .inr h
 |dct ks=>grind
 |dcT ks=>grind
 |obj C fs=>obtain⟨a,e,b⟩:=h;exact⟨a,e,k _ _ b fun z=>z⟩
 | exc C fs=>
   obtain⟨a,f,b,d⟩:=h;refine⟨a,f,k _ _ b fun z=>z,?_⟩;cases f with
   |none=>exact d
   |some e=>exact k _ _ d fun z=>z
theorem DAt.nd'(k:∀a o,F a=some o->¬isDK o->F' a=some o){d:D}(h:DAt K c F v d)(e:ndD d=true):DAt K c F' v d:=by
 induction h with
 |non=>exact .non
 |int i=>exact .int i
 |str i=>exact .str i
 |bl i=>exact .bl i
 |fn i=>exact .fn i
 | @nd p kd vs ds h l r ih=>
   have g:(∀f,kd≠ .dct f)/\(∀f,kd≠ .dcT f)/\ndDs ds=true:=by
    cases kd with
    |lst=>rw[ndD]at e <;> simp_all
    |tup=>rw[ndD]at e <;> simp_all
    |dct f=>simp[ndD]at e
    |dcT f=>simp[ndD]at e
    |obj C fs=>rw[ndD]at e <;> simp_all
    |exc C fs=>rw[ndD]at e <;> simp_all
   exact .nd (h.nd' k g.1 g.2.1) l fun i v d a b=>ih i v d a b (vJq g.2.2 b)
mutual
theorem OAt.nd'(k:∀a o,F a=some o->¬isDK o->F' a=some o):∀{o:O} {v:V} {Z:Fp},ndO o=true->OAt K c F H o v Z->OAt K c F' H o v Z
 | .fz d,v,Z,hf,h=>by
   rw[OAt.fz]at h⊢;rw[ndO]at hf;exact⟨h.1.nd' k hf,h.2⟩
 | .ow kd os,v,Z,hf,h=>by
   rw[OAt.ow]at h⊢;rw[ndO]at hf;obtain⟨p,e,f,a,b,c,d⟩:=h;exact⟨p,e,f,a,b,OsAt.nd' k hf c,d⟩
theorem OsAt.nd'(k:∀a o,F a=some o->¬isDK o->F' a=some o):∀{os:List O} {vs:List V} {Z:Fp},ndOs os=true->OsAt K c F H os vs Z->OsAt K c F' H os vs Z
 |[],vs,Z,hf,h=>by rw[OsAt.nil]at h⊢;exact h
 | o::os,vs,Z,hf,h=>by
   rw[OsAt.cons]at h⊢;rw[ndOs,aF]at hf;obtain⟨v,r,e,f,a,b,c,d⟩:=h;exact⟨v,r,e,f,a,OAt.nd' k hf.1 b,OsAt.nd' k hf.2 c,d⟩
end
theorem SlAt.nd'(k:∀a o,F a=some o->¬isDK o->F' a=some o):∀{env:Ev} {σ:L2.St} {Z:Fp},env.all ndS=true->SlAt K c F H env σ Z->SlAt K c F' H env σ Z
 |[],_,_,_,h=>⟨⟨h.1.1,fun z=>k _ _ (h.1.2 z) fun y=>y⟩,h.2⟩
 | s::env,σ,Z,hf,h=>by
   rw[eB,aF]at hf;obtain⟨x,r,e,f,a,b,g,d⟩:=h;refine⟨x,r,e,f,a,?_,SlAt.nd' k hf.2 g,d⟩;cases s with
   |un=>exact b
   | s io o=>
     cases x with
     |none=>exact b.elim
     |some v=>exact OAt.nd' k hf.1 b
end
noncomputable def dcFz:O->Bool
 | .ow (.dct _) os=>os.all fun o=>match o with
   |.fz _=>true
   |_=>false
 |_=>false
theorem vKb{K:aQ}{F:Hp}{o:O}(h:OAt K c F H o v Z)(e:dcFz o=true):∀a,Z a≠0->∃l,H a=some l/\isDK l:=by
 unfold dcFz at e;split at e
 ·rename_i n f;obtain⟨p,g,q,rfl,b,i,d⟩:=h;have j:∀{f:List O} {g:List V} {Z:Fp},(f.all fun o=>match o with|.fz _=>true|_=>false)=true->OsAt K c F H f g Z->∀a,Z a=0:=fun {f}=>by
   induction f with
   |nil=>intro g Z _ h;exact h.2
   | cons o f ih=>
     intro g Z k h;rw[eB,aF]at k;obtain⟨v,r,s,t,_,b,i,d⟩:=h;cases o with
     |ow _ _=>cases k.1
     |fz x=>rw[OAt.fz]at b;intro a;rw[d,b.2,ih k.2 i]
  intro a z;have m:=j e i a;by_cases y:a=p
  ·subst y;exact⟨_,b.2.2,trivial⟩
  ·rw[d,xU y,m]at z;exact absurd rfl z
 ·cases e
inductive Am where
 |v (s:SV)|b (s:SP)|io (i:Nat)
noncomputable def pIo(i:Nat):SP:=fun a=>match a[i]? with
 |some (.s _ _)=>some (.p i [])
 |_=>none
noncomputable def Am.o:Am->Oe
 |.v s=>.v s
 |.b s=>.p s
 |.io i=>.p (pIo i)
noncomputable def qQm:List Am->List Hn->List Nat
 |.io _::as,.p j _::hs=>j::qQm as hs
 |_::as,_::hs=>qQm as hs
 |_,_=> []
noncomputable def qV4:List Nat->Ev->Option (List O×Ev)
 |[],env=>some ([],env)
 | j::js,env=>match env[j]? with
   |some (.s _ o)=>(qV4 js (env.set j .un)).bind fun q=>some (o::q.1,q.2)
   |_=>none
noncomputable def flag(env:Ev)(j:Nat):Bool:=match env[j]? with
 |some (.s io _)=>io
 |_=>false
noncomputable def putS(e1:Ev):List Nat->List O->Ev->Ev
 |j::js,o::os,env=>putS e1 js os (env.set j (.s (flag e1 j) o))
 |_,_,env=>env
noncomputable def getL:List Nat->List O->Nat->Option O
 |j::js,o::os,i=>if j=i then some o else getL js os i
 |_,_,_=>none
noncomputable def qVi(ls:List Nat)(lo:List O):List Am->List Hn->List O->Option Ev
 |[],[],_=>some []
 |.v _::as,.d x::hs,os=>(qVi ls lo as hs os).bind fun r=>some (.s false (.fz x)::r)
 |.b _::as,.d x::hs,os=>(qVi ls lo as hs os).bind fun r=>some (.s false (.fz x)::r)
 |.b _::as,.p i π::hs,os=>(getL ls lo i).bind fun a=>(getP a π).bind fun o=>(qVi ls lo as hs os).bind fun r=>some (.s false (.fz (fzO o))::r)
 |.io _::as,.p _ []::hs,o::os=>(qVi ls lo as hs os).bind fun r=>some (.s true o::r)
 |_,_,_=>none
noncomputable def wW:List Am->List Hn->List Nat
 |.b _::as,.p i _::hs=>cond ((wW as hs).contains i) (wW as hs) (i::wW as hs)
 |_::as,_::hs=>wW as hs
 |_,_=> []
noncomputable def qXv:List Am->Ev->Option (List O)
 |[],[]=>some []
 |.io _::as,.s true o::e=>(qXv as e).bind fun r=>some (o::r)
 |.io _::_,_::_=>none
 |_::as,_::e=>qXv as e
 |_,_=>none
noncomputable def yN:List Am->List V->List V
 |.io _::as,u::us=>u::yN as us
 |_::as,_::us=>yN as us
 |_,_=> []
section
variable{K:aQ}{c:Nat->aX}{F F' H H' :Hp}
theorem qY9:∀{b:List Nat} {env envR:Ev} {os:List O} {σ:L2.St} {W:Fp},SlAt K c F H env σ W->qV4 b env=some (os,envR)->∃vs d R,b.map (fun j=>σ[j]?)=vs.map (fun v=>some (some v))/\OsAt K c F H os vs d/\SlAt K c F H envR σ R/\(∀a,W a=d a+R a)/\
  b.Nodup/\(∀j∈b,envR[j]?=some .un)/\(∀j,j∉b->envR[j]?=env[j]?)/\envR.length=env.length
 | [],env,envR,os,σ,W,h,e=>by
   cases e;exact⟨[],fun _=>0,W,rfl,OsAt.nil.mpr ⟨rfl,fun _=>rfl⟩,h,fun a=>by(try dsimp only);omega,List.nodup_nil,fun _ z=>by simp at z,fun _ _=>rfl,rfl⟩
 | j::b,env,envR,os,σ,W,h,e=>by
   simp only[qV4]at e;cases e0:env[j]? with
   |none=>grind
   | some s=>
     rw[e0]at e;cases s with
     |un=>cases e
     | s io o=>
       obtain⟨q,p,r⟩:=bnd e;cases r;obtain⟨x,g,t,k,l,u,w⟩:=h.focus e0;cases x with
       |none=>exact l.elim
       | some v=>
         have m:=w F H .un (some v) (fun _=>0) t (Same.refl _) (fun _ _=>rfl) (fun _=>rfl) fun a=>by(try dsimp only);omega
         rw[xI k]at m;obtain⟨vs,d,R,y,A,B,C,D,J,L,E⟩:=qY9 m p;have M:j<env.length:=(aM.mp e0).1;have G:j∉b:=fun z=>by
          have I:∀{b:List Nat} {env:Ev} {q:List O×Ev},env[j]?=some .un ->j∈b->qV4 b env=some q->False:=by
           intro b;induction b with
           |nil=>grind
           | cons i is ih=>
             intro env q N z f;simp only[qV4]at f;by_cases n:i=j
             ·grind
             ·rcases aG.mp z with z | z
              ·grind
              ·cases e3:env[i]? with
               |none=>grind
               | some s=>
                 rw[e3]at f;cases s with
                 |un=>cases f
                 | s io o=>
                   obtain⟨P,Q,_⟩:=bnd f;grind
          grind
         refine⟨v::vs,fun a=>g a+d a,R,by rw[aL,aL,k,y],OsAt.cons.mpr ⟨v,vs,g,d,rfl,l,A,fun _=>rfl⟩,B,fun a=>by rw[u,C];(try dsimp only);omega,dW.mpr ⟨G,D⟩,fun i n=>?_,fun i n=>?_,by rw[E,bI]⟩
         ·grind
         ·grind
theorem vV2{e1:Ev}:∀{js:List Nat} {os:List O} {vs:List V} {env:Ev} {σ:L2.St} {R Wc Y:Fp},SlAt K c F H env σ R->js.Nodup->(∀j∈js,env[j]?=some .un)->js.map (fun j=>σ[j]?)=vs.map (fun v=>some (some v))->OsAt K c F H os vs Wc->(∀a,Y a=R a+Wc a)->SlAt K c F H (putS e1 js os env) σ Y
 | [],os,vs,env,σ,R,Wc,Y,h,_,_,e,k,y=>by
   cases vs with
   |cons v vs=>cases e
   | nil=>
     cases os with
     |cons o os=>rw[OsAt.cons]at k;obtain⟨_,_,_,_,z,_⟩:=k;cases z
     | nil=>
       exact h.cast fun a=>by rw[y,k.2];omega
 | j::js,os,vs,env,σ,R,Wc,Y,h,hn,hu,e,k,y=>by
   cases vs with
   |nil=>cases e
   | cons v vs=>
     rw[aL,aL,eK]at e;cases os with
     |nil=>rw[OsAt.nil]at k;cases k.1
     | cons o os=>
       obtain⟨B,r,d,C,z,l,m,n⟩:=k;cases z;rw[dW]at hn;obtain⟨x,p,D,b,q,t,u⟩:=h.focus (hu j dM);have w:∀a,p a=0:=q;have A:x=some v:=by rw[e.1]at b;exact(Option.some.inj b).symm
       subst A;have f:=u F H (.s (flag e1 j) o) (some v) d (fun a=>d a+R a) (Same.refl _) (fun _ _=>rfl) l fun a=>by rw[t,w];omega
       rw[xI b]at f;simp only[putS];exact vV2 f hn.2 (fun i g=>by rw[cC fun z=>hn.1 (by rw[z];exact g)];exact hu i (aI _ g)) e.2 m fun a=>by rw[y,n];omega
theorem qKh{e1:Ev}:∀{js:List Nat} {os:List O} {env:Ev} {i:Nat} {o:O},(putS e1 js os env)[i]?=some (.s true o)->(i∈js/\flag e1 i=true)\/env[i]?=some (.s true o)
 |[],os,env,i,o,h=>.inr (by simpa[putS] using h)
 |j::js,[],env,i,o,h=>.inr (by simpa[putS] using h)
 | j::js,o' ::os,env,i,o,h=>by
   simp only[putS]at h;rcases qKh h with⟨h1,a⟩|h1
   ·grind
   ·grind
theorem qKg{e1:Ev}:∀{js:List Nat} {os:List O} {env:Ev},(putS e1 js os env).length =env.length
 |[],os,env=>by simp[putS]
 |j::js,[],env=>by simp[putS]
 |j::js,o' ::os,env=>by simp only[putS];rw[qKg,bI]
theorem vVu{u:V}{x:D}(h:DAt K c F u x):jF K c F H (.s io (.fz x)) (some u) (fun _=>0):=by
 show OAt K c F H (.fz x) u (fun _=>0);rw[OAt.fz];grind
theorem vYy:∀{ls:List Nat} {lo:List O} {vs:List V} {L:Fp} {i:Nat} {o:O},OsAt K c F H lo vs L->ls.map (fun j=>σ[j]?)=vs.map (fun v=>some (some v))->getL ls lo i=some o->∃(v:V) (Z R:Fp),σ[i]?=some (some v)/\OAt K c F H o v Z/\∀a,L a=Z a+R a
 |[],lo,vs,L,i,o,h,e,g=>by cases lo <;> simp[getL]at g
 |j::js,[],vs,L,i,o,h,e,g=>by simp[getL]at g
 |j::js,o0::lo,[],L,i,o,h,e,g=>by cases e
 | j::js,o0::lo,v::vs,L,i,o,h,e,g=>by
   rw[aL,aL,eK]at e;obtain⟨s,r,f,k,z,b,l,d⟩:=h;cases z;simp only[getL]at g;by_cases q:j=i
   ·rw [if_pos q] at g;cases g;exact⟨v,f,k,by rw[←q];exact e.1,b,d⟩
   ·rw [if_neg q] at g;obtain⟨w,Z,R,m,n,p⟩:=vYy l e.2 g;exact⟨w,Z,fun a=>f a+R a,m,n,fun a=>by rw[d,p];(try dsimp only);omega⟩
theorem mkArgs_at{ls:List Nat}{lo:List O}{lv:List V}{L:Fp}{m:Hp}(n:OsAt K c F H lo lv L)(el:ls.map (fun j=>σ[j]?)=lv.map (fun v=>some (some v)))(q:TabF c m)(t:∀a,L a≠0->m a=H a)(f:Same F m):∀{as:List Am} {hs:List Hn} {us:List V} {os:List O} {args:Ev} {Wc:Fp},zT K c F σ H us hs->OsAt K c F H os (yN as us) Wc->qVi ls lo as hs os=some args->
  SlAt K c m H args (us.map some) Wc/\args.length=as.length
 | [],[],us,os,args,Wc,hh,ho,e=>by
   cases e;cases us with
   |cons u us=>exact hh.elim
   | nil=>
     cases os with
     |cons o os=>rw[OsAt.cons]at ho;obtain⟨_,_,_,_,z,_⟩:=ho;cases z
     |nil=>rw[OsAt.nil]at ho;exact⟨⟨⟨rfl,q⟩,ho.2⟩,rfl⟩
 | .v s::as, .d x::hs,us,os,args,Wc,hh,ho,e=>by
   cases us with
   |nil=>exact hh.elim
   | cons u us=>
     obtain⟨r,g,h⟩:=bnd e;cases h;obtain⟨k,l⟩:=mkArgs_at n el q t f (as:=as) (hs:=hs) hh.2 ho g;exact⟨⟨some u,us.map some,fun _=>0,Wc,rfl,vVu (DAt.same f hh.1),k,fun a=>by(try dsimp only);omega⟩,by rw[aU,aU,l]⟩
 | .b s::as, .d x::hs,us,os,args,Wc,hh,ho,e=>by
   cases us with
   |nil=>exact hh.elim
   | cons u us=>
     obtain⟨r,g,h⟩:=bnd e;cases h;obtain⟨k,l⟩:=mkArgs_at n el q t f (as:=as) (hs:=hs) hh.2 ho g;exact⟨⟨some u,us.map some,fun _=>0,Wc,rfl,vVu (DAt.same f hh.1),k,fun a=>by(try dsimp only);omega⟩,by rw[aU,aU,l]⟩
 | .b s::as, .p i π::hs,us,os,args,Wc,hh,ho,e=>by
   cases us with
   |nil=>exact hh.elim
   | cons u us=>
     obtain⟨N,D,e⟩:=bnd e;obtain⟨o,E,e⟩:=bnd e;obtain⟨r,g,h⟩:=bnd e;cases h;obtain⟨k,l⟩:=mkArgs_at n el q t f (as:=as) (hs:=hs) hh.2 ho g;have w:vC H σ i π=some u:=hh.1;have G:DAt K c m u (fzO o):=by
      obtain⟨v,Z,R,g1,g2,I⟩:=vYy n el D;obtain⟨J,C,P,y,A,B,Q⟩:=OAt.focus g2 E;have:J=u:=by
       unfold vC at w;rw[g1]at w;exact Option.some.inj (y.symm.trans w)
      subst this;exact A.dat f fun a z=>t a (by rw[I,B];omega)
     exact⟨⟨some u,us.map some,fun _=>0,Wc,rfl,vVu G,k,fun a=>by(try dsimp only);omega⟩,by rw[aU,aU,l]⟩
 | .io i::as, .p j []::hs,us,os,args,Wc,hh,ho,e=>by
   cases us with
   |nil=>exact hh.elim
   | cons u us=>
     cases os with
     |nil=>cases e
     | cons o os=>
       obtain⟨r,g,h⟩:=bnd e;cases h;rw[show yN (.io i::as) (u::us)=u::yN as us from rfl,OsAt.cons]at ho;obtain⟨v,S,C,M,z,y,A,B⟩:=ho;cases z;obtain⟨k,l⟩:=mkArgs_at n el q t f (as:=as) (hs:=hs) hh.2 A g;exact⟨⟨some u,us.map some,C,M,rfl,y.keep f fun _ _=>rfl,k,B⟩,by rw[aU,aU,l]⟩
 |.v _::_,.p _ _::_,_,_,_,_,_,_,e=>by cases e
 |.io _::_,.d _::_,_,_,_,_,_,_,e=>by cases e
 |.io _::_,.p _ (_::_)::_,_,_,_,_,_,_,e=>by cases e
 |[],_::_,_,_,_,_,_,_,e=>by cases e
 |.v _::_,[],_,_,_,_,_,_,e=>by cases e
 |.b _::_,[],_,_,_,_,_,_,e=>by cases e
 |.io _::_,[],_,_,_,_,_,_,e=>by cases e
theorem outOs_at:∀{as:List Am} {e:Ev} {us:List V} {os:List O} {W:Fp},SlAt K c F H e (us.map some) W->qXv as e=some os->∃W',OsAt K c F H os (yN as us) W' /\∀a,W' a<=W a
 | [],[],us,os,W,h,e=>by
   cases e;have:us=[]:=by simpa using h.1.1
   exact⟨fun _=>0,OsAt.nil.mpr ⟨rfl,fun _=>rfl⟩,fun _=>cF _⟩
 | .io i::as, .s true o::e,us,os,W,h,eq=>by
   obtain⟨r,p,q⟩:=bnd eq;cases q;obtain⟨x,t,l,n,z,b,f,d⟩:=h;cases us with
   |nil=>cases z
   | cons u us=>
     rw[aL,eK]at z;obtain⟨m,g⟩:=z;subst m g;obtain⟨W',j,k⟩:=outOs_at f p;exact⟨fun a=>l a+W' a,OsAt.cons.mpr ⟨u,_,l,W',rfl,b,j,fun _=>rfl⟩,fun a=>by have:=k a;rw[d];(try dsimp only);omega⟩
 | .v _::as,s::e,us,os,W,h,eq=>by
   obtain⟨x,t,l,n,z,b,f,d⟩:=h;cases us with
   |nil=>cases z
   | cons u us=>
     rw[aL,eK]at z;obtain⟨m,g⟩:=z;subst g;obtain⟨W',j,k⟩:=outOs_at (as:=as) f (by simpa[qXv] using eq);exact⟨W',j,fun a=>by have:=k a;rw[d];omega⟩
 | .b _::as,s::e,us,os,W,h,eq=>by
   obtain⟨x,t,l,n,z,b,f,d⟩:=h;cases us with
   |nil=>cases z
   | cons u us=>
     rw[aL,eK]at z;obtain⟨m,g⟩:=z;subst g;obtain⟨W',j,k⟩:=outOs_at (as:=as) f (by simpa[qXv] using eq);exact⟨W',j,fun a=>by have:=k a;rw[d];omega⟩
 |.io _::_,.un ::_,_,_,_,_,eq=>by cases eq
 |.io _::_,.s false _::_,_,_,_,_,eq=>by cases eq
 |[],_::_,_,_,_,_,eq=>by cases eq
 |.v _::_,[],_,_,_,_,eq=>by cases eq
 |.b _::_,[],_,_,_,_,eq=>by cases eq
 |.io _::_,[],_,_,_,_,eq=>by cases eq
theorem qQa{ls:List Nat}{lo:List O}:∀{as:List Am} {hs:List Hn} {us:List V} {os:List O} {args:Ev},zT K c F σ H us hs->qVi ls lo as hs os=some args->(qQm as hs).map (fun j=>σ[j]?)=(yN as us).map (fun v=>some (some v))
 |[],[],us,os,args,hh,_=>by cases us <;> rfl
 | .io i::as, .p j []::hs,us,os,args,hh,e=>by
   cases us with
   |nil=>exact hh.elim
   | cons u us=>
     cases os with
     |nil=>cases e
     | cons o os=>
       obtain⟨r,a,_⟩:=bnd e;have w:vC H σ j []=some u:=hh.1;have f:σ[j]?=some (some u):=by
        unfold vC at w;cases e:σ[j]? with
        |none=>grind
        | some y=>
          rw[e]at w;cases y with
          |none=>cases w
          | some v=>have:v=u:=by cases v <;> simpa [walk] using w
                    rw[this]
       simp only[qQm,yN,aL];rw[f,qQa hh.2 a]
 | .v s::as, .d x::hs,us,os,args,hh,e=>by
   cases us with
   |nil=>exact hh.elim
   | cons u us=>
     obtain⟨r,a,_⟩:=bnd e;simp only[qQm];exact qQa hh.2 a
 | .b s::as, .d x::hs,us,os,args,hh,e=>by
   cases us with
   |nil=>exact hh.elim
   | cons u us=>
     obtain⟨r,a,_⟩:=bnd e;simp only[qQm];exact qQa hh.2 a
 | .b s::as, .p i π::hs,us,os,args,hh,e=>by
   cases us with
   |nil=>exact hh.elim
   | cons u us=>
     obtain⟨g,_,e⟩:=bnd e;obtain⟨o,_,e⟩:=bnd e;obtain⟨r,a,_⟩:=bnd e;simp only[qQm];exact qQa hh.2 a
 |.v _::_,.p _ _::_,_,_,_,_,e=>by cases e
 |.io _::_,.d _::_,_,_,_,_,e=>by cases e
 |.io _::_,.p _ (_::_)::_,_,_,_,_,e=>by cases e
 |[],_::_,_,_,_,_,e=>by cases e
 |.v _::_,[],_,_,_,_,e=>by cases e
 |.b _::_,[],_,_,_,_,e=>by cases e
 |.io _::_,[],_,_,_,_,e=>by cases e
end
noncomputable def qW9(lo:List O)(r:O)(os:List O):Bool:=lo.isEmpty || (qYx r && flatOs os) || (lo.all dcFz && ndO r && ndOs os)
noncomputable def qQ6(F:Fn)(as:List Am)(hs:List Hn)(env:Ev):Res (O×Ev):=(opt (qV4 (wW as hs) env)).bind fun b=>(opt (qV4 (qQm as hs) b.2)).bind fun t=>(opt (qVi (wW as hs) b.1 as hs t.1)).bind fun a=>(F a).bind fun q=>(opt (qXv as q.2)).bind fun c=>
 cond (qW9 b.1 q.1 c) (.ok (q.1,putS env (wW as hs) b.1 (putS env (qQm as hs) c t.2))) .no
noncomputable def qM(F:Fn)(as:List Am):SE:=fun a=>(evOs (as.map Am.o) a).bind fun r=>qQ6 F as r.1 r.2
theorem vYh{e1:Ev}:∀{js:List Nat} {os:List O} {env:Ev} {i:Nat},i∉js->(putS e1 js os env)[i]?=env[i]?
 |[],os,env,i,_=>by cases os <;> rfl
 |j::js,[],env,i,_=>rfl
 | j::js,o::os,env,i,h=>by
   simp only[putS];rw[vYh fun z=>h (aI _ z),cC fun z=>h (by rw[z];exact dM)]
theorem qVc{K:aQ}{hs:List Hn}{F:Fn}(U:Cf K c env σ H B W)(hh:zT K c (hide (hd2 B W) H) σ H us hs)(hw:(qQ6 F as hs env).wp (fun r=>∀u H' W' Z,Got K c env σ H B W r.2 H' W' Z r.1 u->Q u H') (erP K c E H B W)):spD K c as.length F us H Q E:=by
 obtain⟨t0,e0,w0⟩:=qB hw
 obtain⟨t,e1,w1⟩:=qB w0
 obtain⟨D,e2,w2⟩:=qB w1
 obtain⟨lo,eL⟩:=t0
 obtain⟨os,eR⟩:=t
 obtain⟨lv,L,R1,l1,X,l3,l4,l5,l6,l7,l8⟩:=qY9 U.at_ e0
 obtain⟨vs,S,R,a1,a2,a3,a4',a5,a6,a7,a8⟩:=qY9 l3 e1
 have J:∀a,W a=L a+(S a+R a):=fun a=>by rw[l4,a4']
 have hv:=qQa hh e2
 have hvs:vs=yN as us:=by
  have e:vs.map (fun v=>some (some v))=(yN as us).map (fun v=>some (some v)):=a1.symm.trans hv
  exact List.map_inj_right (f:=fun v:V=>some (some v)) (fun x y h=>Option.some.inj (Option.some.inj h)) |>.mp e
 subst hvs
 have nd:∀a,B a+(L a+(S a+R a))<=1:=fun a=>by have:=U.nd a;rw[J]at this;exact this
 let G:Fp:=fun a=>B a+R a
 have l:∀a,G a=B a+R a:=fun _=>rfl
 have w:Same (hide (hd2 B W) H) (hide (hd2 G S) H):=zB fun a z=>by have:=J a;have:=l a;dsimp only[hd2]at *;omega
 have Lv:∀a,L a≠0->hide (hd2 G S) H a=H a:=fun a q=>vH (by have:=nd a;have:=l a;dsimp only[hd2];omega)
 obtain⟨sA,la⟩:=mkArgs_at X l1 (U.at_.tab.same w) Lv w (as:=as) (hs:=hs) hh a2 e2
 have A:∀a,B a+(L a+R a)≠0->∃o,H a=some o/\Hb o:=fun a z=>U.hbs (by rw[J];omega)
 have cfc:Cf K c D (us.map some) H G S:=⟨sA,fun a=>by have:=nd a;rw[l];omega,fun a z=>A a (by rw[l]at z;omega)⟩
 refine⟨D,G,S,la,cfc,qC (fun q w3 v H' W' Z g=>?_) (fun C fs he H2 Y ox sx er=>?_) (qY.mp w2)⟩
 rotate_left
 · -- an error:what lies aside stays
   have eq:hide (hd2 B fun a=>Y a+R a) H2=hide (hd2 G Y) H2:=zD fun a=>by have:=l a;dsimp only[hd2];omega
   exact he H2 (fun a=>Y a+R a) ox ⟨by rw[eq];exact w.trans sx.same,fun a z=>sx.by_ a (by rw[l];omega),sx.dom⟩ (by rw[eq];exact er)
 obtain⟨os',e3,w4⟩:=qB w3
 obtain⟨hf,w5⟩:=vN w4
 have n:∀a,R a≠0->H' a=H a:=fun a z=>g.st.by_ a (by rw[l];omega)
 have b:∀a,L a≠0->H' a=H a:=fun a z=>by
  obtain⟨o,h1,_⟩:=A a (by omega)
  have d:=g.st.same a o (by rw[Lv a z];exact h1)
  rw[(jR d).2,h1]
 have p:∀a,B a≠0->H' a=H a:=fun a z=>g.st.by_ a (by rw[l];omega)
 obtain⟨m,b1,T⟩:=outOs_at g.cf.at_ e3
 have newL:∀a,L a≠0->W' a+Z a=0:=fun a z=>by
  by_cases M:W' a+Z a=0
  ·exact M
  ·rcases g.st.new a (by dsimp only [hd2];omega) with q1 | q1
   ·have:=nd a;omega
   ·obtain⟨o,h1,_⟩:=A a (by omega);rw[q1]at h1;cases h1
 have nd4:∀a,B a+Z a+(L a+(R a+m a))<=1:=fun a=>by
  have n1:=g.cf.nd a
  have n2:=T a
  have n3:=nd a
  have n4:=l a
  dsimp only[hd2]at n1
  by_cases z:L a=0
  ·omega
  ·have:=newL a z;omega
 have N:Same (hide (hd2 B W) H) (hide (hd2 (hd2 B Z) (fun a=>L a+(R a+m a))) H'):=fun a o h=>by
  obtain⟨z1,z2⟩:=jR h
  obtain⟨z3,z4⟩:=jR (g.st.same a o (w a o h))
  rw[vH]
  ·exact z4
  ·have:=J a;have:=T a
   dsimp only[hd2]at *
   omega
 have kF:∀(P:HO->Prop),(∀a,L a≠0->∃o,H a=some o/\P o)->∀a o,hide (hd2 (hd2 G Z) W') H' a=some o->¬P o->hide (hd2 (hd2 B Z) (fun a=>L a+(R a+m a))) H' a=some o:=fun P hP a o q1 q2=>by
  obtain⟨z1,z2⟩:=jR q1
  rw[vH]
  ·exact z2
  ·have:=T a;have:=l a
   by_cases z:L a=0
   ·dsimp only[hd2]at *;omega
   ·obtain⟨o2,h1,d⟩:=hP a z
    rw[b a z,h1]at z2
    cases z2
    exact absurd d q2
 have fin:OAt K c (hide (hd2 (hd2 B Z) (fun a=>L a+(R a+m a))) H') H' q.1 v Z/\OsAt K c (hide (hd2 (hd2 B Z) (fun a=>L a+(R a+m a))) H') H' os' (yN as us) m:=by
  unfold qW9 at hf
  rw[Bool.or_eq_true,Bool.or_eq_true]at hf
  rcases hf with(hf|hf)|hf
  ·have hl0:lo=[]:=List.isEmpty_iff.mp hf
   subst hl0
   rw[OsAt.nil]at X
   have sm:Same (hide (hd2 (hd2 G Z) W') H') (hide (hd2 (hd2 B Z) (fun a=>L a+(R a+m a))) H'):=zB fun a z=>by have:=T a;have:=X.2 a;have:=l a;dsimp only[hd2]at *;omega
   exact⟨g.at_.keep sm fun _ _=>rfl,b1.keep sm fun _ _=>rfl⟩
  ·rw [aF] at hf
   have k:=kF Hb fun a z=>by obtain⟨o,h1,d⟩:=A a (by omega);exact⟨o,h1,d⟩
   exact⟨g.at_.flat k hf.1,b1.flat k hf.2⟩
  ·rw [aF,aF] at hf
   have hP:∀{lo:List O} {lv:List V} {L:Fp},lo.all dcFz=true->OsAt K c (hide (hd2 B W) H) H lo lv L->∀a,L a≠0->∃o,H a=some o/\isDK o:=fun {lo}=>by
    induction lo with
    |nil=>intro lv L _ h a z;rw[OsAt.nil]at h;exact absurd (h.2 a) z
    | cons o lo ih=>
      intro lv L hl h a z
      rw[eB,aF]at hl
      rw[OsAt.cons]at h
      obtain⟨v,r,Z1,Z2,_,p1,p2,p3⟩:=h
      by_cases y:Z1 a=0
      ·exact ih hl.2 p2 a (by rw[p3]at z;omega)
      ·exact vKb p1 hl.1 a y
   have k:=kF isDK (hP hf.1.1 X)
   exact⟨g.at_.nd' k hf.1.2,b1.nd' k hf.2⟩
 have sl3:=vV2 (e1:=env) (a3.keep N n) a5 a6 a1 fin.2 (Y:=fun a=>R a+m a) fun _=>rfl
 have sl4:=vV2 (e1:=env) sl3 l5 (fun j hj=>by
  by_cases z:j∈qQm as hs
  · -- taken twice:not so
    exfalso
    have:eL[j]?=some .un :=l6 j hj
    have key:∀{js:List Nat} {env:Ev} {q:List O×Ev},env[j]?=some .un ->j∈js->qV4 js env=some q->False:=by
     intro js
     induction js with
     |nil=>intro env q _ z;simp at z
     | cons i is ih=>
       intro env q hu z I
       simp only[qV4]at I
       by_cases hi:i=j
       ·subst hi;rw[hu]at I;cases I
       ·rcases aG.mp z with z | z
        ·exact hi z.symm
        ·cases e3:env[i]? with
         |none=>rw[e3]at I;cases I
         | some s=>
           rw[e3]at I
           cases s with
           |un=>cases I
           | s io o=>
             obtain⟨q',e4,_⟩:=bnd I
             exact ih (by rw[cC hi];exact hu) z e4
    exact key this z e1
  ·rw[vYh z,a7 j z];exact l6 j hj) l1 (X.keep N b) (Y:=fun a=>L a+(R a+m a)) fun a=>by(try dsimp only);omega
 refine w5 v H' (fun a=>L a+(R a+m a)) Z ⟨⟨?_,p,fun a z=>?_,g.st.dom,fun a z1 z2=>?_,fun i o h=>?_,by rw[qKg,qKg,a8,l8]⟩,⟨sl4,fun a=>nd4 a,fun a z=>?_⟩,fin.1⟩
 ·rw [show hide (hd2 B (hd2 (fun a=>L a + (R a + m a)) Z)) H' =hide (hd2 (hd2 B Z) (fun a=>L a + (R a + m a))) H' from zD fun a=>by dsimp only [hd2];omega]
  exact N
 ·by_cases M:L a + R a=0
  ·rcases g.st.new a (by have:=T a;dsimp only [hd2] at *;omega) with q1 | q1
   ·exact .inl (by rw[J];omega)
   ·exact .inr q1
  ·exact .inl (by rw[J];omega)
 ·by_cases q1:L a=0
  ·by_cases M:R a=0
   ·exact g.st.pin a (by rw[J]at z1;omega) (by have:=T a;dsimp only[hd2]at *;omega)
   ·exact .of (n a M)
  ·exact .of (b a q1)
 ·refine⟨?_,rfl⟩
  have fl:flag env i=true->∃o0,env[i]?=some (.s true o0):=fun d=>by
   unfold flag at d
   split at d
   ·rename_i io o' e
    rw[d]at e
    exact⟨o',e⟩
   ·cases d
  rcases qKh h with⟨h1,d⟩|h1
  ·exact fl d
  ·rcases qKh h1 with⟨h1,d⟩ | h1
   ·exact fl d
   ·by_cases z:i∈qQm as hs
    ·rw[a6 i z]at h1;cases h1
    ·rw [a7 i z] at h1
     by_cases y:i∈wW as hs
     ·rw[l6 i y]at h1;cases h1
     ·rw[l7 i y]at h1;exact⟨o,h1⟩
 ·by_cases M:B a=0
  ·exact g.cf.hb a (by have:=l a;dsimp only[hd2]at *;omega)
  ·rw[p a M];exact U.hb a M
theorem zZz{K:aQ}{F:Fn}(h:tE K c E (qM F as) σ H Q):zVb (spD K c as.length F) [] E (tOs K c E (as.map Am.o)) σ H Q:=by
 obtain⟨a,B,W,b,w⟩:=h;refine qVf b (qY.mp w) fun j d k l m g=>?_
 rw[cY];exact qVc g.cf g.at_ (qC (fun r q v e f Z g2=>q v e f Z (g2.back g.st)) (fun _ _ i=>i.back g.st) d)
section
variable{X:Cx}{c:Nat->aX}{E:XK}{k:Nat}{f:aX}{fd:bJ}{ps:List Str}{x:Str}{p pos:Pos}{e:Expr}{es:List Expr}{F:Fn}{as:List Am}
theorem qVn(G:FnOk X.prog X.w X.K X.mg X.base (CXd X.prog X.w) k f fd ps (spD X.K c as.length F))(d:Room k X.A)(g:Gl X x)(i:X.mg x=some (.ref f))(hk:cT X.K (.ref f)=true)(hb:wD X.K fd ps [])(j:zN (CXd X.prog X.w) X E)(ha:OsD X c E (e::es) (as.map Am.o))(a:(x == ("__debug__":Str))=false:=by decide)(l:aK (e::es) X.env=(false,eval e X.env)::aK es X.env:=by rfl)(b:(cK pos (aK es X.env)).any (·.1)=false:=by rfl):
  ED X c E (.Call (.Name x p) (e::es) [] pos) (qM F as):=
 ⟨PE.imp (zX7 G d g i hk hb .nil j ha.h a l b) fun _ _ _ h=>zZz h⟩
theorem zWj(G:FnOk X.prog X.w X.K X.mg X.base (CXd X.prog X.w) k f fd ps (spD X.K c 0 F))(b:Room k X.A)(d:Gl X x)(e:X.mg x=some (.ref f))(hk:cT X.K (.ref f)=true)(hb:wD X.K fd ps [])(g:zN (CXd X.prog X.w) X E)(a:(x == ("__debug__":Str))=false:=by decide):ED X c E (.Call (.Name x p) [] [] pos) (qM F []):=by
 refine⟨PE.imp (zJk G b d e hk hb .nil g a) fun σ H Q h=>?_⟩;obtain⟨i,B,W,j,w⟩:=h;exact qVc (as:=[]) (hs:=[]) j trivial w
theorem yZ(h:PE X e (tVar i)):OD X c E e (Am.io i).o :=by
 refine⟨PE.imp h fun σ H Q=>?_⟩;rintro⟨b,B,W,d,f,a,q⟩;simp only[pIo]at a;cases e1:b[i]? with
 |none=>grind
 | some s=>
   rw[e1]at a;cases s with
   |un=>cases a
   | s io o=>
     cases a;obtain⟨x,j,R,d,g,k,l⟩:=f.focus e1;cases x with
     |none=>exact g.elim
     |some v=>exact⟨v,d,q v (by show vC H σ i []=some v;unfold vC;rw[d];simp[walk])⟩
end
noncomputable def hasF(m:Str)(fs:List Str):Bool:=fs.any fun g=>decide (m=g)
noncomputable def qWi(env:Ev)(h:Hn)(C:Nat)(m:Str):Bool:=match rsv env h with
 |some (.nd (.obj C' fs) _)=>C' == C &&!hasF m fs
 |_=>false
noncomputable def j8(C:Nat)(m:Str)(F:Fn)(a0:Am)(as:List Am):SE:=fun b=>(evO a0.o b).bind fun a=>cond (qWi a.2 a.1 C m && (a.1.st || (as.map Am.o).all Oe.isP)) ((evOs (as.map Am.o) a.2).bind fun r=>qQ6 F (a0::as) (a.1::r.1) r.2) .no
theorem qXm:∀{fs:List Str} {vs:List V},hasF m fs=false->(fs.zip vs).lookup m=none
 |[],vs,_=>by simp
 |g::r,[],_=>by simp
 | g::r,v::vs,h=>by
   unfold hasF at h;rw[eY,Bool.or_eq_false_iff]at h;rw[cB,List.lookup,show(m == g)=false from beq_eq_false_iff_ne.mpr (of_decide_eq_false h.1)];exact qXm h.2
section
variable{K:aQ}{c:Nat->aX}{E:XK}
theorem vJa{F:Fn}(h:tE K c E (j8 C m F a0 as) σ H Q):vXo (c C) m (spD K c (a0::as).length F) [] E (tO K c E a0.o) (tOs K c E (as.map Am.o)) σ H Q:=by
 obtain⟨s,B,W,t,w⟩:=h;refine qQ2 t (qY.mp w) fun k x u y P g1=>?_
 obtain⟨hs,z⟩:=vN x;rw[aF]at hs;obtain⟨b,d⟩:=hs;have obj:∃a f fs,u=.ref a/\y a=some (.ins (c C) f fs)/\fs.lookup m=none:=by
  unfold qWi at b;split at b
  ·rename_i A fs ds e;rw[aF,Bool.not_eq_true']at b;obtain⟨p,R,rfl,⟨S,f,i⟩,l⟩:=(wX g1.cf g1.at_ e).un;have:A =C:=by simpa using b.1
   subst this;exact⟨p,f,_,rfl,i,qXm b.2⟩
  ·cases b
 obtain⟨a,f,fs,rfl,i,l⟩:=obj;refine⟨a,f,fs,rfl,i,l,?_⟩;refine qVf g1.cf (qC (fun _ q=>q) (fun _ _ j=>j.back g1.st) (qY.mp z)) fun r D G n I g2=>?_
 rw[cY];have J:zT K c (hide (hd2 B I) n) σ n (.ref a::G) (k.1::r.1):=by
  refine⟨?_,g2.at_⟩;cases e:k.1.st with
  |true=>exact g1.at_.step g2.st.same e
  | false=>
    rw[e]at d;obtain⟨L,M,_⟩:=g2.pu (by simpa using d);rw[L,M];exact g1.at_
 exact qVc g2.cf J (qC (fun r q v N O Z g=>q v N O Z (g.back (g1.st.trans g2.st))) (fun _ _ j=>j.back (g1.st.trans g2.st)) D)
end
section
variable{X:Cx}{c:Nat->aX}{E:XK}{k:Nat}{f:aX}{fd:bJ}{ps:List Str}{x m:Str}{p pos apos:Pos}{e o:Expr}{es:List Expr}{F:Fn}{a0:Am}{as:List Am}{C:Nat}
theorem vY4{pl:Sem Bool}(d:OD X c E o a0.o)(g:Cls X.K (c C))(i:Meth X.K (c C) m f)(G:FnOk X.prog X.w X.K X.mg X.base (CXd X.prog X.w) k f fd ps (spD X.K c (a0::as).length F))(j:Room k X.A)(hb:wD X.K fd ps [])(l:zN (CXd X.prog X.w) X E)(ha:OsD X c E (e::es) (as.map Am.o))(a:aK (e::es) X.env=(false,eval e X.env)::aK es X.env:=by rfl)(b:(cK pos (aK es X.env)).any (·.1)=false:=by rfl)(n:eval (.Call (.Attribute o m apos) (e::es) [] pos) X.env=(do
   let ov ←eval o X.env;standAt apos.atName;let (f,first) ←holding [ov] (getMethod ov m pl);callWith pos f first (cK pos (aK (e::es) X.env)) (backToKw pos (keywordEach [] X.env))):=by rfl):
  ED X c E (.Call (.Attribute o m apos) (e::es) [] pos) (j8 C m F a0 as):=
 ⟨PE.imp (vYk d.h g i G j hb .nil l ha.h a b n) fun _ _ _ h=>vJa h⟩
theorem zWg{pl:Sem Bool}(a:OD X c E o a0.o)(b:Cls X.K (c C))(d:Meth X.K (c C) m f)(G:FnOk X.prog X.w X.K X.mg X.base (CXd X.prog X.w) k f fd ps (spD X.K c 1 F))(e:Room k X.A)(hb:wD X.K fd ps [])(g:zN (CXd X.prog X.w) X E)(i:eval (.Call (.Attribute o m apos) [] [] pos) X.env=(do
   let ov ←eval o X.env;standAt apos.atName;let (f,first) ←holding [ov] (getMethod ov m pl);callWith pos f first (cK pos (aK [] X.env)) (backToKw pos (keywordEach [] X.env))):=by rfl):
  ED X c E (.Call (.Attribute o m apos) [] [] pos) (j8 C m F a0 []):=
 ⟨PE.imp (zJg a.h b d G e hb .nil g i) fun _ _ _ h=>vJa (as:=[]) h⟩
end
noncomputable def popL(env:Ev)(n:Nat):Option (O×Ev):=match env[n]? with
 |some (.s _ o)=>some (o,env.take n)
 |_=>none
noncomputable def qWg(C:Nat)(F:Fn)(as:List Am):SE:=fun a=>(evOs (as.map Am.o) a).bind fun r=>(qQ6 F (.io r.2.length::as) (.p r.2.length []::r.1) (r.2 ++ [.s false (.ow (.obj C []) [])])).bind fun q=>match q.1 with
 |.fz .non =>opt (popL q.2 r.2.length)
 |_=>.no
section
variable{K:aQ}{c:Nat->aX}{E:XK}
theorem vQx(a:Same H H'):∀{π:List Nat} {v u:V},walk H v π=some u->walk H' v π=some u
 |[],v,u,h=>by cases v <;> simpa[walk] using h
 | j::π,v,u,h=>by
   cases v with
   | ref p=>
     simp only[walk]at h⊢;cases e:H p with
     |none=>grind
     | some o=>
       rw[e]at h;rw[a p o e];dsimp only at h⊢;cases e2:(kids o)[j]? with
       |none=>grind
       |some v=>rw[e2]at h;exact vQx a h
   |_=>cases h
theorem zT.push{F:Hp}{y:L2.St}(sF:Same F F')(b:Same H H'):∀{us:List V} {hs:List Hn},zT K c F σ H us hs->zT K c F' (σ ++ y) H' us hs
 |[],[],_=>trivial
 | u::us,h::hs,a=>by
   refine⟨?_,zT.push sF b a.2⟩;cases h with
   |d x=>exact DAt.same sF a.1
   | p i π=>
     have w:vC H σ i π=some u:=a.1;show vC H' (σ ++ y) i π=some u;unfold vC at w⊢;cases e:σ[i]? with
     |none=>grind
     | some x=>
       rw[e]at w;rw[dC (aM.mp e).1,e];cases x with
       |none=>cases w
       |some v=>exact vQx b w
 |[],_::_,a=>a.elim
 |_::_,[],a=>a.elim
theorem SlAt.pop{F:Hp}:∀{env:Ev} {σ:L2.St} {s:Slot} {x:Option V} {Z:Fp} {n:Nat},SlAt K c F H env (σ ++ [x]) Z->env[n]?=some s->n=σ.length->∃f R,jF K c F H s x f/\SlAt K c F H (env.take n) σ R/\∀a,Z a=f a+R a
 |[],σ,s,x,Z,n,h,e,hn=>by simp at e
 | s0::env,[],s,x,Z,n,h,e,hn=>by
   subst hn;obtain⟨y,r,f,j,g,b,i,d⟩:=h;cases g;cases e;have:env=[]:=by
    cases env with
    |nil=>rfl
    |cons s1 env=>obtain⟨_,_,_,_,z,_⟩:=i;cases z
   grind
 | s0::env,y::σ,s,x,Z,n,h,e,hn=>by
   subst hn;obtain⟨p,r,f,j,g,b,i,d⟩:=h;cases g;obtain⟨k,R,l,m,o⟩:=SlAt.pop (σ:=σ) i (by simpa using e) rfl;exact⟨k,fun a=>f a+R a,l,⟨_,_,f,R,rfl,b,m,fun _=>rfl⟩,fun a=>by rw[d,o];(try dsimp only);omega⟩
theorem vJb{F:Fn}(h:tE K c E (qWg C F as) σ H Q):zQ9 (c C) (spD K c (as.length+1) F) [] E (tOs K c E (as.map Am.o)) σ H Q:=by
 obtain⟨N,B,W,cf,w⟩:=h;refine qVf cf (qY.mp w) fun r w1 us j l g=>?_
 intro x b hx O P;rw[cY];have t:Same j (upd j b (.own x)):=.upd O;have D:upd j b (.own x) x=none:=by rw[qT fun z=>P z.symm];exact hx
 have G:Same (upd j b (.own x)) (upd (upd j b (.own x)) x (.ins (c C) b [])):=.upd D;have S:=g.cf.grow t;have A:Got K c r.2 σ (upd j b (.own x)) B l r.2 (upd (upd j b (.own x)) x (.ins (c C) b [])) l (one x) (.ow (.obj C []) ([].map .fz)) (.ref x):=Got.lay S D G (k:=.obj C []) (vs:=[]) (ds:=[]) ⟨rfl,b,upd_same⟩ .nil;generalize hH:upd (upd j b (.own x)) x (.ins (c C) b [])=H2 at *;have y:Step r.2 σ j B l r.2 σ H2 (hd2 l (one x)):=(Step.grow g.cf t).trans A.st;have lenσ:σ.length=r.2.length:=g.cf.len.symm;have T:hide (hd2 (hd2 B (one x)) l) H2=hide (hd2 B (hd2 l (one x))) H2:=zD fun a=>by dsimp only[hd2];omega
 have U:Cf K c (r.2 ++ [.s false (.ow (.obj C []) [])]) (σ ++ [some (.ref x)]) H2 B (hd2 l (one x)):=by
  refine⟨?_,fun a=>by have:=A.cf.nd a;dsimp only[hd2]at *;omega,fun a z=>A.cf.hb a (by dsimp only[hd2];omega)⟩;rw[←T];refine(A.cf.at_.append (env' :=[.s false (.ow (.obj C []) [])]) (σ' :=[some (.ref x)]) (Z' :=one x) ⟨some (.ref x),[],one x,fun _=>0,rfl,A.at_,⟨⟨rfl,A.cf.at_.tab⟩,fun _=>rfl⟩,fun a=>by(try dsimp only);omega⟩)
 have hh:zT K c (hide (hd2 B (hd2 l (one x))) H2) (σ ++ [some (.ref x)]) H2 (.ref x::us) (.p r.2.length []::r.1):=by
  refine⟨?_,zT.push y.same (t.trans G) g.at_⟩;show vC H2 (σ ++ [some (.ref x)]) r.2.length []=some (.ref x);unfold vC;rw[dN (by omega),show r.2.length - σ.length=0 by omega];rfl
 refine qVc (as:=.io r.2.length::as) U hh (qC (fun q m v n L Z f=>?_) (fun C fs he=>?_) (qY.mp w1));rotate_left
 ·exact(he.back g.st).back y
 obtain⟨q1,q2⟩:=q;cases q1 with
 |ow k os=>exact m.elim
 | fz d=>
   cases d with
   | non=>
     have ev:=f.at_;have hv:v=.non :=by cases ev.1;rfl
     refine⟨hv,?_⟩;obtain⟨p,M,w3⟩:∃p,popL q2 r.2.length=some p/\∀u n L Z,Got K c N σ H B W p.2 n L Z p.1 u->Q u n :=by
      cases e:popL q2 r.2.length with
      |none=>dsimp only at m;rw[e]at m;exact m.elim
      |some p=>dsimp only at m;rw[e]at m;exact⟨p,rfl,m⟩
     unfold popL at M;split at M
     ·rename_i io o e2;cases M;obtain⟨V,R,h1,h2,I⟩:=SlAt.pop f.cf.at_ e2 lenσ.symm;have X:∀a,Z a=0:=ev.2;have J:hide (hd2 (hd2 B Z) L) n =hide (hd2 (hd2 B V) R) n :=zD fun a=>by dsimp only[hd2];rw[I,X];omega
      have Y:hide (hd2 B (hd2 R V)) n =hide (hd2 B (hd2 L Z)) n :=zD fun a=>by dsimp only[hd2];rw[I,X];omega
      refine w3 (.ref x) n R V ⟨(g.st.trans y).trans ⟨by rw[Y];exact f.st.same,f.st.by_,fun a z=>f.st.new a (by dsimp only[hd2]at *;rw[I];omega),f.st.dom,fun a z1 z2=>f.st.pin a z1 (by dsimp only[hd2]at *;rw[I];omega),fun i o' h=>?_,?_⟩,⟨by rw[←J];exact h2,fun a=>by have:=f.cf.nd a;dsimp only[hd2]at *;rw[I,X]at this;omega,fun a z=>?_⟩,by rw[←J];exact h1⟩
      ·have hi:i<r.2.length:=by
        grind
       rw[List.getElem?_take_of_lt hi]at h;obtain⟨⟨o0,k1⟩,k2⟩:=f.st.io i o' h;grind
      ·grind
      ·by_cases q0:B a=0
       ·exact h1.hb (by dsimp only[hd2]at z;omega)
       ·exact f.cf.hb a (by dsimp only[hd2];omega)
     ·cases M
   |_=>exact m.elim
end
section
variable{X:Cx}{c:Nat->aX}{E:XK}{k:Nat}{f:aX}{fd:bJ}{ps:List Str}{x:Str}{p pos:Pos}{e:Expr}{es:List Expr}{F:Fn}{as:List Am}{C:Nat}
theorem vY5(M:Mk X.K (c C) f)(G:FnOk X.prog X.w X.K X.mg X.base (CXd X.prog X.w) k f fd ps (spD X.K c (as.length+1) F))(d:Room (k+1) X.A)(g:Gl X x)(i:X.mg x=some (.ref (c C)))(hb:wD X.K fd ps [])(j:zN (CXd X.prog X.w) X E)(ha:OsD X c E (e::es) (as.map Am.o))(a:(x == ("__debug__":Str))=false:=by decide)(l:aK (e::es) X.env=(false,eval e X.env)::aK es X.env:=by rfl)(b:(cK pos (aK es X.env)).any (·.1)=false:=by rfl):
  ED X c E (.Call (.Name x p) (e::es) [] pos) (qWg C F as):=
 ⟨PE.imp (zX4 M G d g i hb .nil j ha.h a l b) fun _ _ _ h=>vJb h⟩
theorem zWh(M:Mk X.K (c C) f)(G:FnOk X.prog X.w X.K X.mg X.base (CXd X.prog X.w) k f fd ps (spD X.K c 1 F))(b:Room (k+1) X.A)(d:Gl X x)(e:X.mg x=some (.ref (c C)))(hb:wD X.K fd ps [])(g:zN (CXd X.prog X.w) X E)(a:(x == ("__debug__":Str))=false:=by decide):ED X c E (.Call (.Name x p) [] [] pos) (qWg C F []):=
 ⟨PE.imp (zJh M G b d e hb .nil g a) fun _ _ _ h=>vJb (as:=[]) h⟩
end
noncomputable abbrev lim:Nat:=1000000
theorem qY2(h:n<=lim):n<aS:=Nat.lt_of_le_of_lt h (by decide)
section
variable{K:aQ}{c:Nat->aX}{env env' :Ev}{σ:L2.St}{H H' :Hp}{B W Z:Fp}{i:Nat}{π:List Nat}{k:Kd}{os:List O}
theorem Cf.mut(x:Cf K c env σ H (hd2 B Z) W)(e:getE env i π=some (.ow k os)):∃p vs s,vC H σ i π=some (.ref p)/\OwAt c H p k vs/\OsAt K c (hide (hd2 (hd2 B Z) W) H) H os vs s/\
  ∀t n r g m l,OsAt K c (hide (hd2 (hd2 B Z) W) H) H n r g ->(∀a,g a+m a<=s a+Z a)->OwAt c (upd H p l) p t r ->Hb l->Pin (H p) (some l)->
   ∃W',Cf K c (setE env i π (.ow t n)) σ (upd H p l) (hd2 B m) W' /\Step env σ H B (hd2 W Z) (setE env i π (.ow t n)) σ (upd H p l) (hd2 W' m)/\
    ∀o v,OAt K c (hide (hd2 (hd2 B Z) W) H) H o v m->OAt K c (hide (hd2 (hd2 B m) W') (upd H p l)) (upd H p l) o v m:=by
 obtain⟨N,O,R,E,D,C,F⟩:=x.place e;rw[OAt.ow]at D;obtain⟨p,vs,s,rfl,b,G,d⟩:=D;refine⟨p,vs,s,E,b,G,fun t n r g m l I u J hb L=>?_⟩;have nd:∀a,B a+Z a+(one p a+s a+R a)<=1:=fun a=>by have:=x.nd a;rw[C,d]at this;dsimp only[hd2]at this;omega
 have P:B p=0/\Z p=0/\s p=0/\R p=0:=by have:=nd p;rw[wQ]at this;omega
 have Q:g p=0/\m p=0:=by have:=u p;omega
 have w:∀a,(hd2 (hd2 B Z) W) a=B a+Z a+(one p a+s a+R a):=fun a=>by dsimp only[hd2];rw[C,d]
 have A:Same (hide (hd2 (hd2 B Z) W) H) (hide (hd2 (hd2 B m) (fun a=>(one p a+g a)+R a)) (upd H p l)):=zU fun a o z q=>by
  rw[w]at z;have:=u a;have ne:a≠p:=fun y=>by rw[y,wQ]at z;omega
  exact⟨by dsimp only[hd2];omega,by rw[qT ne];exact q⟩
 have f:∀a,a≠p->upd H p l a=H a:=fun a z=>qT z
 refine⟨fun a=>(one p a+g a)+R a,F (upd H p l) (hd2 B m) _ (.ow t n) (fun a=>one p a+g a) A (fun _=>rfl) (fun a z=>f a fun y=>by rw[y]at z;omega) (OAt.ow.mpr ⟨p,r,g,rfl,J,I.keep A fun a z=>f a fun y=>by rw[y]at z;omega,fun _=>rfl⟩) (fun a=>?_) (fun a z=>?_),⟨?_,fun a z=>f a fun y=>by rw[y]at z;omega,fun a z=>.inl ?_,fun a z=>?_,fun a S T=>?_,fun j o q=>⟨qJe q,rfl⟩,qQ8⟩,fun o v h=>h.keep A fun a z=>f a fun y=>by rw[y]at z;omega⟩
 ·have:=nd a;have:=u a;dsimp only[hd2];omega
 ·by_cases y:a=p
  ·subst y;exact⟨l,upd_same,hb⟩
  ·rw [f a y];by_cases q:B a=0
   ·exact x.hbs (by have M:=w a;have U:=u a;dsimp only[hd2]at M z⊢;omega)
   ·exact x.hb a (by dsimp only[hd2];omega)
 ·rw [show hide (hd2 B (hd2 W Z)) H=hide (hd2 (hd2 B Z) W) H from zD fun a=>by dsimp only [hd2];omega,show hide (hd2 B (hd2 (fun a=>(one p a + g a) + R a) m)) (upd H p l)=hide (hd2 (hd2 B m) (fun a=>(one p a + g a) + R a)) (upd H p l) from zD fun a=>by dsimp only [hd2];omega];exact A
 ·have:=u a;dsimp only[hd2]at *;rw[C,d];omega
 ·by_cases y:a=p
  ·subst y;rw[upd_same]at z;cases z
  ·rw[f a y]at z;exact z
 ·by_cases y:a=p
  ·subst y;rw[upd_same];exact L
  ·exact .of (f a y)
noncomputable def stab(env a:Ev)(i:Nat):List Nat->Bool
 |[]=>true
 | [j]=>match env[i]?,a[i]? with
   | some (.s _ (.ow (.obj _ fs) _)),some (.s _ (.ow _ _))=>match fs[j]? with
     |some f=>pinF f
     |none=>false
   |_,_=>false
 |_=>false
theorem vJf{K:aQ}{F:Hp}{os:List O}{x:Option V}{a:Fp}(h:jF K c F H (.s io (.ow kd os)) x a):∃p vs,x=some (.ref p)/\OwAt c H p kd vs/\a p≠0:=by
 cases x with
 |none=>exact h.elim
 | some v=>
   have e :OAt K c F H (.ow kd os) v a:=h;obtain⟨p,vs,f,rfl,b,_,d⟩:=e;exact⟨p,vs,rfl,b,by rw[d,wQ];omega⟩
theorem qXd{Y:Fp}{u:V}(s:Cf K c env σ H B W)(st:Step env σ H B W env' σ H' Y)(g :Cf K c env' σ H' B' W')(t:∀a,W' a≠0->Y a≠0)(hs:stab env env' i π=true)(h:vC H σ i π=some u):vC H' σ i π=some u:=by
 cases π with
 | nil=>
   unfold vC at h⊢;cases e:σ[i]? with
   |none=>rw[e]at h;cases h
   | some x=>
     rw[e]at h;cases x with
     |none=>cases h
     |some v=>simpa[walk] using h
 | cons j π=>
   cases π with
   |cons _ _=>simp[stab]at hs
   | nil=>
     simp only[stab]at hs;split at hs
     ·rename_i T C fs U w X y z A;split at hs
      ·rename_i f D;obtain⟨x,Z,R,m,E,F,_⟩:=s.focus z;obtain⟨x',G,R',b,k,l,_⟩:=g.focus A;obtain⟨p,n,rfl,⟨I,J,o⟩,zp⟩:=vJf E;obtain⟨p',L,rfl,_,M⟩:=vJf k;rw[m]at b;cases b;have r:=st.pin p (by rw[F];omega) (t p (by rw[l];omega));rw[o]at r;obtain⟨d,N,q⟩:=r;unfold vC at h⊢;rw[m]at h⊢;simp only[walk,o,kids,qZm I]at h;cases ev:n[j]? with
       |none=>rw[ev]at h;cases h
       | some v=>
         rw[ev]at h;have O:v=u:=by cases v <;> simpa[walk] using h
         subst O;have P:(fs.zip n)[j]?=some (f,v):=by rw[List.getElem?_zip_eq_some];exact⟨D,ev⟩
         have Q:=q j f v hs P;have S:(kids (.ins (c C) J d))[j]?=some v:=by
          show(d.map (·.2))[j]?=some v;rw[bM,Q];rfl
         show walk H' (.ref p) [j]=some v;rw[qXb N S];simp[walk]
      ·cases hs
     ·cases hs
end
noncomputable def qZd(env:Ev)(i:Nat)(π:List Nat):Option (List O):=match getE env i π with
 |some (.ow .lst os)=>some os
 |_=>none
theorem qXl{os:List O}(h:qZd env i π=some os):getE env i π=some (.ow .lst os):=by
 unfold qZd at h;grind
noncomputable def eMu1(s:SP)(a:SE)(f:List O->O->Option (O×List O)):SE:=fun b=>(opt (s b)).bind fun h=>match h with
 |.p i π=>(opt (qZd b i π)).bind fun _=>(a b).bind fun r=>(opt (qZd r.2 i π)).bind fun c=>cond (stab b r.2 i π) ((opt (f c r.1)).bind fun z=>.ok (z.1,setE r.2 i π (.ow .lst z.2))) .no
 |_=>.no
noncomputable def apF(os:List O)(x:O):Option (O×List O):=cond (decide (os.length<=lim)) (some (.fz .non,os ++ [x])) none
noncomputable def exF(os:List O)(x:O):Option (O×List O):=match x with
 |.ow .lst ys=>cond (decide (os.length+ys.length<=lim)) (some (.fz .non,os ++ ys)) none
 |_=>none
noncomputable def PrM(K:aQ)(c:Nat->aX)(r:V->List V->Hp->VK->Prop)(f:List O->O->Option (O×List O)):Prop:=∀(p:aX) (vs:List V) (u:V) (F H:Hp) (os os' :List O) (x o:O) (Zk Z:Fp) (Q:VK),H p=some (.lst vs)->OsAt K c F H os vs Zk->OAt K c F H x u Z->f os x=some (o,os')->
 (∀v b d,o=.fz .non ->v=.non ->OsAt K c F H os' b d ->(∀a,d a<=Zk a+Z a)->Q v (upd H p (.lst b)))->r (.ref p) [u] H Q
section
variable{K:aQ}{c:Nat->aX}{E:XK}
theorem vKu:PrM K c rAppend apF:=fun p d u F H k f x o l Z Q g b h e q=>by
 obtain⟨i,j⟩:=vS e;cases j;exact⟨p,d,u,rfl,rfl,g,by rw[b.length];exact qY2 (of_decide_eq_true i),q .non _ _ rfl rfl (b.append (OsAt.one.mpr h)) fun a=>aC _⟩
theorem vKt:PrM K c rExtend exF:=fun p g u F H n h x o r Z Q i d f e q=>by
 unfold exF at e;split at e
 ·obtain⟨j,k⟩:=vS e;cases k;rw[OAt.ow]at f;obtain⟨b,l,s,rfl,g1,g2,m⟩:=f;exact⟨p,b,g,l,rfl,rfl,i,g1,by rw[d.length,g2.length];exact dH (qY2 (of_decide_eq_true j)),q .non _ _ rfl rfl (d.append g2) fun a=>by(try dsimp only);rw[m];omega⟩
 ·cases e
theorem vX2{r:V->List V->Hp->VK->Prop}{f:List O->O->Option (O×List O)}(F:PrM K c r f){s:SP}{a:SE}(h:tE K c E (eMu1 s a f) σ H Q):tBM K "list" r (tP K c s) (vZz (tE K c E a) tNil) σ H Q:=by
 obtain⟨e,B,W,l,w⟩:=h;obtain⟨q,G,t⟩:=qB w;refine⟨e,B,W,q,l,G,fun u I=>?_⟩;cases q with
 |d x=>exact t.elim
 | p i π=>
   obtain⟨os0,J,L⟩:=qB t;have j :vC H σ i π=some u:=I;obtain⟨v1,Z1,R,g1,g2,g3,g4⟩:=l.place (qXl J);rw[j]at g1;cases g1;obtain⟨p,m,Z0,rfl,b,_,_⟩:=g2;refine⟨.inl ⟨rfl,m,SqL.of b⟩,e,B,W,l,qC (fun M N x y W1 Z g=>?_) (fun _ _ P=>P) (qY.mp L)⟩;obtain⟨S,T,U⟩:=qB N;obtain⟨hs,X⟩:=vN U;obtain⟨z,Y,w6⟩:=qB X;have hw:=qXd l g.st g.cf (fun a z=>by dsimp only[hd2];omega) hs j;obtain⟨p',A,Zk,C,D,k3,k4⟩:=g.cf.mut (qXl T);rw[hw]at C;cases C;refine F p A x _ y S z.2 M.1 z.1 Zk Z Q D k3 g.at_ Y fun v k n ho hv hk hz=>?_
   subst hv;obtain⟨W',c1,c2,c3⟩:=k4 .lst z.2 k n (fun _=>0) (.lst k) hk (fun a=>by have:=hz a;omega) upd_same trivial (by have o :y p=some (.lst A):=D;rw[o];trivial);refine w6 .non _ W' (fun _=>0) ⟨g.st.trans c2,c1,by rw[ho,OAt.fz];exact⟨.non,fun _=>rfl⟩⟩
end
section
variable{X:Cx}{c:Nat->aX}{E:XK}{o e:Expr}{apos cpos:Pos}{s:SP}{a:SE}
theorem zQp(i:OD X c E o (.p s))(ha:ED X c E e a)(d:attributeBase o "append" X.env (eval o X.env)=eval o X.env:=by rfl)(g:((cK cpos (aK [e] X.env)).all (fun x=>!x.1) && (backToKw cpos (keywordEach [] X.env)).all (fun x=>x.1.isSome) && decide (([e]:List Expr).length+([]:List Keyword).length+(if([]:List Keyword).isEmpty then 0 else 1)<30))=true:=by rfl)(f:(apos.endLine == cpos.line)=true:=by rfl)(hs:aK [e] X.env=(false,eval e X.env)::aK [] X.env:=by rfl)(b:(cK cpos (aK [] X.env)).any (·.1)=false:=by rfl):
  ED X c E (.Call (.Attribute o "append" apos) [e] [] cpos) (eMu1 s a apF):=
 ⟨PE.imp (zKu PySem.F.plainAttrs_list PySem.F.slot_list_append PySem.F.type_list_append vQ5 i.h (yY ha.h qJ0 hs) d g f hs b) fun _ _ _ h=>vX2 vKu h⟩
theorem zQn(i:OD X c E o (.p s))(ha:ED X c E e a)(d:attributeBase o "extend" X.env (eval o X.env)=eval o X.env:=by rfl)(g:((cK cpos (aK [e] X.env)).all (fun x=>!x.1) && (backToKw cpos (keywordEach [] X.env)).all (fun x=>x.1.isSome) && decide (([e]:List Expr).length+([]:List Keyword).length+(if([]:List Keyword).isEmpty then 0 else 1)<30))=true:=by rfl)(f:(apos.endLine == cpos.line)=true:=by rfl)(hs:aK [e] X.env=(false,eval e X.env)::aK [] X.env:=by rfl)(b:(cK cpos (aK [] X.env)).any (·.1)=false:=by rfl):
  ED X c E (.Call (.Attribute o "extend" apos) [e] [] cpos) (eMu1 s a exF):=
 ⟨PE.imp (zKu PySem.F.plainAttrs_list PySem.F.slot_list_extend PySem.F.type_list_extend vK7 i.h (yY ha.h qJ0 hs) d g f hs b) fun _ _ _ h=>vX2 vKt h⟩
end
section
variable{κ α:Type}[DecidableEq κ]
theorem qXn{k:κ}:∀{ks:List κ},kidx k ks=none->k∉ks
 |[],_=>by simp
 | g::r,h=>by
   simp only[kidx]at h;by_cases q:g=k
   ·rw[if_pos q]at h;cases h
   ·rw [if_neg q] at h;have:=qXn (Option.map_eq_none_iff.mp h);rw[aG];exact fun z=>z.elim (fun z=>q z.symm) this
theorem vKf{k:κ}:∀{ks:List κ} {vs:List α},ks.length=vs.length->((ks.zip vs).any fun a=>decide (a.1=k))=(kidx k ks).isSome
 |[],[],_=>rfl
 | g::r,w::vs,h=>by
   rw[cB,eY,vKf (Nat.succ.inj h)];simp only[kidx];by_cases q:g=k
   ·rw[if_pos q,decide_eq_true q];rfl
   ·rw[if_neg q,decide_eq_false q];cases kidx k r <;> rfl
 |[],_::_,h=>by cases h
 |_::_,[],h=>by cases h
theorem qKz{k:κ}{v:α}:∀{ks:List κ} {vs:List α},k∉ks->(ks.zip vs).map (fun a=>if a.1=k then(a.1,v) else a)=ks.zip vs
 |[],vs,_=>by simp
 |g::r,[],_=>by simp
 | g::r,w::vs,h=>by
   rw[aG]at h;rw[cB,aL,if_neg fun z=>h (.inl z.symm),qKz fun z=>h (.inr z)]
theorem vYo{k:κ}{v:α}:∀{ks:List κ} {vs:List α} {j:Nat},ks.Nodup->kidx k ks=some j->(ks.zip vs).map (fun a=>if a.1=k then(a.1,v) else a)=ks.zip (vs.set j v)
 |[],vs,j,_,h=>by cases h
 |g::r,[],j,_,h=>by simp
 | g::r,w::vs,j,hn,h=>by
   rw[dW]at hn;simp only[kidx]at h;by_cases q:g=k
   ·rw [if_pos q] at h;cases h;rw[cB,aL,if_pos q,qKz (by rw[←q];exact hn.1)];rfl
   ·rw [if_neg q] at h;obtain⟨i,b,rfl⟩:=bX.mp h;rw[cB,aL,if_neg q,vYo hn.2 b];rfl
theorem qY8{k:κ}{v:α}:∀{ks:List κ} {vs:List α},ks.length=vs.length->(ks ++ [k]).zip (vs ++ [v])=ks.zip vs ++ [(k,v)]
 |[],[],_=>rfl
 | g::r,w::vs,h=>by
   rw[List.cons_append,List.cons_append,cB,qY8 (Nat.succ.inj h)];rfl
 |[],_::_,h=>by cases h
 |_::_,[],h=>by cases h
end
theorem vJi{k:Key}{ks:List Key}(hl:ks.length=vs.length)(a:ks.Nodup):putK (ks.zip vs) k v=match kidx k ks with
  |some j=>ks.zip (vs.set j v)
  |none=>(ks ++ [k]).zip (vs ++ [v]):=by
 unfold putK;rw[vKf hl];cases e:kidx k ks with
 |none=>rw[if_neg (by simp),qY8 hl]
 |some j=>rw[if_pos (by simp),vYo a e]
theorem qKy{k:κ}{ks:List κ}(h:ks.Nodup)(n:k∉ks):(ks ++ [k]).Nodup :=by
 rw[List.nodup_append];refine⟨h,by simp,fun a ha b hb e=>?_⟩;rw[bV]at hb;exact n (by rw[←hb,←e];exact ha)
noncomputable def putO(ks:List Key)(os:List O)(k:Key)(o:O):O:=match kidx k ks with
 |some j=>.ow (.dct ks) (os.set j o)
 |none=>.ow (.dct (ks ++ [k])) (os ++ [o])
noncomputable def qYz(env:Ev)(i:Nat)(π:List Nat):Option (List Key×List O):=match getE env i π with
 |some (.ow (.dct ks) os)=>some (ks,os)
 |_=>none
theorem vVb{q:List Key×List O}(h:qYz env i π=some q):getE env i π=some (.ow (.dct q.1) q.2):=by
 unfold qYz at h;split at h
 ·rename_i e;cases h;exact e
 ·cases h
noncomputable def vQo(s k:SP)(a:SE):SS:=fun b=>(a b).bind fun r=>(opt (s r.2)).bind fun h=>(opt (k r.2)).bind fun e=>(opt (rsv r.2 e)).bind fun y=>(opt (qV7 y)).bind fun c=>match h with
 |.p i π=>(opt (qYz r.2 i π)).bind fun q=>cond (decide (q.2.length<=lim)) (.ok (.nx (setE r.2 i π (putO q.1 q.2 c r.1)))) .no
 |.d _=>.no
noncomputable def sSetI(s k:SP)(a:SE):SS:=fun b=>(a b).bind fun r=>(opt (s r.2)).bind fun h=>(opt (k r.2)).bind fun e=>(opt (rsv r.2 e)).bind fun y=>(opt (yJ y)).bind fun n=>match h with
 |.p i π=>(opt (qZd r.2 i π)).bind fun c=>(opt (ixN c.length n)).bind fun j=>.ok (.nx (setE r.2 i π (.ow .lst (c.set j r.1))))
 |.d _=>.no
theorem OsAt.put{K:aQ}{F:Hp}{os:List O}{b:Fp}{o:O}{u:V}(h:OsAt K c F H os vs b)(d:j<os.length)(e:OAt K c F H o u Z):∃Y,OsAt K c F H (os.set j o) (vs.set j u) Y/\∀a,Y a<=b a+Z a:=by
 obtain⟨v,i,R,k,l,f,g⟩:=h.focus (aD d);exact⟨_,g F H o u Z (Same.refl _) (fun _ _=>rfl) e,fun a=>by rw[f];(try dsimp only);omega⟩
section
variable{X:Cx}{c:Nat->aX}{E:XK}{o k e:Expr}{pos pos' :Pos}{s sk:SP}{a:SE}
theorem zW8(M:X.A.units+1<eA)(N:OD X c E o (.p s))(hk:OD X c E k (.p sk))(O:ED X c E e a)(hs:swapsWith e (some (.Subscript o k pos')) pos.line X.env=pure false:=by rfl):
  SD X c E (.Assign [.Subscript o k pos'] e pos) (vQo s sk a):=by
 refine⟨PS.imp (zXt M N.h hk.h O.h hs) fun D σ H=>?_⟩;rintro⟨env,B,W,P,w⟩;refine⟨env,B,W,P,qC (fun r Q u R I Z g=>?_) (fun _ _ S=>S) (qY.mp w)⟩;obtain⟨h,T,U⟩:=qB Q;obtain⟨n,V,w3⟩:=qB U;obtain⟨y,e3,w4⟩:=qB w3;obtain⟨b,e4,J⟩:=qB w4;refine⟨r.2,_,I,h,g.cf,T,fun x hx=>⟨r.2,_,I,n,g.cf,V,fun yv hy=>?_⟩⟩;cases h with
 |d x=>exact J.elim
 | p i π=>
   obtain⟨q,e5,w6⟩:=qB J;obtain⟨hl,f⟩:=vN w6;have t :vC R σ i π=some x:=hx;obtain⟨p,v,Zk,K,⟨l,z,C⟩,m,L⟩:=g.cf.mut (vVb e5);rw[t]at K;cases K;rw[qZu (wX g.cf hy e3) e4];have hz:(q.1.zip v).length<aS:=by rw[List.length_zip,m.length];exact Nat.lt_of_le_of_lt (Nat.min_le_right _ _) (qY2 (of_decide_eq_true hl))
   refine⟨p,_,rfl,DPut.k C hz,?_⟩;rw[vJi l z];unfold putO at f;cases e6:kidx b q.1 with
   | some j=>
     rw[e6]at f;obtain⟨Y,y1,y2⟩:=m.put (by rw[←m.length,←l];exact(vV4 e6).1) g.at_;obtain⟨F,G,c2,_⟩:=L (.dct q.1) _ _ Y (fun _=>0) (.dK (q.1.zip (v.set j u))) y1 (fun a=>by have:=y2 a;omega) ⟨by rw[bI];exact l,z,upd_same⟩ trivial (by rw[C];trivial);exact f σ _ F (g.st.trans (c2.cast (fun _=>rfl) (fun _=>rfl) fun _=>rfl)) (G.cast (fun _=>rfl) fun _=>rfl)
   | none=>
     rw[e6]at f;obtain⟨F,G,c2,_⟩:=L (.dct (q.1 ++ [b])) _ _ _ (fun _=>0) (.dK ((q.1 ++ [b]).zip (v ++ [u]))) (m.append (OsAt.one.mpr g.at_)) (fun a=>by(try dsimp only);omega) ⟨by rw[aB,aB,l];rfl,qKy z (qXn e6),upd_same⟩ trivial (by rw[C];trivial);exact f σ _ F (g.st.trans (c2.cast (fun _=>rfl) (fun _=>rfl) fun _=>rfl)) (G.cast (fun _=>rfl) fun _=>rfl)
theorem vVz(J:OD X c E o (.p s))(hk:OD X c E k (.p sk))(K:ED X c E e a)(hs:swapsWithSole [.Subscript o k pos'] e pos.line X.env=pure false:=by rfl)(L:swappedStores [.Subscript o k pos'] e X.env=pure none:=by rfl)(h1:(assignEach [.Subscript o k pos'] X.env).map (·.2)=[assign (.Subscript o k pos') X.env]:=by rfl)(ha:∀v,assign (.Subscript o k pos') X.env v=(do
   let ov ←holding [v] (eval o X.env);let iv ←holding [v,ov] (eval k X.env);standAt pos';holding [v,ov,iv] (setItem ov iv v);release [v,ov,iv] []):=by intro _;rfl):SD X c E (.Assign [.Subscript o k pos'] e pos) (sSetI s sk a):=by
 refine⟨PS.imp (jVa K.h (jVh J.h hk.h zZ2 ha) hs L h1) fun D σ H=>?_⟩;rintro⟨env,B,W,M,w⟩;refine⟨env,B,W,M,qC (fun r N u z A Z g=>?_) (fun _ _ O=>O) (qY.mp w)⟩;obtain⟨h,P,Q⟩:=qB N;obtain⟨m,R,S⟩:=qB Q;obtain⟨y,T,U⟩:=qB S;obtain⟨n,V,C⟩:=qB U;refine⟨r.2,_,A,h,g.cf,P,fun x hx=>⟨r.2,_,A,m,g.cf,R,fun yv hy=>?_⟩⟩;cases h with
 |d x=>exact C.elim
 | p i π=>
   obtain⟨os,e5,w6⟩:=qB C;obtain⟨j,e6,w7⟩:=qB w6;have q :vC z σ i π=some x:=hx;obtain⟨p,l,Zk,F,G,I,k6⟩:=g.cf.mut (qXl e5);rw[q]at F;cases F;have b:=I.length;have f :ixN l.length n=some j:=by rw[b];exact e6
   refine⟨p,l,n,j,rfl,zR (wX g.cf hy T) V,G,f,?_⟩;have hj:j<os.length:=by rw[←b];have:=(vV5 f).2.1;omega
   obtain⟨Y,y1,y2⟩:=I.put hj g.at_;obtain⟨W',c1,c2,_⟩:=k6 .lst _ _ Y (fun _=>0) (.lst (l.set j u)) y1 (fun a=>by have:=y2 a;omega) upd_same trivial (by have t :z p=some (.lst l):=G;rw[t];trivial);exact w7 σ _ W' (g.st.trans (c2.cast (fun _=>rfl) (fun _=>rfl) fun _=>rfl)) (c1.cast (fun _=>rfl) fun _=>rfl)
end
theorem vJk{f:Str}:∀{fs:List Str} {vs:List V},fs.length=vs.length->putF f v (fs.zip vs)=match fidx f fs with
  |some j=>fs.zip (vs.set j v)
  |none=>(fs ++ [f]).zip (vs ++ [v])
 |[],[],_=>rfl
 | g::r,w::vs,h=>by
   rw[cB];simp only[putF,fidx];by_cases q:f=g
   ·simp_all
   ·rw [if_neg q,if_neg fun z=>q z.symm,vJk (Nat.succ.inj h)];cases fidx f r <;> rfl
 |[],_::_,h=>by cases h
 |_::_,[],h=>by cases h
theorem qKn{f:Str}:∀{fs:List Str} {j:Nat},fidx f fs=some j->fs[j]?=some f
 |[],j,h=>by cases h
 | g::r,j,h=>by
   simp only[fidx]at h;by_cases q:f=g
   ·rw[if_pos q]at h;cases h;rw[q];rfl
   ·rw [if_neg q] at h;obtain⟨i,a,rfl⟩:=bX.mp h;simpa using qKn a
noncomputable def vQp(C:Nat)(fs:List Str)(os:List O)(f:Str)(o:O):Option O:=match fidx f fs with
 |some j=>cond (!pinF f) (some (.ow (.obj C fs) (os.set j o))) none
 |none=>cond (decide (os.length<1000)) (some (.ow (.obj C (fs ++ [f])) (os ++ [o]))) none
noncomputable def qXw(env:Ev)(i:Nat)(π:List Nat):Option (Nat×List Str×List O):=match getE env i π with
 |some (.ow (.obj C fs) os)=>some (C,fs,os)
 |_=>none
theorem qXk(h:qXw env i π=some q):getE env i π=some (.ow (.obj q.1 q.2.1) q.2.2):=by
 unfold qXw at h;grind
section
variable{K:aQ}{c:Nat->aX}{env:Ev}{σ:L2.St}{H:Hp}{B W Z:Fp}{i:Nat}{π:List Nat}
theorem Cf.fld{f:Str}{o o' :O}{u:V}{p:aX}(x:Cf K c env σ H (hd2 B Z) W)(e:qXw env i π=some q)(z:vC H σ i π=some (.ref p))(n:OAt K c (hide (hd2 (hd2 B Z) W) H) H o u Z)(e2:vQp q.1 q.2.1 q.2.2 f o=some o')(hl:q.2.2.length<=999):
  ∃b fs W',H p=some (.ins (c q.1) b fs)/\fs.length<1000/\Cf K c (setE env i π o') σ (upd H p (.ins (c q.1) b (putF f u fs))) B W' /\Step env σ H B (hd2 W Z) (setE env i π o') σ (upd H p (.ins (c q.1) b (putF f u fs))) W' :=by
 obtain⟨J,h,L,r,⟨g,b,s⟩,k,t⟩:=x.mut (qXk e);rw[z]at r;cases r;refine⟨b,q.2.1.zip h,?_⟩;have v:(q.2.1.zip h).length<1000:=by rw[List.length_zip,k.length];omega
 rw[vJk g];unfold vQp at e2;cases e6:fidx f q.2.1 with
 | some j=>
   rw[e6]at e2;obtain⟨l,m⟩:=vS e2;cases m;have A:j<q.2.2.length:=by
    have:=(aM.mp (qKn e6)).1;rw[←k.length,←g];exact this
   obtain⟨Y,C,D⟩:=k.put A n;obtain⟨W',E,c2,_⟩:=t (.obj q.1 q.2.1) _ _ Y (fun _=>0) (.ins (c q.1) b (q.2.1.zip (h.set j u))) C (fun a=>by have:=D a;omega) ⟨by rw[bI];exact g,b,upd_same⟩ trivial (by
    rw[s];refine⟨_,rfl,fun F G I w d=>?_⟩;rw[List.getElem?_zip_eq_some]at d⊢;refine⟨d.1,?_⟩;rw[cC fun y=>?_]
    ·exact d.2
    ·subst y;rw[qKn e6]at d;cases d.1;rw[w]at l;cases l)
   grind
 | none=>
   rw[e6]at e2;obtain⟨l,m⟩:=vS e2;cases m;obtain⟨W',E,c2,_⟩:=t (.obj q.1 (q.2.1 ++ [f])) _ _ _ (fun _=>0) (.ins (c q.1) b ((q.2.1 ++ [f]).zip (h ++ [u]))) (k.append (OsAt.one.mpr n)) (fun a=>by(try dsimp only);omega) ⟨by rw[aB,aB,g];rfl,b,upd_same⟩ trivial (by
    rw[s];refine⟨_,rfl,fun F G I w d=>?_⟩;rw[qY8 g,dC (aM.mp d).1];exact d)
   grind
end
noncomputable def qQ3(cs:List Nat)(f:Str)(s:SP)(a:SE):SS:=fun b=>(a b).bind fun r=>(opt (s r.2)).bind fun h=>match h with
 |.p i π=>(opt (qXw r.2 i π)).bind fun q=>cond (cs.contains q.1 && decide (q.2.2.length<=999)) ((opt (vQp q.1 q.2.1 q.2.2 f r.1)).bind fun o=>.ok (.nx (setE r.2 i π o))) .no
 |.d _=>.no
noncomputable def vZ1(cs:List Nat)(f:Str)(g:D->D->Option D)(s:SP)(a:SV):SS:=fun b=>(opt (s b)).bind fun h=>match h with
 | .p i π=>(opt (qXw b i π)).bind fun q=>(opt (fidx f q.2.1)).bind fun j=>(opt (q.2.2[j]?)).bind fun e=>match e with
   |.fz x=>cond (cs.contains q.1) ((a b).bind fun r=>cond (stab b r.2 i π) ((opt (g x r.1)).bind fun z=>(opt (qXw r.2 i π)).bind fun c =>cond (decide (c.1=q.1) && decide (c.2.2.length<=999)) ((opt (vQp c.1 c.2.1 c.2.2 f (.fz z))).bind fun o=>.ok (.nx (setE r.2 i π o))) .no) .no) .no
   |.ow _ _=>.no
 |.d _=>.no
section
variable{X:Cx}{c:Nat->aX}{E:XK}{o e:Expr}{f:Str}{pos pos' :Pos}{s:SP}{a:SE}{cs:List Nat}
theorem zW7(ok:xP X.K c cs f)(n:OD X c E o (.p s))(t:ED X c E e a)(hs:swapsWith e (some (.Attribute o f pos')) pos.line X.env=pure false:=by rfl):SD X c E (.Assign [.Attribute o f pos'] e pos) (qQ3 cs f s a):=by
 refine⟨PS.imp (jQ9 n.h t.h hs) fun D σ H=>?_⟩;rintro⟨env,B,W,v,w⟩;refine⟨env,B,W,v,qC (fun r y u z A Z g=>?_) (fun _ _ C=>C) (qY.mp w)⟩;obtain⟨h,F,k⟩:=qB y;refine⟨r.2,_,A,h,g.cf,F,fun x G=>?_⟩;cases h with
 |d x=>exact k.elim
 | p i π=>
   obtain⟨q,l,I⟩:=qB k;obtain⟨j,J⟩:=vN I;obtain⟨U,L,M⟩:=qB J;rw[aF]at j;have b :vC z σ i π=some x:=G;obtain⟨p,_,_,m,_⟩:=g.cf.mut (qXk l);rw[b]at m;cases m;obtain⟨N,fs,O,P,Q,R,S⟩:=g.cf.fld l b g.at_ L (of_decide_eq_true j.2);obtain⟨T,c2⟩:=ok q.1 (has_mem j.1);exact⟨p,_,N,fs,rfl,P,T,c2,Q,M σ _ O (g.st.trans S) R⟩
theorem zW9{op:Operator}{P:V->V->Hp->VK->Prop}{g:D->D->Option D}{t:SV}(ok:xP X.K c cs f)(ho:OD X c E o (.p s))(hv:EV X c E e t)(C:InOp X op P)(hp:PrS2 X.K c P g):SD X c E (.AugAssign (.Attribute o f pos') op e pos) (vZ1 cs f g s t):=by
 refine⟨PS.imp (vKs ho.h hv.h C) fun D σ H=>?_⟩;rintro⟨b,B,W,n,w⟩;obtain⟨h,e1,Q⟩:=qB w;refine⟨b,B,W,h,n,e1,fun x hx=>?_⟩;cases h with
 |d x=>exact Q.elim
 | p i π=>
   obtain⟨q,e2,w3⟩:=qB Q;obtain⟨j,e3,w4⟩:=qB w3;obtain⟨o0,e4,A⟩:=qB w4;cases o0 with
   |ow _ _=>exact A.elim
   | fz y=>
     have m :vC H σ i π=some x:=hx;have F:Cf X.K c b σ H (hd2 B fun _=>0) W:=n.cast (fun _=>rfl) fun _=>rfl
     obtain⟨p,vs,Zk,S,⟨k2,dx,k4⟩,k5,k6⟩:=F.mut (qXk e2);rw[m]at S;cases S;obtain⟨v,Z1,R,g1,g2,g3,_⟩:=k5.focus e4;have hd:DAt X.K c (hide (hd2 B W) H) v y:=g2.1;obtain⟨G,A⟩:=vN A;obtain⟨c1,c2⟩:=ok q.1 (has_mem G);refine⟨p,_,dx,_,v,rfl,k4,c1,c2,qVq e3 g1,b,B,W,n,qC (fun r w6 u T W1 l=>?_) (fun _ _ he=>he) (qY.mp A)⟩;obtain⟨hc,w7⟩:=vN w6;obtain⟨z,e5,w8⟩:=qB w7;obtain⟨q',e6,w9⟩:=qB w8;obtain⟨k,I⟩:=vN w9;obtain⟨o',e7,J⟩:=qB I;rw[aF]at k;have hw:=qXd n l.st l.cf (fun a z=>z) hc m;refine hp v u T y r.1 z _ ((hd.same l.st.same).same qS) (l.at_.same qS) e5 fun v3 L=>?_
     have M:Cf X.K c r.2 σ T (hd2 B fun _=>0) W1:=l.cf.cast (fun _=>rfl) fun _=>rfl
     obtain⟨N,O,W',U,m2,Y,m4⟩:=M.fld e6 hw (Z:=fun _=>0) (u:=v3) (by rw[OAt.fz];exact⟨L _,fun _=>rfl⟩) e7 (of_decide_eq_true k.2);have hq:q'.1=q.1:=of_decide_eq_true k.1;rw[hq]at U Y m4;exact⟨N,O,U,m2,J σ _ W' (l.st.trans (m4.cast (fun _=>rfl) (fun _=>rfl) fun _=>rfl)) Y⟩
end
instance decMul(i j:Int):Decidable (IntMulOk i j):=by unfold IntMulOk;infer_instance
instance decDivP(i j:Int):Decidable (vXw i j):=by unfold vXw;infer_instance
instance decPow(i j:Int):Decidable (CPow i j):=by unfold CPow;infer_instance
noncomputable def i2(g:Int->Int->Int)(x y:D):Option D:=(yJ x).bind fun i=>(yJ y).bind fun j=>some (.int (g i j))
noncomputable def i2g(C:Int->Int->Prop)[∀i j,Decidable (C i j)](g:Int->Int->Int)(x y:D):Option D:=(yJ x).bind fun i=>(yJ y).bind fun j=>if C i j then some (.int (g i j)) else none
noncomputable def c2(g:Int->Int->Bool)(x y:D):Option D:=(yJ x).bind fun i=>(yJ y).bind fun j=>some (.bl (g i j))
theorem vYv{P:Prop}[Decidable P]{x y:α}(h:(if P then some x else none)=some y):P/\x=y:=by
 grind
section
variable{K:aQ}{c:Nat->aX}
theorem zVj(g:Int->Int->Int):PrS2 K c (rI0 fun i j=>.int (g i j)) (i2 g):=fun u w H x y z Q a b e q=>by
 obtain⟨i,d,f⟩:=bnd e;obtain⟨j,h,k⟩:=bnd f;cases k;exact⟨i,j,zR a d,zR b h,q _ fun _=>.int _⟩
theorem vVm(C:Int->Int->Prop)[∀i j,Decidable (C i j)](g:Int->Int->Int):PrS2 K c (rI C fun i j=>.int (g i j)) (i2g C g):=fun u w H x y z Q a b e q=>by
 obtain⟨i,d,f⟩:=bnd e;obtain⟨j,h,k⟩:=bnd f;obtain⟨p,rfl⟩:=vYv k;exact⟨i,j,zR a d,zR b h,p,q _ fun _=>.int _⟩
theorem vZ2(g:Int->Int->Bool):PrS2 K c (rI0 fun i j=>.bl (g i j)) (c2 g):=fun u w H x y z Q a b e q=>by
 obtain⟨i,d,f⟩:=bnd e;obtain⟨j,h,k⟩:=bnd f;cases k;exact⟨i,j,zR a d,zR b h,q _ fun _=>.bl _⟩
theorem zV2(g:Int->Int->Int):PrS2 K c (ipI g) (i2 g):=fun u w H x y z Q a b e q=>by
 obtain⟨i,j,d,f,r⟩:=zVj g u w H x y z Q a b e q;exact⟨i,j,d,f,r⟩
noncomputable def addS(x y:D):Option D:=(zVe x).bind fun i=>(zVe y).bind fun j=>if i.length+j.length<=aS then some (.str (i ++ j)) else none
theorem zXw:PrS2 K c (fun x y H Q=>∃i j,x=.str i/\y=.str j/\i.length+j.length<=aS/\Q (.str (i ++ j)) H) addS:=fun u w H x y z Q a b e q=>by
 obtain⟨i,d,f⟩:=bnd e;obtain⟨j,g,h⟩:=bnd f;obtain⟨p,rfl⟩:=vYv h;exact⟨i,j,qKb a d,qKb b g,p,q _ fun _=>.str _⟩
end
section
variable{K:aQ}{c:Nat->aX}
noncomputable def toV:D->Option V
 |.non =>some .non
 |.int i=>some (.int i)
 |.str x=>some (.str x)
 |.bl b=>some (.bl b)
 |_=>none
noncomputable def allV:List D->Option (List V)
 |[]=>some []
 |d::r=>(toV d).bind fun v=>(allV r).bind fun a=>some (v::a)
theorem vWf{F:Hp}{u:V}{d:D}(h:DAt K c F u d)(e:toV d=some v):u=v/\qJo v=true:=by
 cases h <;> cases e <;> exact⟨rfl,rfl⟩
theorem vZb{F:Hp}:∀{us:List V} {ds:List D} {vs:List V},DsAt K c F us ds->allV ds=some vs->us=vs/\vs.all qJo=true
 |us,[],vs,h,e=>by cases e;exact⟨h.un0,rfl⟩
 | us,d::ds,vs,h,e=>by
   obtain⟨u,r,rfl,a,b⟩:=h.un;obtain⟨v,f,g⟩:=bnd e;obtain⟨k,i,j⟩:=bnd g;cases j;obtain⟨l,m⟩:=vWf a f;obtain⟨n,o⟩:=vZb b i;grind
noncomputable def inB(x y:D):Option Bool:=match y with
 |.nd (.dct ks) _=>(qV7 x).bind fun k=>some (kidx k ks).isSome
 |.nd .lst ds=>(toV x).bind fun v=>(allV ds).bind fun a=>some (inV v a)
 |.nd .tup ds=>(toV x).bind fun v=>(allV ds).bind fun a=>some (inV v a)
 |_=>none
noncomputable def inD(x y:D):Option D:=(inB x y).map .bl
noncomputable def niD(x y:D):Option D:=(inB x y).map fun b=>.bl (!b)
noncomputable def rInA(K:aQ)(neg:Bool):R2:=fun x y H Q=>rIn K neg x y H Q\/∃a o,y=.ref a/\DGet H a x o/\Q (.bl (if neg then !o.isSome else o.isSome)) H
theorem jVy(a:X.A.units+1<eA):OpR X (dX .In) (rInA X.K false):=vK4.or (jVx a)
theorem vK3(a:X.A.units+1<eA):OpR X (dX .NotIn) (rInA X.K true):=vZl.or (vK2 a)
theorem zZg{neg:Bool}{u w:V}{x y:D}{b:Bool}(i:DAt K c H u x)(l:DAt K c H w y)(e:inB x y=some b)(q:Q (.bl (if neg then !b else b)) H):rInA K neg u w H Q:=by
 unfold inB at e;split at e
 ·obtain⟨k,a,d⟩:=bnd e;cases d;obtain⟨p,f,rfl,⟨g,h,z⟩,A⟩:=l.un;rw[qZu i a];refine .inr ⟨p,_,rfl,vWq z,?_⟩;rw[qZn g];rename_i m ds;have:((kidx k m).bind fun j=>f[j]?).isSome =(kidx k m).isSome :=by
   cases e5:kidx k m with
   |none=>rfl
   | some j=>
     have:=(vV4 e5).1;grind
  grind
 ·obtain⟨v,a,d⟩:=bnd e;obtain⟨n,o,r⟩:=bnd d;cases r;obtain⟨p,f,rfl,g,h⟩:=l.un;obtain⟨g1,g2⟩:=vWf i a;obtain⟨s,t⟩:=vZb h o;subst g1 s;exact .inl ⟨p,f,rfl,.inl g,g2,t,q⟩
 ·obtain⟨v,a,d⟩:=bnd e;obtain⟨n,o,r⟩:=bnd d;cases r;obtain⟨p,f,rfl,g,h⟩:=l.un;obtain⟨g1,g2⟩:=vWf i a;obtain⟨s,t⟩:=vZb h o;subst g1 s;exact .inl ⟨p,f,rfl,.inr g,g2,t,q⟩
 ·cases e
theorem jJf:PrS2 K c (rInA K false) inD:=fun u w H x y z Q a d e q=>by
 obtain⟨b,f,rfl⟩:=bX.mp e;exact zZg (neg:=false) a d f (q _ fun _=>.bl _)
theorem zJd:PrS2 K c (rInA K true) niD:=fun u w H x y z Q a d e q=>by
 obtain⟨b,f,rfl⟩:=bX.mp e;exact zZg (neg:=true) a d f (q _ fun _=>.bl _)
noncomputable def negD(x:D):Option D:=(yJ x).bind fun i=>some (.int (-i))
end
noncomputable abbrev oAdd:=o2 (i2 fun i j=>i+j)
noncomputable abbrev oSub:=o2 (i2 fun i j=>i - j)
noncomputable abbrev oMul:=o2 (i2g IntMulOk fun i j=>i * j)
noncomputable abbrev oDiv:=o2 (i2g vXw fun i j=>i / j)
noncomputable abbrev oMod:=o2 (i2g (fun _ j=>0<j) fun i j=>i % j)
noncomputable abbrev oPow:=o2 (i2g CPow fun i j=>i ^ j.toNat)
noncomputable abbrev oLt:=o2 (c2 fun i j=>decide (i<j))
noncomputable abbrev oLe:=o2 (c2 fun i j=>decide (i<=j))
noncomputable abbrev oGt:=o2 (c2 fun i j=>decide (j<i))
section
variable{X:Cx}{c:Nat->aX}{E:XK}{a b d e:Expr}{oa ob oc:Oe}{pos:Pos}{k:Nat}
theorem qQk(ha:OD X c E a oa)(hb:OD X c E b ob):OD X c E (.BinOp a .Add b pos) (oAdd oa ob):=qYr jVz (zVj _) ha hb
theorem qYt(ha:OD X c E a oa)(hb:OD X c E b ob):OD X c E (.BinOp a .Sub b pos) (oSub oa ob):=qYr jVt (zVj _) ha hb
theorem vQs(ha:OD X c E a oa)(hb:OD X c E b ob):OD X c E (.BinOp a .Mult b pos) (oMul oa ob):=qYr zYf (vVm _ _) ha hb
theorem qQj(ha:OD X c E a oa)(hb:OD X c E b ob):OD X c E (.BinOp a .FloorDiv b pos) (oDiv oa ob):=qYr zJp (vVm _ _) ha hb
theorem jT(ha:OD X c E a oa)(hb:OD X c E b ob):OD X c E (.BinOp a .Mod b pos) (oMod oa ob):=qYr jVw (vVm _ _) ha hb
theorem jJr(ha:OD X c E a oa)(hb:OD X c E b ob):OD X c E (.BinOp a .Pow b pos) (oPow oa ob):=qYr jVu (vVm _ _) ha hb
theorem jV2(ha:OD X c E a oa)(hb:OD X c E b ob):OD X c E (.BinOp a .Add b pos) (o2 addS oa ob):=qYr vW9 zXw ha hb
theorem o_lt(ha:OD X c E a oa)(hb:OD X c E b ob):OD X c E (.Compare a [.Lt] [b] pos) (oLt oa ob):=qW7 zKw (vZ2 _) ha hb (xS _)
theorem o_le(ha:OD X c E a oa)(hb:OD X c E b ob):OD X c E (.Compare a [.LtE] [b] pos) (oLe oa ob):=qW7 jJl (vZ2 _) ha hb (xS _)
theorem o_gt(ha:OD X c E a oa)(hb:OD X c E b ob):OD X c E (.Compare a [.Gt] [b] pos) (oGt oa ob):=qW7 zKx (vZ2 _) ha hb (xS _)
theorem t_lt(ha:OD X c E a oa)(hb:OD X c E b ob):TD X c E (.Compare a [.Lt] [b] pos) (asB (oLt oa ob)):=qZf zKw (vZ2 _) ha hb (xS _)
theorem t_gt(ha:OD X c E a oa)(hb:OD X c E b ob):TD X c E (.Compare a [.Gt] [b] pos) (asB (oGt oa ob)):=qZf zKx (vZ2 _) ha hb (xS _)
theorem t_in(d:Room k X.A)(ha:OD X c E a oa)(hb:OD X c E b ob)(e:behindInMarks .In b=false:=by rfl):TD X c E (.Compare a [.In] [b] pos) (asB (o2 inD oa ob)):=qZf (jVy (qV8 d)) jJf ha hb e
theorem vXz(d:Room k X.A)(ha:OD X c E a oa)(hb:OD X c E b ob)(e:behindInMarks .NotIn b=false:=by rfl):TD X c E (.Compare a [.NotIn] [b] pos) (asB (o2 niD oa ob)):=qZf (vK3 (qV8 d)) zJd ha hb e
theorem qXx(ha:OD X c E a oa):OD X c E (.UnaryOp .USub a pos) (o1 negD oa):=jJn jQk (fun u H x z Q b e q=>by
 obtain⟨i,d,f⟩:=bnd e;cases f;exact⟨i,zR b d,q _ fun _=>.int _⟩) ha
theorem o_ix(d:Room k X.A)(ha:OD X c E a oa)(hb:OD X c E b ob)(hs:qYo b:=by exact fun _ _=>rfl):OD X c E (.Subscript a b pos) (oIx oa ob):=jJp (qV8 d) ha hb hs
end
noncomputable def iSeq(K:aQ)(d:TE):TI:=fun σ H R=>d σ H fun x b=>∃a,x=.ref a/\(((∃c,SqL K b a c)/\R (Itl K a) b)\/((∃c,SqT K b a c)/\R (Itt K a) b))
theorem jVe{l:Expr}{k:TE}(hl:PE X l k):PI X tg l (iSeq X.K k):=by
 intro f s σ H R I h;refine thn (hl f s σ H _ I h) fun v c ⟨x,m,d,n,i⟩=>?_
 obtain⟨a,e,i⟩:=i;subst e;cases n;rcases i with⟨⟨r,j⟩,q⟩|⟨⟨r,j⟩,q⟩
 ·obtain⟨g,t,p,u⟩:=d.list j;refine wpAny_pyIter_list p.isList ?_
  refine⟨c.heap.objs.size,[c.heap.objs.size],_,_,m,rfl,d.kept (t' :=c.toks) fun b o e=>aJ _ e,vKl a _,⟨_,aP _ rfl,rfl,rfl⟩,fun b hb=>?_,q⟩;have e:b=c.heap.objs.size:=by simpa using hb
  subst e;exact d.fpOk (aC _) (d.hok.fresh (aC _))
 ·obtain⟨g,t,p,u⟩:=d.tuple j;refine wpAny_pyIter_tuple (show c.heap.IsTuple a g.toArray from p) ?_
  refine⟨c.heap.objs.size,[c.heap.objs.size],_,_,m,rfl,d.kept (t' :=c.toks) fun b o e=>aJ _ e,vWx a _,⟨_,aP _ rfl,rfl,rfl⟩,fun b hb=>?_,q⟩;have e:b=c.heap.objs.size:=by simpa using hb
  subst e;exact d.fpOk (aC _) (d.hok.fresh (aC _))
section
variable{K:aQ}{c:Nat->aX}{F:Hp}{a b:aX}{xs ys:List V}{ds es:List D}
theorem zJ3(h:SqL K F a xs)(k:DsAt K c F xs ds):ItD K c F (Itl K a) ds:=by
 intro i H T e hb;have b :SqL K H a xs:=jG qS (jG e h);refine⟨fun d g=>?_,fun m=>⟨xs,b,by rw[k.len];omega⟩⟩;obtain⟨v,f,j⟩:=k.get g;refine⟨⟨xs,v,b,f⟩,fun x n y=>?_⟩;obtain⟨rfl,l⟩:=y;have:=l xs b;rw[f]at this;cases this;exact⟨Same.refl _,j.same e⟩
theorem zYu(h:SqT K F a xs)(k:DsAt K c F xs ds):ItD K c F (Itt K a) ds:=by
 intro i H T e hb;have b :SqT K H a xs:=qS.tup (e.tup h);refine⟨fun d g=>?_,fun m=>⟨xs,b,by rw[k.len];omega⟩⟩;obtain⟨v,f,j⟩:=k.get g;refine⟨⟨xs,v,b,f⟩,fun x n y=>?_⟩;obtain⟨rfl,l⟩:=y;have:=l xs b;rw[f]at this;cases this;exact⟨Same.refl _,j.same e⟩
noncomputable def rngD(lo:Int)(n:Nat):List D:=(List.range n).map fun(j:Nat)=>D.int (lo+(j:Int))
theorem zYv{lo:Int}:ItD K c F (Itr lo n) (rngD lo n):=by
 intro i H T g hb;unfold rngD;refine⟨fun d a=>?_,fun b=>by rw[aZ,cV]at b;exact Nat.le_of_eq b.symm⟩;rw[bM]at a;cases q:(List.range n)[i]? with
 |none=>rw[q]at a;cases a
 | some j=>
   rw[q]at a;cases a;obtain⟨f,e⟩:=aM.mp q;rw[List.getElem_range]at e;subst e;rw[cV]at f;refine⟨f,fun x h y=>?_⟩;obtain⟨rfl,rfl⟩:=y;exact⟨Same.refl _,.int _⟩
def zipD:List D->List D->List D
 |d::ds,e::es=>D.tup [d,e]::zipD ds es
 |_,_=> []
theorem wF:∀(ds es:List D),(zipD ds es).length =min ds.length es.length
 |[],es=>by simp[zipD]
 |d::ds,[]=>by simp[zipD]
 |d::ds,e::es=>by simp only[zipD,aU,wF ds es];omega
theorem zipD_get:∀{ds es:List D} {i:Nat} {z:D},(zipD ds es)[i]?=some z->∃d e,ds[i]?=some d/\es[i]?=some e/\z=D.tup [d,e]
 |[],es,i,z,h=>by simp[zipD]at h
 |d::ds,[],i,z,h=>by simp[zipD]at h
 |d::ds,e::es,0,z,h=>by simp only[zipD,eW,Option.some.injEq]at h;exact⟨d,e,rfl,rfl,h.symm⟩
 | d::ds,e::es,i + 1,z,h=>by
   obtain⟨a,b,c,f,g⟩:=zipD_get (ds:=ds) (es:=es) (i:=i) (z:=z) (by simpa[zipD] using h);exact⟨a,b,by simpa using c,by simpa using f,g⟩
theorem vJl{T:Fp}{x y:V}{d e:D}{p:aX}(g:H p=none)(hb:∀a,T a≠0->∃o,H a=some o/\Hb o)(h:DAt K c (hide T H) x d)(i:DAt K c (hide T H) y e):Same H (upd H p (.tup [x,y]))/\DAt K c (hide T (upd H p (.tup [x,y]))) (.ref p) (D.tup [d,e]):=by
 have b:Same H (upd H p (.tup [x,y])):=.upd g;have j:T p=0:=by
  grind
 have f:Same (hide T H) (hide T (upd H p (.tup [x,y]))):=zU fun a o z q=>⟨z,b a o q⟩
 exact⟨b,.of (k:=.tup) (SqT.of (by rw[vH j,upd_same])) (.cons (h.same f) (.cons (i.same f) .nil))⟩
noncomputable def j3:Nat->List D->List D
 |_,[]=> []
 |n,d::ds=>D.tup [.int (n:Int),d]::j3 (n+1) ds
theorem qV2:∀(n:Nat) (ds:List D),(j3 n ds).length =ds.length
 |_,[]=>rfl
 |n,d::ds=>by simp only[j3,aU,qV2 (n+1) ds]
theorem enumD_get:∀{n:Nat} {ds:List D} {i:Nat} {z:D},(j3 n ds)[i]?=some z->∃d,ds[i]?=some d/\z=D.tup [.int ((n+i:Nat):Int),d]
 |n,[],i,z,h=>by simp[j3]at h
 |n,d::ds,0,z,h=>by simp only[j3,eW,Option.some.injEq]at h;exact⟨d,rfl,h.symm⟩
 | n,d::ds,i + 1,z,h=>by
   obtain⟨a,b,c⟩:=enumD_get (n:=n+1) (ds:=ds) (i:=i) (z:=z) (by simpa[j3] using h);grind
theorem zJ4(h:SqL K F a xs)(k:DsAt K c F xs ds):ItD K c F (Ite K a) (j3 0 ds):=by
 intro i H T b hb;have g1:SqL K H a xs:=jG qS (jG b h);refine⟨fun z f=>?_,fun g=>⟨xs,g1,by rw[qV2,←k.len]at g;omega⟩⟩;obtain⟨d,j,rfl⟩:=enumD_get f;obtain⟨v,e,l⟩:=k.get j;refine⟨⟨xs,v,g1,e⟩,fun x o y=>?_⟩;obtain⟨p,rfl,m,n⟩:=y;rw[n xs v g1 e,bG];exact vJl m hb (.int _) (l.same b)
theorem zYw(h:SqL K F a xs)(k:DsAt K c F xs ds):ItD K c F (Itv K a xs.length) ds.reverse:=by
 intro i H T f hb;have g1:SqL K H a xs:=jG qS (jG f h);have g:=k.len;refine⟨fun z b=>?_,fun d=>⟨xs,g1,rfl,by rw[List.length_reverse]at d;omega⟩⟩;have d:i<ds.length:=by
  have:=(aM.mp b).1;rw[List.length_reverse]at this;exact this
 rw[List.getElem?_reverse d]at b;obtain⟨v,e,j⟩:=k.get b;rw[←g]at e;refine⟨⟨xs,v,g1,rfl,by omega,e⟩,fun x m y=>?_⟩;obtain⟨rfl,l⟩:=y;have:=l xs g1;rw[e]at this;cases this;exact⟨Same.refl _,j.same f⟩
end
noncomputable def qXu:D->Option (List D)
 |.nd .lst ds=>some ds
 |.nd .tup ds=>some ds
 |_=>none
noncomputable def qQl:D->Option (List D)
 |.nd .lst ds=>some ds
 |_=>none
noncomputable def vQm:D->Option (List D)
 |.nd .tup ds=>some ds
 |_=>none
section
variable{K:aQ}{c:Nat->aX}{F:Hp}{u:V}{d:D}{ds:List D}
theorem qKk(h:DAt K c F u d)(e:qQl d=some ds):∃p vs,u=.ref p/\SqL K F p vs/\DsAt K c F vs ds:=by
 unfold qQl at e;split at e
 ·cases e;exact h.un
 ·cases e
theorem zZy(h:DAt K c F u d)(e:vQm d=some ds):∃p vs,u=.ref p/\SqT K F p vs/\DsAt K c F vs ds:=by
 unfold vQm at e;split at e
 ·cases e;exact h.un
 ·cases e
theorem zZ4(h:DAt K c F u d)(e:qXu d=some ds):∃p vs,u=.ref p/\(SqL K F p vs\/SqT K F p vs)/\DsAt K c F vs ds:=by
 unfold qXu at e;split at e
 ·cases e;obtain⟨p,vs,a,b,r⟩:=h.un;exact⟨p,vs,a,.inl b,r⟩
 ·cases e;obtain⟨p,vs,a,b,r⟩:=h.un;exact⟨p,vs,a,.inr b,r⟩
 ·cases e
end
noncomputable def iV(s:SV):SI:=fun a=>(s a).bind fun r=>(opt (qXu r.1)).bind fun ds=>.ok (ds,r.2)
noncomputable def iL(f:List D->Option (List D))(b:List SV):SI:=fun a=>(evVs b a).bind fun r=>(opt (f r.1)).bind fun ds=>.ok (ds,r.2)
noncomputable def in62(j:Int):Bool:=decide (-(2 ^ 62)<=j) && decide (j<2 ^ 62)
theorem vYu{j:Int}(h:in62 j=true): -(2 ^ 62)<=j/\j<2 ^ 62:=by
 unfold in62 at h;rw[aF]at h;exact⟨of_decide_eq_true h.1,of_decide_eq_true h.2⟩
noncomputable def rg1:List D->Option (List D)
 |[.int j]=>cond (in62 j) (some (rngD 0 j.toNat)) none
 |_=>none
noncomputable def zpL:List D->Option (List D)
 |[x,y]=>(qQl x).bind fun ds=>(qQl y).bind fun a=>some (zipD ds a)
 |_=>none
noncomputable def zpT:List D->Option (List D)
 |[x,y]=>(vQm x).bind fun ds=>(vQm y).bind fun a=>some (zipD ds a)
 |_=>none
noncomputable def zpM:List D->Option (List D)
 |[x,y]=>(vQm x).bind fun ds=>(qQl y).bind fun a=>some (zipD ds a)
 |_=>none
noncomputable def enL:List D->Option (List D)
 |[x]=>(qQl x).bind fun ds=>some (j3 0 ds)
 |_=>none
section
variable{X:Cx}{c:Nat->aX}{E:XK}{tg e e1 e2:Expr}{s:SV}{ss:List SV}{p pos tpos:Pos}{elts:List Expr}{kk:Nat}
theorem zP(h:EV X c E e s):ID' X c E tg e (iV s):=by
 refine⟨PI.imp (jVe h.h) fun σ H R=>?_⟩;rintro⟨a,B,W,k,w⟩;refine⟨a,B,W,k,qC (fun r l u b d g=>?_) (fun _ _ m=>m) (qY.mp w)⟩;obtain⟨ds,n,f⟩:=qB l;obtain⟨q,i,rfl,b1,j⟩:=zZ4 g.at_ n;rcases b1 with b1|b1
 ·exact⟨q,rfl,.inl ⟨⟨i,jG qS b1⟩,f _ b d g.st g.cf (zJ3 b1 j)⟩⟩
 ·exact⟨q,rfl,.inr ⟨⟨i,qS.tup b1⟩,f _ b d g.st g.cf (zYu b1 j)⟩⟩
theorem ds1{K:aQ}{F:Hp}{x:D}(h:DsAt K c F us [x]):∃u,us=[u]/\DAt K c F u x:=by
 obtain⟨u,r,rfl,a,b⟩:=h.un;rw[b.un0];exact⟨u,rfl,a⟩
theorem ds2{K:aQ}{F:Hp}{x y:D}(h:DsAt K c F us [x,y]):∃u w,us=[u,w]/\DAt K c F u x/\DAt K c F w y:=by
 obtain⟨u,r,rfl,a,b⟩:=h.un;obtain⟨w,rfl,d⟩:=ds1 b;exact⟨u,w,rfl,a,d⟩
theorem qVb(i:Gl X "range")(k:X.mg "range"=none)(ha:VsD X c E [e] ss)(hs:aK [e] X.env=[(false,eval e X.env)]:=by rfl):ID' X c E tg (.Call (.Name "range" p) [e] [] pos) (iL rg1 ss):=by
 refine⟨PI.imp (vKy i k ha.h hs) fun σ H R=>?_⟩;rintro⟨env,B,W,l,w⟩;refine qVe l (qY.mp w) fun r m v n o g=>?_
 obtain⟨ds,b,q⟩:=qB m;have d:=g.at_;unfold rg1 at b;split at b
 ·rename_i j s;rw[s]at d;obtain⟨u,rfl,a⟩:=ds1 d;obtain⟨f,t⟩:=vS b;cases t;cases a;exact⟨j,rfl,(vYu f).1,(vYu f).2,q _ n o g.st g.cf zYv⟩
 ·cases b
theorem qYi(j:Gl X "enumerate")(k:X.mg "enumerate"=none)(ha:VsD X c E [e] ss)(hs:aK [e] X.env=[(false,eval e X.env)]:=by rfl)(d:aK [] X.env=[]:=by rfl):ID' X c E (.Tuple elts kk tpos) (.Call (.Name "enumerate" p) [e] [] pos) (iL enL ss):=by
 refine⟨PI.imp (zX1 j k ha.h hs d) fun σ H R=>?_⟩;rintro⟨env,B,W,l,w⟩;refine qVe l (qY.mp w) fun r m z n o g=>?_
 obtain⟨ds,b,s⟩:=qB m;have f:=g.at_;unfold enL at b;split at b
 ·rename_i x t;rw[t]at f;obtain⟨u,rfl,a⟩:=ds1 f;obtain⟨A,v,y⟩:=bnd b;cases y;obtain⟨q,C,rfl,i,c2⟩:=qKk a v;exact⟨q,rfl,⟨_,jG qS i⟩,s _ n o g.st g.cf (zJ4 i c2)⟩
 ·cases b
end
noncomputable def Res.ne{α:Type}:Res α->Res α
 |.ok a=>.ok a
 |_=>.no
theorem zKk{Q:α->Prop}{E E' :Nat->List (Str×D)->Prop}:∀{x:Res α},x.ne.wp Q E->x.wp Q E'
 |.ok _,h=>h
 |.er _ _,h=>h.elim
 |.no,h=>h.elim
noncomputable def jP(g:SG)(t:ST)(el:SV):List D->Ev->Res (List D×Ev)
 |[],env=>.ok ([],env)
 |d::ds,env=>(opt (g d env)).bind fun a=>(t a).ne.bind fun r=>cond r.1 ((el r.2).ne.bind fun v=>(jP g t el ds v.2).bind fun q=>.ok (v.1::q.1,q.2)) (jP g t el ds r.2)
noncomputable def capO(cs:List (Nat×Nat))(i:Nat):Option Nat:=match cs with
 |[]=>none
 |c::r=>if c.1=i then some c.2 else capO r i
theorem qZw:∀{cs:List (Nat×Nat)} {i j:Nat},capO cs i=some j->(i,j)∈cs
 |[],i,j,h=>by cases h
 | c::r,i,j,h=>by
   simp only[capO]at h;split at h
   ·grind
   ·exact aI _ (qZw h)
theorem vX7:∀{cs:List (Nat×Nat)} {i i' j:Nat},(cs.map (·.2)).Nodup ->(i,j)∈cs->(i',j)∈cs->i=i'
 | c::r,i,i',j,hn,h1,h2=>by
   rw[aL,dW]at hn;rcases aG.mp h1 with a1|a1
   ·grind
   ·rcases aG.mp h2 with a2 | a2
    ·grind
    ·exact vX7 hn.2 a1 a2
noncomputable def capS{α:Type}(cs:List (Nat×Nat))(u:α)(l:List α):Nat->Nat->List α
 |_,0=> []
 | i,n + 1=>(match capO cs i with
   |some j=>l.getD j u
   |none=>u)::capS cs u l (i+1) n
theorem qKq{cs:List (Nat×Nat)}{u:α}{l:List α}:∀(n i:Nat),(capS cs u l i n).length =n
 | 0,i=>rfl
 |n+1,i=>by rw[capS,aU,qKq n]
theorem qW1{cs:List (Nat×Nat)}{u:α}{l:List α}:∀(n i k:Nat),k<n->(capS cs u l i n)[k]?=some (match capO cs (i+k) with
  |some j=>l.getD j u
  |none=>u)
 | 0,i,k,h=>by omega
 |n+1,i,0,h=>by rw[capS];rfl
 | n + 1,i,k + 1,h=>by
   rw[capS,List.getElem?_cons_succ,qW1 n (i+1) k (by omega),show i+1+k=i+(k+1) by omega]
theorem vKp{l:List (Option α)}{v:α}(h:l.getD j none=some v):l[j]?=some (some v):=by
 rw[cD]at h;cases e:l[j]? with
 |none=>rw[e]at h;cases h
 |some o=>rw[e]at h;cases h;rfl
noncomputable def qV5(cs:List (Nat×Nat)):Nat->Nat->Ev->Ev
 |_,0,env=>env
 | i,n + 1,env=>qV5 cs (i + 1) n (match capO cs i with
   |some j=>env.set j .un
   |none=>env)
noncomputable def putI(cs:List (Nat×Nat)):Nat->Ev->Ev->Ev
 |_,[],env=>env
 | i,s::inn,env=>putI cs (i + 1) inn (match capO cs i with
   |some j=>env.set j s
   |none=>env)
noncomputable def vXv(cs:List (Nat×Nat))(T:List Nat)(n m:Nat):Bool:=decide ((cs.map (·.1)).Nodup /\(cs.map (·.2)).Nodup /\∀c∈cs,c.1<n/\c.2<m/\c.1∉T)
theorem qXc{cs:List (Nat×Nat)}:∀{n i:Nat} {env:Ev},(qV5 cs i n env).length =env.length
 | 0,i,env=>rfl
 | n + 1,i,env=>by
   rw[qV5,qXc];grind
theorem vJj{cs:List (Nat×Nat)}:∀{inn:Ev} {i:Nat} {env:Ev},(putI cs i inn env).length =env.length
 |[],i,env=>rfl
 | s::inn,i,env=>by
   rw[putI,vJj];grind
theorem vZ9{cs:List (Nat×Nat)}{k:Nat}{o:O}:∀{n i:Nat} {env:Ev},(qV5 cs i n env)[k]?=some (.s true o)->env[k]?=some (.s true o)
 | 0,i,env,h=>h
 | n + 1,i,env,h=>by
   rw[qV5]at h;have:=vZ9 h;grind
theorem vYi{cs:List (Nat×Nat)}{k:Nat}{o:O}:∀{inn:Ev} {i:Nat} {env:Ev},(putI cs i inn env)[k]?=some (.s true o)->env[k]?=some (.s true o)\/∃a,capO cs a =some k/\i<=a /\inn[a - i]?=some (.s true o)
 |[],i,env,h=>.inl h
 | s::inn,i,env,h=>by
   rw[putI]at h;rcases vYi h with h|⟨a,b,c,d⟩
   ·grind
   ·grind
section
variable{K:aQ}{c:Nat->aX}{F H:Hp}{cs:List (Nat×Nat)}
theorem cap_in{env0:Ev}(h2:(cs.map (·.2)).Nodup)(f:∀e∈cs,e.2<env0.length):∀{n i:Nat} {env:Ev} {W:Fp},SlAt K c F H env σ W->(∀b j,i<=b ->capO cs b =some j->env[j]?=env0[j]?)->
  ∃Wi R,SlAt K c F H (capS cs .un env0 i n) (capS cs none σ i n) Wi/\SlAt K c F H (qV5 cs i n env) σ R/\∀a,W a=Wi a+R a
 | 0,i,env,W,h,q=>⟨fun _=>0,W,⟨⟨rfl,h.tab⟩,fun _=>rfl⟩,h,fun a=>by(try dsimp only);omega⟩
 | n + 1,i,env,W,h,q=>by
   cases e:capO cs i with
   | none=>
     obtain⟨Wi,R,g,k,l⟩:=cap_in h2 f (n:=n) (i:=i+1) h fun b j u d=>q b j (by omega) d
     refine⟨Wi,R,?_,?_,l⟩
     ·rw [capS,capS,e];exact⟨none,_,fun _=>0,Wi,rfl,fun _=>rfl,g,fun a=>by(try dsimp only);omega⟩
     ·rw[qV5,e];exact k
   | some j=>
     have m:=qZw e;have o:j<env0.length:=f _ m;have v:env[j]?=some env0[j]:=by rw[q i j (aC _) e];exact aD o
     obtain⟨x,p,w,r,y,A,B⟩:=h.focus v;have s:=B F H .un x (fun _=>0) w (Same.refl _) (fun _ _=>rfl) (fun _=>rfl) fun a=>by(try dsimp only);omega
     rw[xI r]at s;obtain⟨Wi,R,g,k,l⟩:=cap_in h2 f (n:=n) (i:=i+1) s fun b t u d=>by
      have C:j≠t :=fun z=>by
       subst z;have:=vX7 h2 m (qZw d);omega
      rw[cC C];exact q b t (by omega) d
     refine⟨fun a=>p a+Wi a,R,?_,?_,fun a=>by rw[A,l];(try dsimp only);omega⟩
     ·rw [capS,capS,e];refine⟨x,_,p,Wi,?_,?_,g,fun _=>rfl⟩
      ·dsimp only;rw[cD,r];rfl
      ·dsimp only;rw[cD,aD o];exact y
     ·rw[qV5,e];exact k
theorem cap_out:∀{inn:Ev} {σ2:L2.St} {i:Nat} {env:Ev} {R Wi:Fp},SlAt K c F H inn σ2 Wi->SlAt K c F H env σ R->(∀(k j:Nat),capO cs (i+k)=some j->k<inn.length->j<env.length/\σ2[k]?=σ[j]?)->(∀a,Wi a+R a<=1)->∃W,SlAt K c F H (putI cs i inn env) σ W/\∀a,W a<=Wi a+R a
 |[],σ2,i,env,R,Wi,h,k,q,_=>⟨R,k,fun a=>by omega⟩
 | s::inn,σ2,i,env,R,Wi,h,k,q,nd=>by
   obtain⟨x,r,p,D,rfl,b,t,d⟩:=h;cases e:capO cs i with
   | none=>
     obtain⟨W,g,l⟩:=cap_out (i:=i+1) t k (fun m j n z=>by
      obtain⟨o,f⟩:=q (m+1) j (by rw[show i+(m+1)=i+1+m by omega];exact n) (by rw[aU];omega);exact⟨o,by simpa using f⟩) (fun a=>by have:=nd a;rw[d]at this;omega)
     refine⟨W,?_,fun a=>by have:=l a;rw[d];omega⟩;rw[putI,e];exact g
   | some j=>
     obtain⟨o,f⟩:=q 0 j (by rw[Nat.add_zero];exact e) (by rw[aU];omega);rw[eW]at f;obtain⟨y,E,A,u,G,v,B⟩:=k.focus (aD o);rw[←f]at u;cases u;have w:=B F H s x p (fun a=>p a+A a) (Same.refl _) (fun _ _=>rfl) b fun _=>rfl
     rw[xI f.symm]at w;obtain⟨W,g,l⟩:=cap_out (i:=i+1) t w (fun m C n z=>by
      obtain⟨g1,g2⟩:=q (m+1) C (by rw[show i+(m+1)=i+1+m by omega];exact n) (by rw[aU];omega);exact⟨by rw[bI];exact g1,by simpa using g2⟩) (fun a=>by have:=nd a;rw[d,v]at this;(try dsimp only);omega)
     refine⟨W,?_,fun a=>by have:=l a;(try dsimp only at this);rw[d,v];omega⟩;rw[putI,e];exact g
theorem Cf.write{p:aX}{d:HO}(b:Cf K c env σ H B W)(g:B p≠0)(hb:Hb d):Cf K c env σ (upd H p d) B W:=by
 have e:(hd2 B W) p≠0:=by dsimp only[hd2];omega
 have f:∀a,W a≠0->a≠p:=fun a z y=>by have:=b.nd a;rw[y]at z this;omega
 refine⟨by rw[qKm e];exact b.at_.keep (Same.refl _) fun a z=>qT (f a z),b.nd,fun a z=>?_⟩;by_cases y:a=p
 ·subst y;exact⟨d,upd_same,hb⟩
 ·rw[qT y];exact b.hb a z
end
noncomputable def compS(n:Nat)(cs:List (Nat×Nat))(T:List Nat)(it:SI)(g:SG)(t:ST)(el:SV):SE:=fun a=>(it a).bind fun r=>cond (vXv cs T n r.2.length && decide (r.1.length<=lim))
 ((jP g t el r.1 (capS cs .un r.2 0 n)).bind fun q=>.ok (.ow .lst (q.1.map .fz),putI cs 0 q.2 (qV5 cs 0 n r.2))) .no
structure TDs(X:Cx)(c:Nat->aX)(E:XK)(ifs:List Expr)(t:ST):Prop where
 h:PTs X ifs (tT X.K c E t)
noncomputable def bTrue:ST:=fun a=>.ok (true,a)
theorem PTs.imp{e:List Expr}{t:TT}(h:PTs X e t)(k:∀σ H Q,t' σ H Q->t σ H Q):PTs X e t' :=fun a s σ H Q I q=>h a s σ H Q I (k σ H Q q)
theorem wJ:TDs X c E [] bTrue:=by
 refine⟨PTs.imp zXo fun σ H Q=>?_⟩;rintro⟨a,B,W,b,w⟩;exact w H W .refl b
theorem qWm{t:ST}(h:TD X c E e t):TDs X c E [e] t:=⟨zXn h.h⟩
noncomputable abbrev EN' :XK:=fun _ _ _=>False
set_option maxHeartbeats 1000000 in
theorem vJc{K:aQ}{cs:List (Nat×Nat)}{T:List Nat}{t:ST}{el:SV}(h:tE K c E (compS n cs T it g t el) σ H Q):
  tComp (tIt K c E it) (tG K c T g) (tT K c EN' t) (tV K c EN' el) (fun σ=>capS cs none σ 0 n) σ H Q:=by
 obtain⟨env,B,W,cf,w⟩:=h;refine⟨env,B,W,cf,qC (fun r1 h1 J N W1 st1 O iter p hp=>?_) (fun _ _ G=>G) (qY.mp w)⟩;obtain⟨ds,e1⟩:=r1;obtain⟨hck,h1⟩:=vN h1;rw[aF]at hck;obtain⟨n1,n2,n3⟩:=(of_decide_eq_true hck.1:(cs.map (·.1)).Nodup /\(cs.map (·.2)).Nodup /\∀c∈cs,c.1<n/\c.2<e1.length/\c.1∉T)
 have hlim:ds.length<=lim:=of_decide_eq_true hck.2;obtain⟨Wi,R,i1,i2,i3⟩:=cap_in n2 (fun e G=>(n3 e G).2.1) (n:=n) (i:=0) O.at_ (fun _ _ _ _=>rfl);have nd1:∀a,B a+(Wi a+R a)<=1:=fun a=>by have:=O.nd a;rw[i3]at this;exact this
 obtain⟨pB,pW⟩:=O.fresh hp;have pWi:Wi p=0/\R p=0:=by have:=i3 p;omega
 have smp:Same N (upd N p (.lst [])):=.upd hp;have d:∀a,a≠p->upd N p (.lst []) a=N a:=fun a z=>qT z
 let f:Fp:=fun a=>B a+R a
 have A:∀a,f a=B a+R a:=fun _=>rfl
 have sm0:Same (hide (hd2 B W1) N) (hide (hd2 (hd2 f (one p)) Wi) (upd N p (.lst []))):=zU fun a o z q=>by
  have ne:a≠p:=fun y=>by rw[y,hp]at q;cases q
  have:=xU ne;have:=i3 a;have:=A a;dsimp only[hd2]at *;exact⟨by omega,by rw[d a ne];exact q⟩
 have cfI:Cf K c (capS cs .un e1 0 n) (capS cs none σ 0 n) (upd N p (.lst [])) (hd2 f (one p)) Wi:=by
  refine⟨i1.keep sm0 fun a z=>d a fun y=>by rw[y]at z;omega,fun a=>?_,fun a z=>?_⟩
  ·have:=nd1 a;have:=A a;by_cases y:a=p
   ·subst y;dsimp only[hd2];rw[wQ];omega
   ·dsimp only[hd2];rw[xU y];omega
  ·by_cases y:a=p
   ·subst y;exact⟨_,upd_same,trivial⟩
   ·rw [d a y];exact O.hbs (by have:=i3 a;have:=A a;dsimp only[hd2]at z;rw[xU y]at z;omega)
 generalize P:(fun r:List D×Ev=>∀u H' W' Z,Got K c env σ H B W (putI cs 0 r.2 (qV5 cs 0 n e1)) H' W' Z (.ow .lst (r.1.map .fz)) u->Q u H')=Post
 let Inv:Nat->Nat->L2.St->List V->Hp->Prop:=fun i m σ2 ys C=>m=ds.length - i/\i<=ds.length/\∃F L out,Step (capS cs .un e1 0 n) (capS cs none σ 0 n) (upd N p (.lst [])) f (hd2 Wi (one p)) F σ2 C (hd2 L (one p))/\Cf K c F σ2 C (hd2 f (one p)) L/\
  C p=some (.lst ys)/\DsAt K c (hide (hd2 (hd2 f (one p)) L) C) ys out/\ys.length<=i/\(∀e∈cs,σ2[e.1]?=(capS cs none σ 0 n)[e.1]?)/\(jP g t el (ds.drop i) F).wp (fun q=>Post (out ++ q.1,q.2)) (fun _ _=>True)
 refine⟨Inv,⟨ds.length,by simp,cF _,_,Wi,[],.refl,cfI,upd_same,.nil,aC _,fun _ _=>rfl,?_⟩,?_⟩
 ·refine qC (fun q hq=>?_) (fun _ _ _=>trivial) (qY.mp h1);subst P;exact hq
 rintro i m σ2 ys C ⟨rfl,hi,F,L,out,l,M,X,dsO,hly,hσ,w2⟩;refine⟨X,qY2 (by omega),?_⟩;have eqI:hide (hd2 (hd2 f (one p)) Wi) (upd N p (.lst []))=hide (hd2 f (hd2 Wi (one p))) (upd N p (.lst [])):=zD fun a=>by dsimp only[hd2];omega
 have eq2:hide (hd2 (hd2 f (one p)) L) C=hide (hd2 f (hd2 L (one p))) C:=zD fun a=>by dsimp only[hd2];omega
 have smI:Same (hide (hd2 B W1) N) (hide (hd2 (hd2 f (one p)) L) C):=sm0.trans (by rw[eqI,eq2];exact l.same);have p0:f p=0:=by rw[A];omega
 have pBp:(hd2 f (one p)) p≠0:=by dsimp only[hd2];rw[wQ];omega
 obtain⟨it1,it2⟩:=iter i C (hd2 (hd2 f (one p)) L) smI (fun a z=>M.hbs z);by_cases Y:i<ds.length
 ·obtain⟨go,yl⟩:=it1 ds[i] (aD Y);refine .inr ⟨go,fun x H3 y=>?_⟩;obtain⟨sm3,hx⟩:=yl x H3 y;rw[List.drop_eq_getElem_cons Y]at w2;obtain⟨e3,e2,w3⟩:=qB w2;refine⟨F,_,L,ds[i],e3,M.grow sm3,hx,e2,fun σ4 W4 st4 cf4 kσ=>⟨e3,_,W4,cf4,qC (fun r q H5 W5 st5 cf5=>?_) (fun _ _ G=>G) (zKk (E' :=erP K c EN' H3 (hd2 f (one p)) W4) (qY.mp w3))⟩⟩;obtain⟨b,e5⟩:=r;have I:=((Step.grow M sm3).trans st4).trans st5;have at5:H5 p=some (.lst ys):=by rw[I.by_ p pBp];exact X
  have hσ4:∀e∈cs,σ4[e.1]?=(capS cs none σ 0 n)[e.1]?:=fun e G=>(kσ e.1 (n3 e G).2.2).trans (hσ e G)
  cases b with
  | false=>
    have l25:=I.lift (B:=f) (Z:=one p) (W' :=hd2 L (one p)) (Y' :=hd2 W5 (one p)) (fun _=>rfl) (fun _=>rfl) (fun _=>rfl);exact⟨ds.length - (i+1),by omega,rfl,Y,e5,W5,out,l.trans l25,cf5,at5,dsO.same I.same,by omega,hσ4,q⟩
  | true=>
    refine⟨e5,_,W5,cf5,qC (fun r q u H6 W6 g6=>?_) (fun _ _ G=>G) (zKk (E' :=erP K c EN' H5 (hd2 f (one p)) W5) (qY.mp q))⟩;obtain⟨v,e6⟩:=r;have S:=I.trans g6.st;have at6:H6 p=some (.lst ys):=by rw[S.by_ p pBp];exact X
    have l26:=S.lift (B:=f) (Z:=one p) (W' :=hd2 L (one p)) (Y' :=hd2 W6 (one p)) (fun _=>rfl) (fun _=>rfl) (fun _=>rfl);have hh6:(hd2 (hd2 f (one p)) W6) p≠0:=by dsimp only[hd2]at *;omega
    have hh7:(hd2 f (hd2 W6 (one p))) p≠0:=by dsimp only[hd2];rw[wQ];omega
    have wr:Step e6 σ4 H6 f (hd2 W6 (one p)) e6 σ4 (upd H6 p (.lst (ys ++ [u]))) (hd2 W6 (one p)):=by
     refine⟨by rw[qKm hh7];exact Same.refl _,fun a z=>qT fun y=>by rw[y]at z;exact z p0,fun a z=>.inl z,fun a z=>?_,fun a _ _=>?_,fun _ o h=>⟨⟨o,h⟩,rfl⟩,rfl⟩
     ·by_cases y:a=p
      ·subst y;rw[upd_same]at z;cases z
      ·rw[qT y]at z;exact z
     ·by_cases y:a=p
      ·subst y;rw[at6];trivial
      ·exact .of (qT y)
    refine⟨at6,ds.length - (i+1),by omega,rfl,Y,e6,W6,out ++ [v],(l.trans l26).trans wr,g6.cf.write pBp trivial,upd_same,?_,by rw[aB,List.length_singleton];omega,hσ4,?_⟩
    ·rw [qKm hh6];exact(dsO.same S.same).append (.cons g6.at_ .nil)
    ·exact qC (fun q hq=>by rw[List.append_assoc];exact hq) (fun _ _ _=>trivial) (qY.mp q)
 ·have hi2:i=ds.length:=by omega
  subst hi2;refine .inl ⟨it2 rfl,?_⟩;rw[List.drop_length]at w2;have w3:Post (out ++ [],F):=w2;rw[cY,←P]at w3;have nd2:∀a,B a+R a+one p a+L a<=1:=fun a=>by have:=M.nd a;have:=A a;dsimp only[hd2]at *;omega
  have U:∀a,R a≠0->C a=N a:=fun a z=>by
   rw[l.by_ a (by rw[A];omega)];exact d a fun y=>by rw[y]at z;omega
  have linn:F.length=n:=by rw[l.len,qKq]
  obtain⟨W3,o1,o2⟩:=cap_out (cs:=cs) (i:=0) M.at_ (i2.keep smI U) (fun k j G hk=>by
   rw[bG]at G;have hm:=qZw G;obtain⟨m1,m2,_⟩:=n3 _ hm;refine⟨by rw[qXc];exact m2,?_⟩;rw[hσ _ hm];show(capS cs none σ 0 n)[k]?=σ[j]?;have hj:j < σ.length:=by rw[←O.len];exact m2
   rw[qW1 n 0 k m1,bG,G];dsimp only;rw[cD,aD hj];rfl) (fun a=>by have:=nd2 a;omega)
  have smE:Same (hide (hd2 (hd2 f (one p)) L) C) (hide (hd2 (hd2 B (one p)) W3) C):=zB fun a z=>by have:=o2 a;have:=A a;dsimp only[hd2]at *;omega
  have eqE:hide (hd2 (hd2 B (one p)) W3) C=hide (hd2 B (hd2 W3 (one p))) C:=zD fun a=>by dsimp only[hd2];omega
  refine w3 (.ref p) C W3 (one p) ⟨st1.trans ⟨by rw[←eqE];exact smI.trans smE,fun a z=>?_,fun a z=>?_,fun a z=>?_,fun a z1 z2=>?_,fun k o h=>⟨?_,rfl⟩,by rw[vJj,qXc]⟩,⟨o1.keep smE fun _ _=>rfl,fun a=>?_,fun a z=>?_⟩,OAt.ow.mpr ⟨p,ys,fun _=>0,rfl,X,OsAt.fzs.mpr ⟨dsO.same smE,fun _=>rfl⟩,fun _=>rfl⟩⟩
  ·rw [l.by_ a (by rw [A];omega)];exact d a fun y=>by rw[y]at z;omega
  ·by_cases y:a=p
   ·exact .inr (by rw[y];exact hp)
   ·have y1:=xU y;have:=o2 a;by_cases q:R a=0
    ·rcases l.new a (by dsimp only [hd2] at *;omega) with q1 | q1
     ·exact .inl (by rw[i3];dsimp only[hd2]at q1;omega)
     ·exact .inr (by rw[d a y]at q1;exact q1)
    ·exact .inl (by rw[i3];omega)
  ·have:=l.dom a z;by_cases y:a=p
   ·subst y;rw[upd_same]at this;cases this
   ·rw[d a y]at this;exact this
  ·have y:a≠p:=fun y=>by rw [y] at z1;exact z1 pW
   have y1:=xU y;by_cases q:R a=0
   ·have:=l.pin a (by have:=i3 a;dsimp only [hd2];omega) (by have:=o2 a;dsimp only [hd2] at *;omega);rw[d a y]at this;exact this
   ·exact .of (U a q)
  ·rcases vYi h with h | ⟨i',k1,_,k3⟩
   ·exact⟨o,vZ9 h⟩
   ·rw [Nat.sub_zero] at k3;obtain⟨⟨o0,k4⟩,_⟩:=l.io i' o k3;have hi' :i'<n:=by rw[←linn];exact(aM.mp k3).1
    rw[qW1 n 0 i' hi',bG,k1]at k4;have k5:=Option.some.inj k4;dsimp only at k5;rw[cD]at k5;cases e:e1[k]? with
    |none=>rw[e]at k5;cases k5
    |some s=>rw[e]at k5;exact⟨o0,by rw[←k5];rfl⟩
  ·have:=nd2 a;have:=o2 a;dsimp only[hd2];omega
  ·exact M.hb a (by have:=A a;dsimp only[hd2]at *;omega)
noncomputable def CapP(X:Cx)(ns:List (Str×NameKind))(Nc:List Str):List (Nat×Nat)->Prop
 |[]=>True
 |c::r=>(∃x,Nc[c.1]?=some x/\X.N[c.2]?=some x/\ns.lookup x=some .cell /\X.env.kindOf x=some .cell)/\CapP X ns Nc r
noncomputable def zVp(X:Cx):List (Str×aX)->Prop
 |[]=>True
 |p::r=>X.env.cells.lookup p.1=some p.2/\zVp X r
theorem vJ0{ns:List (Str×NameKind)}:∀{cs:List (Nat×Nat)} {c:Nat×Nat},CapP X ns Nc cs->c∈cs->∃x,Nc[c.1]?=some x/\X.N[c.2]?=some x/\ns.lookup x=some .cell /\X.env.kindOf x=some .cell
 | d::r,c,h,m=>by
   rcases aG.mp m with rfl|m
   ·exact h.1
   ·exact vJ0 h.2 m
theorem vVc:∀{cl:List (Str×aX)} {x:Str} {c:aX},zVp X cl->cl.lookup x=some c->X.env.cells.lookup x=some c
 |[],x,c,_,e=>by cases e
 | p::r,x,c,h,e=>by
   rw[List.lookup_cons]at e;split at e
   ·rename_i q;have a :x=p.1:=by simpa using q
    cases e;rw[a];exact h.1
   ·exact vVc h.2 e
theorem qJt:∀{cl:List (Str×α)} {x:Str},x∈cl.map (·.1)->∃c,cl.lookup x=some c
 | p::r,x,h=>by
   rw[List.lookup_cons];split
   ·exact⟨_,rfl⟩
   ·rename_i q;rw[aL]at h;rcases aG.mp h with z|z
    ·subst z;simp at q
    ·exact qJt z
theorem qWl{cl:List (Str×aX)}(cs:List (Nat×Nat))(ns:List (Str×NameKind))(xs:List Str)(b:(relabel scope X.env).names =ns)(c:closureFor scope X.env=pure cl)(l:cl.map (·.1)=xs)(hk:scope.kind=.function)(m:∀y∈scope.names,y.2≠ .cell)(n:∀y∈scope.names,y.2=.local ->scope.names.lookup y.1=some .local)(f:zVp X cl)(a:∀y∈ns,y.2=.cell \/y.2=.free ->y.1∈xs)(g:CapP X ns Nc cs):
  Caps X scope cl Nc (fun σ=>capS cs none σ 0 Nc.length) where
 clos:=c;kind:=hk;nocell:=m;names:=n;cells:=fun y d e=>vVc f e
 has:=fun y h=>by
  rw[b]at h;refine qJt ?_
  rw[l];rcases h with h|h
  ·exact a _ (cL h) (.inl rfl)
  ·exact a _ (cL h) (.inr rfl)
 len:=fun σ=>qKq _ _
 cap:=fun σ k y v p i _=>by
  have hk:k<Nc.length:=(aM.mp p).1;rw[qW1 _ 0 k hk,bG]at i;cases q:capO cs k with
  |none=>rw[q]at i;cases i
  | some j=>
    rw[q]at i;obtain⟨x,o,r,t,s⟩:=vJ0 g (qZw q);dsimp only at o r;rw[p]at o;cases o;exact⟨.inl (by rw[b];exact t),.inl s,j,r,vKp (Option.some.inj i),.inr (.inl s)⟩
theorem qZj(hk:scope.kind=.function)(b:∀x∈scope.names,x.2≠ .free)(c:∀x∈scope.names,x.2≠ .cell)(a:∀y∈scope.names,y.2=.local ->scope.names.lookup y.1=some .local):
  Caps X scope [] Nc (fun σ=>capS [] none σ 0 Nc.length):=by
 have e:(fun σ:L2.St=>capS [] none σ 0 Nc.length)=(fun _=>List.replicate Nc.length none):=by
  funext σ;have:∀n i,capS [] (none:Option V) σ i n=List.replicate n none:=fun n=>by
   induction n with
   |zero=>intro i;rfl
   |succ n ih=>intro i;rw[capS,ih,dF];rfl
  grind
 rw[e];exact jWl hk b c a
section
variable{X:Cx}{c:Nat->aX}{E:XK}{tg iter elt:Expr}{ifs:List Expr}{scope:Scope}{cl:List (Str×aX)}{Nc:List Str}{cs:List (Nat×Nat)}{T:List Nat}{pos:Pos}{it:SI}{g:SG}{t:ST}{el:SV}
theorem jU(b:X.calm=true)(d:Caps X scope cl Nc (fun σ=>capS cs none σ 0 Nc.length))(e:ID' X c E tg iter it)(f:∀C s H a,GD (cCx X scope cl C Nc s H a) c tg T g)(i:∀C s H a,TDs (cCx X scope cl C Nc s H a) c EN' ifs t)(j:∀C s H a,EV (cCx X scope cl C Nc s H a) c EN' elt el)(hs:∀x,foldedSetIterable iter X.env x=pure x:=by intro _;rfl):ED X c E (.ListComp elt [⟨tg,iter,ifs,0⟩] scope pos) (compS Nc.length cs T it g t el):=
 ⟨PE.imp (zX5 b d e.h (fun C s H a=>(f C s H a).h) (fun C s H a=>(i C s H a).h) (fun C s H a=>(j C s H a).h) hs) fun _ _ _ h=>vJc h⟩
theorem jQt{K:aQ}{s:SE}{D:Ends}{x:Str}(b:N[i]?=some x)(hl:σ.length=N.length)(h:tS K c E (sSet i s) D σ H):tE K c E s σ H fun x H1=>vXt i x σ H1 D.nx:=by
 obtain⟨a,B,W,d,w⟩:=h;refine⟨a,B,W,d,qC (fun l e u H1 m Z g=>?_) (fun _ _ f=>f) (qY.mp w)⟩;obtain⟨j,k,c2⟩:=g.r.put (vVy g.cf hl b);exact e _ H1 j k c2
theorem vV0{y:Str}{f b:Pos}(j:X.calm=true)(k:X.N.Nodup)(d:X.N[i]?=some y)(l:Loc X.env.scope y)(m:Caps X scope cl Nc (fun σ=>capS cs none σ 0 Nc.length))(o:ID' X c E tg iter it)(p:∀C s H a,GD (cCx X scope cl C Nc s H a) c tg T g)(q:∀C s H a,TDs (cCx X scope cl C Nc s H a) c EN' ifs t)(r:∀C s H a,EV (cCx X scope cl C Nc s H a) c EN' elt el)(e:swapsWith (.ListComp elt [⟨tg,iter,ifs,0⟩] scope pos) (some (.Name y f)) b.line X.env=pure true:=by rfl)(hs:∀x,foldedSetIterable iter X.env x=pure x:=by intro _;rfl)(u:X.fn y=true\/X.env.scope.names.lookup y=some .local :=by first|exact .inl rfl|exact .inr rfl|assumption):
  SD X c E (.Assign [.Name y f] (.ListComp elt [⟨tg,iter,ifs,0⟩] scope pos) b) (sSet i (compS Nc.length cs T it g t el)):=
 ⟨PS.len (PS.imp (zXu j k d l m o.h (fun C s H a=>(p C s H a).h) (fun C s H a=>(q C s H a).h) (fun C s H a=>(r C s H a).h) e hs u) fun D σ H h=>vJc (n:=Nc.length) (cs:=cs) (T:=T) (it:=it) (g:=g) (t:=t) (el:=el) (jQt d h.1 h.2))⟩
end
theorem jVs:zN (CXd P w) X EN' :=v7
noncomputable def evI:Option SV->Ev->Res (Option Int×Ev)
 |none,env=>.ok (none,env)
 |some s,env=>(s env).bind fun r=>(opt (yJ r.1)).bind fun i=>.ok (some i,r.2)
noncomputable def tI(K:aQ)(c:Nat->aX)(E:XK)(s:Option SV):TO:=fun σ H Q=>∃a B W,Cf K c a σ H B W/\(evI s a).wp (fun r=>∀b d,Step a σ H B W r.2 σ b d ->Cf K c r.2 σ b B d ->Q r.1 b) (erP K c E H B W)
structure PD(X:Cx)(c:Nat->aX)(E:XK)(e:Option Expr)(s:Option SV):Prop where
 h:PO X e (tI X.K c E s)
theorem PO.imp{e:Option Expr}{t t' :TO}(h:PO X e t)(k:∀σ H Q,t' σ H Q->t σ H Q):PO X e t' :=fun a s σ H Q I q=>h a s σ H Q I (k σ H Q q)
theorem zYa:PD X c E none none:=by
 refine⟨PO.imp zXy fun σ H Q=>?_⟩;rintro⟨a,B,W,b,w⟩;exact w H W .refl b
theorem zX9{s:SV}(h:EV X c E e s):PD X c E (some e) (some s):=by
 refine⟨PO.imp (zXx h.h) fun σ H Q=>?_⟩;rintro⟨a,B,W,b,w⟩;refine⟨a,B,W,b,qC (fun n d u f j g=>?_) (fun _ _ k=>k) (qY.mp w)⟩;obtain⟨i,l,m⟩:=qB d;exact⟨i,zR g.at_ l,m f j g.st g.cf⟩
noncomputable def cutL{α:Type}(xs:List α)(lo a:Option Int):List α:=(xs.drop (HT.sIx xs.length 0 lo)).take (HT.sIx xs.length xs.length a - HT.sIx xs.length 0 lo)
theorem jZw{K:aQ}{F:Hp}{ds:List D}{lo a:Option Int}(h:DsAt K c F vs ds):DsAt K c F (cutV vs lo a) (cutL ds lo a):=by
 unfold cutV cutL;rw[h.len];exact(h.drop _).take _
noncomputable def eSlL(o:Oe)(lo d:Option SV):SE:=fun a=>(evO o a).bind fun r=>(evI lo r.2).bind fun b=>(evI d b.2).bind fun c=>cond r.1.st ((rsvB c.2 r.1).bind fun x=>(opt (qQl x.1)).bind fun ds=>.ok (.ow .lst ((cutL ds b.1 c.1).map .fz),x.2)) .no
section
variable{X:Cx}{c:Nat->aX}{E:XK}{e:Expr}{lo hi:Option Expr}{pos p2:Pos}{o:Oe}{sl sh:Option SV}
theorem Vw.lst{K:aQ}{F:Hp}{u:V}{x:D}{ds:List D}(s:Same F H)(h:Vw K c F H u x)(e:qQl x=some ds):∃p vs,u=.ref p/\SqL K H p vs/\DsAt K c F vs ds:=by
 unfold qQl at e;split at e
 ·cases e;exact h.un s
 ·cases e
theorem zWf(b:OD X c E e o)(hl:PD X c E lo sl)(z:PD X c E hi sh):ED X c E (.Subscript e (.Slice lo hi none p2) pos) (eSlL o sl sh):=by
 refine⟨PE.imp (zJf zW4 b.h hl.h z.h) fun σ H Q=>?_⟩;rintro⟨A,B,W,C,w⟩;refine qQ2 C (qY.mp w) fun r D u T F g=>?_
 refine⟨r.2,B,F,g.cf,qC (fun n G U I a i=>?_) (fun _ _ b=>b.back g.st) (qY.mp D)⟩;refine⟨n.2,B,I,i,qC (fun J K s V d j=>?_) (fun _ _ b=>b.back (g.st.trans a)) (qY.mp G)⟩;obtain⟨hs,L⟩:=vN K;have ha:=(g.at_.step a.same hs).step d.same hs;obtain⟨x,t,M,l,f,vw,N⟩:=vYe j ha (qY.mp L);obtain⟨ds,O,P⟩:=qB N;obtain⟨p,v,rfl,R,S⟩:=vw.lst qS O;refine⟨p,v,rfl,R,fun q m=>?_⟩;have y:Same s (upd s q (.lst (cutV v n.1 J.1))):=.upd m;exact P (.ref q) _ M _ ((Got.lay f m y (k:=.lst) upd_same ((jZw S).same (qZs f m y))).back (((g.st.trans a).trans d).trans l))
end
section
variable{K:aQ}{c:Nat->aX}
noncomputable def lenD:List D->Option D
 |[.nd .lst ds]=>some (.int ds.length)
 |[.nd .tup ds]=>some (.int ds.length)
 |[.nd (.dct ks) _]=>some (.int ks.length)
 |[.str z]=>cond (decide (z.length<=aS)) (some (.int z.length)) none
 |_=>none
noncomputable def rLen(K:aQ):List V->Hp->VK->Prop:=fun a H Q=>(∃p b,a=[.ref p]/\(SqL K H p b\/SqT K H p b)/\Q (.int b.length) H)\/(∃z,a=[.str z]/\z.length<=aS/\Q (.int z.length) H)\/(∃p c,a=[.ref p]/\Rd H p (.dK c)/\Q (.int (c.length:Nat)) H)
theorem zQ3:zC X (.builtin "len") (fun xs H Q=>∃p a,xs=[.ref p]/\Rd H p (.dK a)/\Q (.int (a.length:Nat)) H):=by
 intro b s σ H xs us Q I r h;obtain⟨p,a,rfl,c,q⟩:=h;obtain⟨u,rfl,d⟩:=yG r;cases d;exact jWh I c fun t f e =>⟨.int a.length,H,e,⟨_,rfl⟩,q⟩
theorem zQ4:zC X (.builtin "len") (rLen X.K):=vZw.or (vZv.or zQ3)
theorem jVc:PrSN K c (rLen K) lenD:=fun l H m z Q d e q=>by
 unfold lenD at e;split at e
 ·cases e;obtain⟨u,rfl,a⟩:=ds1 d;obtain⟨p,f,rfl,b,g⟩:=a.un;exact .inl ⟨p,f,rfl,.inl b,by rw[g.len];exact q _ fun _=>.int _⟩
 ·cases e;obtain⟨u,rfl,a⟩:=ds1 d;obtain⟨p,f,rfl,b,g⟩:=a.un;exact .inl ⟨p,f,rfl,.inr b,by rw[g.len];exact q _ fun _=>.int _⟩
 ·cases e;obtain⟨u,rfl,a⟩:=ds1 d;obtain⟨p,f,rfl,⟨b,g,h⟩,n⟩:=a.un;refine .inr (.inr ⟨p,_,rfl,h,?_⟩);rw[List.length_zip,←b,Nat.min_self];exact q _ fun _=>.int _
 ·rename_i i;obtain⟨j,k⟩:=vS e;cases k;obtain⟨u,rfl,a⟩:=ds1 d;cases a;exact .inr (.inl ⟨i,rfl,of_decide_eq_true j,q _ fun _=>.int _⟩)
 ·cases e
noncomputable def intD:List D->Option D
 |[.int i]=>some (.int i)
 |[.bl k]=>some (.int (if k then 1 else 0))
 |_=>none
theorem jVd:PrSN K c (fun xs H Q=>(∃i,xs=[.int i]/\Q (.int i) H)\/∃k,xs=[.bl k]/\Q (.int (if k then 1 else 0)) H) intD:=fun d H xs z Q b e q=>by
 unfold intD at e;split at e
 ·cases e;obtain⟨u,rfl,a⟩:=ds1 b;cases a;exact .inl ⟨_,rfl,q _ fun _=>.int _⟩
 ·cases e;obtain⟨u,rfl,a⟩:=ds1 b;cases a;exact .inr ⟨_,rfl,q _ fun _=>.int _⟩
 ·cases e
noncomputable def qY7:List D->Option (List Int)
 |[]=>some []
 |d::r=>(yJ d).bind fun i=>(qY7 r).bind fun a=>some (i::a)
theorem qK5:∀xs:List Int,qY7 (xs.map D.int)=some xs
 |[]=>rfl
 |x::xs=>by rw[aL,qY7,qK5 xs];rfl
theorem qXq{F:Hp}:∀{vs:List V} {ds:List D} {ns:List Int},DsAt K c F vs ds->qY7 ds=some ns->vs=ns.map V.int
 |vs,[],ns,h,e=>by cases e;rw[h.un0];rfl
 | vs,d::ds,ns,h,e=>by
   obtain⟨v,r,rfl,a,b⟩:=h.un;obtain⟨i,f,g⟩:=bnd e;obtain⟨l,j,k⟩:=bnd g;cases k;rw[aL,←qXq b j,zR a f]
noncomputable def qYw:List D->Option (List Int)
 |[.nd .lst ds]=>qY7 ds
 |_=>none
theorem zJ7{xs:List D}{ns:List Int}(d:DsAt K c H us xs)(e:qYw xs=some ns):∃p,us=[.ref p]/\SqL K H p (ns.map V.int):=by
 unfold qYw at e;split at e
 ·obtain⟨u,rfl,a⟩:=ds1 d;obtain⟨p,f,rfl,g,h⟩:=a.un;have b :SqL K H p f:=g;rw[qXq h e]at b;grind
 ·cases e
noncomputable def sumD(xs:List D):Option D:=(qYw xs).bind fun a=>some (.int a.sum)
theorem jVb:PrSN K c (fun xs H Q=>∃(p:aX) (ns:List Int),xs=[.ref p]/\SqL K H p (ns.map V.int)/\Q (.int ns.sum) H) sumD:=fun f H xs z Q a e q=>by
 obtain⟨ns,b,d⟩:=bnd e;cases d;obtain⟨p,rfl,h⟩:=zJ7 a b;exact⟨p,ns,rfl,h,q _ fun _=>.int _⟩
noncomputable def listD:List D->Option (List D)
 |[d]=>qXu d
 |_=>none
theorem vws1{F:Hp}{x:D}(h:Vws K c F H us [x]):∃u,us=[u]/\Vw K c F H u x:=by
 cases us with
 |nil=>exact h.elim
 | cons u us=>
   cases us with
   |nil=>exact⟨u,rfl,h.1⟩
   |cons _ _=>exact h.2.elim
theorem Vw.seq{F:Hp}{u:V}{d:D}{ds:List D}(s:Same F H)(h:Vw K c F H u d)(e:qXu d=some ds):∃p vs,u=.ref p/\(SqL K H p vs\/SqT K H p vs)/\DsAt K c F vs ds:=by
 unfold qXu at e;split at e
 ·cases e;obtain⟨p,vs,a,b,r⟩:=h.un s;exact⟨p,vs,a,.inl b,r⟩
 ·cases e;obtain⟨p,vs,a,b,r⟩:=h.un s;exact⟨p,vs,a,.inr b,r⟩
 ·cases e
theorem vK9{T:Fp}{p:aX}(b:H p=none)(c:Same H H'):Same (hide T H) (hide (hd2 T (one p)) H'):=zU fun a o z q=>⟨by
 have d:a≠p:=fun z=>by rw[z,b]at q;cases q
 have:=xU d;dsimp only[hd2];omega,c a o q⟩
theorem zXv:PrF K c (fun xs H Q=>∃p ys,xs=[.ref p]/\(SqL K H p ys\/SqT K H p ys)/\∀l,H l=none->Q (.ref l) (upd H l (.lst ys))) listD:=fun h H T xs ds Q hb d e q=>by
 unfold listD at e;split at e
 ·obtain⟨u,rfl,v⟩:=vws1 d;obtain⟨p,b,rfl,f,g⟩:=v.seq qS e;exact⟨p,b,rfl,f,fun l a=>q l b _ a (.upd a) upd_same (g.same (vK9 a (.upd a)))⟩
 ·cases e
noncomputable def tupleD:List D->Option D
 |[.nd .lst ds]=>some (.tup ds)
 |_=>none
theorem zJa:PrA K c (fun xs H Q=>∃p ys,xs=[.ref p]/\((SqL K H p ys/\∀l,H l=none->Q (.ref l) (upd H l (.tup ys)))\/(SqT K H p ys/\Q (.ref p) H))) tupleD:=fun m H T xs z Q hb f e q=>by
 unfold tupleD at e;split at e
 ·cases e;obtain⟨u,rfl,v⟩:=vws1 f;obtain⟨p,b,rfl,g,h⟩:=v.un qS;refine⟨p,b,rfl,.inl ⟨g,fun l i=>?_⟩⟩;have d:Same H (upd H l (.tup b)):=.upd i;have j:T l=0:=by
   grind
  exact q _ _ d (.of (k:=.tup) (SqT.of (by rw[vH j,upd_same])) (h.same (zU fun a o z y=>⟨z,d a o y⟩)))
 ·cases e
end
noncomputable def jJc(K:aQ):R2:=fun x y H Q=>∃l b a c,x=.ref l/\y=.ref b/\SqL K H l a/\SqL K H b c/\a.length+c.length<=aS/\∀p,H p=none->Q (.ref p) (upd H p (.lst (a ++ c)))
theorem zYg:OpR X (binaryOp .Add) (jJc X.K):=by
 intro k s σ H x y v u Q I rx ry h;obtain⟨l,b,J,L,rfl,rfl,w,hB,M,q⟩:=h;cases rx;cases ry;obtain⟨c,r,pl,_⟩:=I.list w;obtain⟨a,m,e,_⟩:=I.list hB;obtain⟨⟨z,A,o,sl⟩,n,p,B,_,C⟩:=pl;obtain⟨⟨t,f,g,i⟩,D,d,j,_,hd2⟩:=e;subst B C j hd2;have N:=r.length;have E:=m.length;refine concat_meets ⟨_,p,rfl⟩ ⟨_,d,rfl⟩ noFill_list_add seq_list_add PySem.F.slot_list_add PySem.F.entry_list_add (PySem.F.args_list_add_2 _ _) (list_addW l b c.toArray a.toArray n D A f sl i (by simp only[aN];omega)) ⟨p,d,?_⟩;have G:c.toArray ++ a.toArray=(c ++ a).toArray :=by simp
 rw[G];exact⟨.ref _,_,I.lnew (t' :=s.toks) (r.append m) (by rw[aB];omega),rfl,q _ I.fresh⟩
noncomputable def eCat(a b:Oe):SE:=fun c=>(evO a c).bind fun d=>(evO b d.2).bind fun e=>cond (d.1.st || b.isP) ((yH [d.1,e.1] e.2).bind fun q=>match q.1 with
 |[x,y]=>(opt (qQl x)).bind fun ds=>(opt (qQl y)).bind fun f=>cond (decide (ds.length+f.length<=lim)) (.ok (.ow .lst ((ds ++ f).map .fz),q.2)) .no
 |_=>.no) .no
theorem qY5{a b:Expr}{oa j:Oe}(ha:OD X c E a oa)(hb:OD X c E b j):ED X c E (.BinOp a .Add b pos) (eCat oa j):=by
 refine⟨PE.imp (zVk zYg ha.h hb.h) fun σ H Q=>?_⟩;rintro⟨D,B,W,F,w⟩;refine qQ2 F (qY.mp w) fun G I u H1 W1 g1=>?_
 refine qQ2 g1.cf (qC (fun _ q=>q) (fun C fs J=>J.back g1.st) (qY.mp I)) fun L M v f W2 g2=>?_
 obtain⟨hs,N⟩:=vN M;obtain⟨d,m,n,g,e,vw,O⟩:=rsvBs_wp (hs:=[G.1,L.1]) (us:=[u,v]) g2.cf ⟨g1.next g2 hs,g2.at_,trivial⟩ (qY.mp N);obtain⟨x,d,rfl⟩:∃x r,d=x::r:=by cases d with
  |nil=>exact vw.elim
  |cons x r=>grind
 obtain⟨y,rfl,P⟩:∃y,d=[y]/\Vw X.K c (hide (hd2 B n) f) f v y:=by
  cases d with
  |nil=>exact vw.2.elim
  | cons y r=>cases r with
    |nil=>exact⟨y,rfl,vw.2.1⟩
    |cons _ _=>exact vw.2.2.elim
 obtain⟨ds,R,S⟩:=qB O;obtain⟨es,T,U⟩:=qB S;obtain⟨V,Y⟩:=vN U;obtain⟨p,o,rfl,Z,s⟩:=vw.1.lst qS R;obtain⟨q,t,rfl,d1,z⟩:=P.lst qS T;refine⟨p,q,o,t,rfl,rfl,Z,d1,by have:=qY2 (of_decide_eq_true V);rw[s.len,z.len];omega,fun l i=>?_⟩;have A:Same f (upd f l (.lst (o ++ t))):=.upd i;exact Y (.ref l) _ n _ ((Got.lay e i A (k:=.lst) upd_same ((s.append z).same (qZs e i A))).back ((g1.st.trans g2.st).trans g))
noncomputable def tyN:D->String
 |.non =>"NoneType"
 |.int _=>"int"
 |.str _=>"str"
 |.bl _=>"bool"
 |.nd .lst _=>"list"
 |.nd .tup _=>"tuple"
 |.nd (.dct _) _=>"dict"
 |_=>""
noncomputable def isiB(t n:String):Bool:=(t == n) || (t == "bool" && n == "int")
theorem zYo{K:aQ}{t n:String}{b:Bool}(h:PySem.W.kitMeta n=true)(e:(fastBuiltinMro t).map (·.contains (.type n))=some b)(a:(Value.type t == Value.type n)=false):cX K (.type t) (.type n)=some b:=by
 unfold cX;rw[a];show(if PySem.W.kitMeta n=true then PySem.W.subIn K (.type t) (.type n) else none)=some b;rw[if_pos h];exact e
theorem zJz{K:aQ}{t:String}:cX K (.type t) (.type t)=some true:=by
 unfold cX;grind
noncomputable abbrev tys:List String:=["NoneType","int","str","tuple","bool","list","dict"]
theorem zYp{K:aQ}:∀t∈tys,∀n∈(["int","str","tuple","bool","list","dict"]:List String),cX K (.type t) (.type n)=some (isiB t n):=by
 have a:∀t∈tys,∀n∈(["int","str","tuple","bool","list","dict"]:List String),t=n\/(PySem.W.kitMeta n=true/\(fastBuiltinMro t).map (·.contains (.type n))=some (isiB t n)/\(Value.type t == Value.type n)=false):=by
  decide +kernel
 intro t b n c;rcases a t b n c with rfl|⟨d,e,f⟩
 ·rw[zJz,show isiB t t=true by simp[isiB]]
 ·exact zYo d e f
theorem zQ6:zC X (.builtin "isinstance") (fun xs H Q=>∃a vs n b,xs=[.ref a,.ty n]/\SqL X.K H a vs/\cX X.K (.type "list") (.type n)=some b/\Q (.bl b) H):=by
 intro c s σ H xs us Q I r h;obtain⟨a,vs,n,b,rfl,d,e,q⟩:=h;obtain⟨u,f,rfl,g,i⟩:=vXn r;cases(show u=Value.ref a from g);cases(show f =Value.type n from i);obtain⟨j,_,⟨o,p,k,l,_⟩,_⟩:=I.list d;exact bA PySem.W.kitx_list I.kIn ⟨o,k,l⟩ e (fun z=>nomatch z) fun m=>⟨.bl b,H,I.tok m,rfl,q⟩
noncomputable def zVi(K:aQ):List V->Hp->VK->Prop:=fun c H Q=>rIsi K c H Q\/(∃a d n b,c=[.ref a,.ty n]/\SqT K H a d/\cX K (.type "tuple") (.type n)=some b/\Q (.bl b) H)\/(∃a d n b,c=[.ref a,.ty n]/\SqL K H a d/\cX K (.type "list") (.type n)=some b/\Q (.bl b) H)
theorem vWd:zC X (.builtin "isinstance") (zVi X.K):=zWw.or (zQ5.or zQ6)
noncomputable def isiD(n:String)(d:D):Option D:=cond (tyN d != "") (some (.bl (isiB (tyN d) n))) none
theorem jZg{K:aQ}{u:V}{d z:D}{n:String}(f:n∈(["int","str","tuple","bool","list","dict"]:List String))(h:DAt K c H u d)(e:isiD n d=some z)(q:∀v,(∀F,DAt K c F v z)->Q v H):zVi K [u,.ty n] H Q:=by
 obtain⟨b,g⟩:=vS e;cases g;have a:Q (.bl (isiB (tyN d) n)) H:=q _ fun _=>.bl _
 have k:tyN d∈tys->cX K (.type (tyN d)) (.type n)=some (isiB (tyN d) n):=fun m=>zYp (tyN d) m n f
 cases h with
 |non=>exact .inl ⟨_,_,_,_,rfl,.non,k (by simp[tyN]),a⟩
 |int i=>exact .inl ⟨_,_,_,_,rfl,.int i,k (by simp[tyN]),a⟩
 |str i=>exact .inl ⟨_,_,_,_,rfl,.str i,k (by simp[tyN]),a⟩
 |bl i=>exact .inl ⟨_,_,_,_,rfl,.bl i,k (by simp[tyN]),a⟩
 |fn j=>simp[tyN]at b
 | @nd p kd vs ds h l r=>
   cases kd with
   |lst=>exact .inr (.inr ⟨p,vs,n,_,rfl,h,k (by simp[tyN]),a⟩)
   |tup=>exact .inr (.inl ⟨p,vs,n,_,rfl,h,k (by simp[tyN]),a⟩)
   | dct ks=>
     rcases h.2.2 with e|⟨o,e⟩
     ·exact .inl ⟨_,_,_,_,rfl,.dK e,k (by simp[tyN]),a⟩
     ·exact .inl ⟨_,_,_,_,rfl,.dZ e,k (by simp[tyN]),a⟩
   |dcT ks=>simp[tyN]at b
   |obj C fs=>simp[tyN]at b
   |exc C fs=>simp[tyN]at b
theorem zV6{n:String}{x y:Str}{p q:Pos}{o:Oe}(m:n∈(["int","str","tuple","bool","list","dict"]:List String))(s:Gl X x)(t:X.mg x=none)(w:cR x=some (.builtin "isinstance"))(a:Gl X y)(b:X.mg y=none)(d:cR y=some (.type n))(ha:OD X c E e o)(f:x≠"__name__":=by decide)(g:(x == ("__debug__":Str))=false:=by decide)(A:y≠"__name__":=by decide)(i:(y == ("__debug__":Str))=false:=by decide)(l:aK [e, .Name y q] X.env=(false,eval e X.env)::aK [.Name y q] X.env:=by rfl)(j:aK [.Name y q] X.env=(false,eval (.Name y q) X.env)::aK [] X.env:=by rfl)(k:(cK pos (aK [.Name y q] X.env)).any (·.1)=false:=by rfl):
  OD X c E (.Call (.Name x p) [e, .Name y q] [] pos) (o1 (isiD n) o):=by
 refine⟨PE.imp (qZp vWd s t w (yY ha.h (yY (zX8 a b d (v:=.ty n) rfl A i) qJ0 j) l) f g l k) fun σ H Q h=>?_⟩;exact zVd (K:=X.K) (r:=fun u H Q=>zVi X.K [u,.ty n] H Q) (fun u H x z Q f e q=>jZg m f e q) h
section
variable{X:Cx}{c:Nat->aX}{E:XK}{e e2:Expr}{pos p:Pos}{o oa:Oe}
theorem xH(b:Gl X "len")(d:X.mg "len"=none)(ha:OD X c E e o)(a:aK [e] X.env=[(false,eval e X.env)]:=by rfl)(h0:aK [] X.env=[]:=by rfl):OD X c E (.Call (.Name "len" p) [e] [] pos) (oL lenD [o]):=
 vJo zQ4 jVc b d Boot.«len» (vO ha qH (by rw[a,h0])) (by decide) (by decide) (by rw[a,h0]) (by rw[h0];rfl)
theorem jJt(b:Gl X "int")(d:X.mg "int"=none)(ha:OD X c E e o)(a:aK [e] X.env=[(false,eval e X.env)]:=by rfl)(h0:aK [] X.env=[]:=by rfl):OD X c E (.Call (.Name "int" p) [e] [] pos) (oL intD [o]):=
 vK6 zQ8 jVd b d Boot.«int» (vO ha qH (by rw[a,h0])) (by decide) (by decide) (by rw[a,h0]) (by rw[h0];rfl)
theorem jJq(b:X.calm=true)(d:Gl X "sum")(f:X.mg "sum"=none)(ha:OD X c E e o)(a:aK [e] X.env=[(false,eval e X.env)]:=by rfl)(h0:aK [] X.env=[]:=by rfl):OD X c E (.Call (.Name "sum" p) [e] [] pos) (oL sumD [o]):=
 vJo (zWv b) jVb d f Boot.«sum» (vO ha qH (by rw[a,h0])) (by decide) (by decide) (by rw[a,h0]) (by rw[h0];rfl)
theorem vXx(b:Gl X "tuple")(d:X.mg "tuple"=none)(ha:OD X c E e o)(a:aK [e] X.env=[(false,eval e X.env)]:=by rfl)(h0:aK [] X.env=[]:=by rfl):EV X c E (.Call (.Name "tuple" p) [e] [] pos) (svA tupleD [o]):=
 zQl vQj zJa b d Boot.«tuple» (vO ha qH (by rw[a,h0])) (by decide) (by decide) (by rw[a,h0]) (by rw[h0];rfl)
theorem qJ2(b:Gl X "list")(d:X.mg "list"=none)(ha:OD X c E e o)(a:aK [e] X.env=[(false,eval e X.env)]:=by rfl)(h0:aK [] X.env=[]:=by rfl):ED X c E (.Call (.Name "list" p) [e] [] pos) (eF listD [o]):=
 zQo vZu zXv b d Boot.«list» (vO ha qH (by rw[a,h0])) (by decide) (by decide) (by rw[a,h0]) (by rw[h0];rfl)
end
structure MethAt(K:aQ)(x qual:Str)(st:Stmt)(ps:List Str)(f:aX)(fd:bJ):Prop where
 F:Fun K x qual st f fd
 b:wD K fd ps []
noncomputable def pOf:Oe->SP
 |.p s=>s
 |.v _=>fun _=>none
theorem fnNo{K:aQ}{k:Nat}{f:aX}:FnOk P w K mg base CX k f fd ps (spD K c n fun _=>.no):=
 ⟨fun a H Q E z=>(by obtain⟨_,_,_,_,_,z⟩:=z;exact z.elim),fun _ _ _ _ _ _ _ _ _ _ _ _ _ z=>(by obtain⟨_,_,_,_,_,z⟩:=z;exact z.elim)⟩
theorem FnOk.lv{K:aQ}{k:Nat}{f:aX}{sp:Sp}(e:j=k)(h:FnOk P w K mg base CX j f fd ps sp):FnOk P w K mg base CX k f fd ps sp:=by grind
noncomputable def sNo:SS:=fun _=>.no
theorem qYq{st:Stmt}:SD X c E st sNo:=⟨fun _ _ _ _ _ _ q=>by obtain⟨_,_,_,_,w⟩:=q;exact w.elim⟩
section
variable{X:Cx}{c:Nat->aX}{E:XK}{o k e:Expr}{pos pos' apos cpos:Pos}{oo ok:Oe}{a:SE}{cs:List Nat}{f:Str}
theorem qYs(h:OD X c E e oo)(a:oo.isP=true:=by rfl):OD X c E e (Am.b (pOf oo)).o :=by
 cases oo with
 |p s=>exact h
 |v s=>cases a
theorem jX(h:OD X c E o oo)(ha:ED X c E e a)(i:oo.isP=true:=by rfl)(d:attributeBase o "append" X.env (eval o X.env)=eval o X.env:=by rfl)(g:((cK cpos (aK [e] X.env)).all (fun x=>!x.1) && (backToKw cpos (keywordEach [] X.env)).all (fun x=>x.1.isSome) && decide (([e]:List Expr).length+([]:List Keyword).length+(if([]:List Keyword).isEmpty then 0 else 1)<30))=true:=by rfl)(f:(apos.endLine == cpos.line)=true:=by rfl)(hs:aK [e] X.env=(false,eval e X.env)::aK [] X.env:=by rfl)(b:(cK cpos (aK [] X.env)).any (·.1)=false:=by rfl):
  ED X c E (.Call (.Attribute o "append" apos) [e] [] cpos) (eMu1 (pOf oo) a apF):=by
 cases oo with
 |p s=>exact zQp h ha d g f hs b
 |v s=>cases i
theorem zWr(h:OD X c E o oo)(ha:ED X c E e a)(i:oo.isP=true:=by rfl)(d:attributeBase o "extend" X.env (eval o X.env)=eval o X.env:=by rfl)(g:((cK cpos (aK [e] X.env)).all (fun x=>!x.1) && (backToKw cpos (keywordEach [] X.env)).all (fun x=>x.1.isSome) && decide (([e]:List Expr).length+([]:List Keyword).length+(if([]:List Keyword).isEmpty then 0 else 1)<30))=true:=by rfl)(f:(apos.endLine == cpos.line)=true:=by rfl)(hs:aK [e] X.env=(false,eval e X.env)::aK [] X.env:=by rfl)(b:(cK cpos (aK [] X.env)).any (·.1)=false:=by rfl):
  ED X c E (.Call (.Attribute o "extend" apos) [e] [] cpos) (eMu1 (pOf oo) a exF):=by
 cases oo with
 |p s=>exact zQn h ha d g f hs b
 |v s=>cases i
theorem jQv(d:X.A.units+1<eA)(f:OD X c E o oo)(hk:OD X c E k ok)(g:ED X c E e a)(b:(oo.isP && ok.isP)=true:=by rfl)(hs:swapsWith e (some (.Subscript o k pos')) pos.line X.env=pure false:=by rfl):
  SD X c E (.Assign [.Subscript o k pos'] e pos) (vQo (pOf oo) (pOf ok) a):=by
 cases oo with
 |v s=>cases b
 | p s=>cases ok with
   |v s=>cases b
   |p t=>exact zW8 d f hk g hs
theorem jQu(d:OD X c E o oo)(hk:OD X c E k ok)(f:ED X c E e a)(b:(oo.isP && ok.isP)=true:=by rfl)(hs:swapsWithSole [.Subscript o k pos'] e pos.line X.env=pure false:=by rfl)(g:swappedStores [.Subscript o k pos'] e X.env=pure none:=by rfl)(h1:(assignEach [.Subscript o k pos'] X.env).map (·.2)=[assign (.Subscript o k pos') X.env]:=by rfl)(ha:∀v,assign (.Subscript o k pos') X.env v=(do
   let ov ←holding [v] (eval o X.env);let iv ←holding [v,ov] (eval k X.env);standAt pos';holding [v,ov,iv] (setItem ov iv v);release [v,ov,iv] []):=by intro _;rfl):SD X c E (.Assign [.Subscript o k pos'] e pos) (sSetI (pOf oo) (pOf ok) a):=by
 cases oo with
 |v s=>cases b
 | p s=>cases ok with
   |v s=>cases b
   |p t=>exact vVz d hk f hs g h1 ha
theorem qVh(b:xP X.K c cs f)(d:OD X c E o oo)(g:ED X c E e a)(h:oo.isP=true:=by rfl)(hs:swapsWith e (some (.Attribute o f pos')) pos.line X.env=pure false:=by rfl):SD X c E (.Assign [.Attribute o f pos'] e pos) (qQ3 cs f (pOf oo) a):=by
 cases oo with
 |v s=>cases h
 |p s=>exact zW7 b d g hs
theorem zVz{op:Operator}{h:TIp}{g:D->D->Option D}{t:SV}(a:xP X.K c cs f)(i:OD X c E o oo)(j:EV X c E e t)(b:PIp X op h)(d:PrS2 X.K c h g)(k:oo.isP=true:=by rfl):SD X c E (.AugAssign (.Attribute o f pos') op e pos) (vZ1 cs f g (pOf oo) t):=by
 cases oo with
 |v s=>cases k
 |p s=>exact zW9 a i j b d
end
section
variable{X:Cx}{c:Nat->aX}{E:XK}{k:Nat}{f:aX}{fd:bJ}{ps:List Str}{x m:Str}{p pos apos:Pos}{e o:Expr}{es:List Expr}{F F2:Fn}{a0:Am}{as:List Am}{C C2:Nat}
theorem zJ5{K:aQ}{h:Hn}{u:V}(f:Cf K c env σ H B W)(g:HnAt K c (hide (hd2 B W) H) σ H u h)(b:qWi env h C m=true):∃a d fs,u=.ref a/\H a=some (.ins (c C) d fs)/\fs.lookup m=none:=by
 unfold qWi at b;split at b
 ·rename_i i fs ds e;rw[aF,Bool.not_eq_true']at b;obtain⟨p,k,rfl,⟨l,d,j⟩,n⟩:=(wX f g e).un;have:i =C:=by simpa using b.1
  subst this;exact⟨p,d,_,rfl,j,qXm b.2⟩
 ·cases b
end
noncomputable def rvL:List D->Option (List D)
 |[x]=>(qQl x).bind fun ds=>some ds.reverse
 |_=>none
theorem jZk{p:Pos}(j:Gl X "reversed")(k:X.mg "reversed"=none)(ha:VsD X c E [e] ss)(hs:aK [e] X.env=[(false,eval e X.env)]:=by rfl)(d:aK [] X.env=[]:=by rfl):ID' X c E tg (.Call (.Name "reversed" p) [e] [] pos) (iL rvL ss):=by
 refine⟨PI.imp (jVf j k ha.h hs d) fun σ H R=>?_⟩;rintro⟨env,B,W,l,w⟩;refine qVe l (qY.mp w) fun r m A n o g=>?_
 obtain⟨ds,b,s⟩:=qB m;have f:=g.at_;unfold rvL at b;split at b
 ·rename_i x t;rw[t]at f;obtain⟨u,rfl,a⟩:=ds1 f;obtain⟨C,v,y⟩:=bnd b;cases y;obtain⟨q,z,rfl,i,c2⟩:=qKk a v;exact⟨q,z,rfl,jG qS i,s _ n o g.st g.cf (zYw i c2)⟩
 ·cases b
noncomputable def dctD:D->Option (List Key×List D)
 |.nd (.dct ks) ds=>some (ks,ds)
 |_=>none
noncomputable def vXs(env:Ev)(k:Key):Hn->Option (Option D)
 | .d x=>(dctD x).bind fun q=>match kidx k q.1 with
   |some j=>(q.2[j]?).bind fun d=>some (some d)
   |none=>some none
 | .p i π=>(qYz env i π).bind fun q=>match kidx k q.1 with
   | some j=>match q.2[j]? with
     |some (.fz d)=>some (some d)
     |_=>none
   |none=>some none
theorem zJ8{K:aQ}{h:Hn}{u:V}{k:Key}{r:Option D}(y:Cf K c env σ H B W)(o:HnAt K c (hide (hd2 B W) H) σ H u h)(e:vXs env k h=some r):
  ∃a l,u=.ref a/\IsD H a/\DGet H a (kV k) l/\match r with
   |some d=>∃v,l=some v/\DAt K c (hide (hd2 B W) H) v d
   |none=>l=none:=by
 cases h with
 | d x=>
   obtain⟨q,f,b⟩:=bnd e;unfold dctD at f;split at f
   ·cases f;rename_i z ds;obtain⟨p,A,rfl,⟨C,L,E⟩,F⟩:=DAt.un o;have g :=vYg qS E;refine⟨p,_,rfl,.inl ⟨_,g⟩,vWq g,?_⟩;rw[qZn C];dsimp only at b;cases e5:kidx k z with
    |none=>rw[e5]at b;cases b;rfl
    | some j=>
      rw[e5]at b;obtain⟨d,m,G⟩:=bnd b;cases G;exact F.get m
   ·cases f
 | p i π=>
   have n :vC H σ i π=some u:=o;obtain⟨q,f,b⟩:=bnd e;obtain⟨M,N,R,s,t,O,P⟩:=y.place (vVb f);rw[n]at s;cases s;rw[OAt.ow]at t;obtain⟨p,A,Q,rfl,⟨I,S,w⟩,J,d⟩:=t;refine⟨p,_,rfl,.inl ⟨_,.inl w⟩,DGet.k w,?_⟩;rw[qZn I];cases e5:kidx k q.1 with
   |none=>rw[e5]at b;cases b;rfl
   | some j=>
     rw[e5]at b;dsimp only at b;split at b
     ·rename_i d m;cases b;obtain⟨v,T,U,g1,g2,_⟩:=J.focus m;rw[OAt.fz]at g2;exact⟨v,g1,g2.1⟩
     ·cases b
noncomputable def vVj(s k:SP):SV:=fun a=>(opt (s a)).bind fun h=>(opt (k a)).bind fun c=>(opt (rsv a c)).bind fun y=>(opt (qV7 y)).bind fun b=>(opt (vXs a b h)).bind fun r=>.ok (r.getD .non,a)
section
variable{X:Cx}{c:Nat->aX}{E:XK}{o k e:Expr}{apos cpos:Pos}{oo ok oe:Oe}
theorem zY6(l:X.A.units+1<eA)(n:OD X c E o oo)(hk:OD X c E k ok)(m:M1 X o "get" apos k cpos)(g:(oo.isP && ok.isP)=true:=by rfl):EV X c E (.Call (.Attribute o "get" apos) [k] [] cpos) (vVj (pOf oo) (pOf ok)):=by
 cases oo with
 |v s=>cases g
 | p s=>cases ok with
   |v s=>cases g
   | p t=>
     refine⟨PE.imp (zJj l n.h hk.h m) fun σ H Q=>?_⟩;rintro⟨e,B,W,b,w⟩;obtain⟨h,q,u⟩:=qB w;obtain⟨f,z,C⟩:=qB u;obtain⟨y,D,F⟩:=qB C;obtain⟨G,I,J⟩:=qB F;obtain⟨r,K,i⟩:=qB J;refine⟨e,B,W,h,b,q,fun x L=>?_⟩;obtain⟨a,M,rfl,g1,g2,j⟩:=zJ8 b L K;refine⟨a,rfl,g1,e,B,W,f,b,z,fun P N=>?_⟩;rw[qZu (wX b N D) I];refine⟨M,g2,?_⟩;cases r with
     |none=>rw[j];exact i .non H W ⟨.refl,b,.non⟩
     |some d=>obtain⟨v,rfl,O⟩:=j;exact i v H W ⟨.refl,b,O⟩
end
noncomputable def sbH(i j:Nat)(d:D):Hn->Hn
 |.p i' [j']=>if i' =i/\j' =j then .d d else .p i' [j']
 |h=>h
noncomputable def isFz:Option O->Bool
 |some (.fz _)=>true
 |_=>false
noncomputable def vZ4(F:Fn)(as:List Am)(hs:List Hn)(env:Ev)(i j:Nat):Res (O×Ev):=(opt (getE env i [j])).bind fun o=>(qQ6 F as (hs.map (sbH i j (fzO o))) (setE env i [j] (.fz (fzO o)))).bind fun q=>
 cond (stab env q.2 i [j] && ndO q.1 && (setE q.2 i [j] o).all ndS && isFz (getE q.2 i [j]) && dcFz o) (.ok (q.1,setE q.2 i [j] o)) .no
noncomputable def vXr:List Hn->Option (Nat×Nat)
 |[]=>none
 |[.p i [j]]=>some (i,j)
 |_::hs=>vXr hs
section
variable{K:aQ}{c:Nat->aX}{E:XK}
theorem SlAt.place{F:Hp}{o1:O}(h:SlAt K c F H env σ W)(e:getE env i π=some o1):∃(f:V) (g R:Fp),vC H σ i π=some f/\OAt K c F H o1 f g/\(∀a,W a=g a+R a)/\
  ∀(b :O) (d Y:Fp),OAt K c F H b f d ->(∀a,Y a=d a+R a)->SlAt K c F H (setE env i π b) σ Y:=by
 unfold getE at e;split at e
 ·rename_i n o j;obtain⟨x,B,p,k,l,r,t⟩:=h.focus j;cases x with
  |none=>exact l.elim
  | some v=>
    obtain⟨f,g,u,g1,g2,w,y⟩:=OAt.focus l e;refine⟨f,g,fun a=>u a+p a,by unfold vC;rw[k];exact g1,g2,fun a=>by rw[r,w];(try dsimp only);omega,fun b d Y q z=>?_⟩;have A:=y _ H b d (Same.refl _) (fun _ _=>rfl) q;have m:=t F H (.s n (setP o π b)) (some v) _ Y (Same.refl _) (fun _ _=>rfl) A (fun a=>by rw[z];(try dsimp only);omega);rw[xI k]at m;unfold setE;rw[j];exact m
 ·cases e
theorem zT.sb{F:Hp}{d:D}(f:Same F F')(g:∀u,vC H σ i [j]=some u->DAt K c F' u d):∀{us:List V} {hs:List Hn},zT K c F σ H us hs->zT K c F' σ H us (hs.map (sbH i j d))
 |[],[],_=>trivial
 | u::us,h::hs,a=>by
   refine⟨?_,zT.sb f g a.2⟩;have b:=a.1;cases h with
   |d x=>exact DAt.same f b
   | p i' π=>
     cases π with
     |nil=>exact b
     | cons j' π=>
       cases π with
       |cons _ _=>exact b
       | nil=>
         simp only[sbH];split
         ·rename_i e;obtain⟨rfl,rfl⟩:=e;exact g u b
         ·exact b
 |[],_::_,a=>a.elim
 |_::_,[],a=>a.elim
theorem zQ2{hs:List Hn}{F:Fn}(t:Cf K c env σ H B W)(X:zT K c (hide (hd2 B W) H) σ H us hs)(hw:(vZ4 F as hs env i j).wp (fun r=>∀u H' W' Z,Got K c env σ H B W r.2 H' W' Z r.1 u->Q u H') (erP K c E H B W)):spD K c as.length F us H Q E:=by
 obtain⟨o,e1,w1⟩:=qB hw;obtain⟨J,e,R,L,v,w,h4⟩:=t.place e1;have nd:∀a,B a+(e a+R a)<=1:=fun a=>by have:=t.nd a;rw[w]at this;exact this
 have n:Same (hide (hd2 B W) H) (hide (hd2 B R) H):=zB fun a z=>by dsimp only[hd2]at *;rw[w]at z;omega
 have M:DAt K c (hide (hd2 B R) H) J (fzO o):=v.dat n fun a z=>vH (by have:=nd a;dsimp only[hd2];omega)
 have x:Cf K c (setE env i [j] (.fz (fzO o))) σ H B R:=h4 H B R _ (fun _=>0) n (fun a=>by(try dsimp only);omega) (fun _ _=>rfl) (OAt.fz.mpr ⟨M,fun _=>rfl⟩) (fun a=>by have:=nd a;omega) t.hb;have p:Step env σ H B W (setE env i [j] (.fz (fzO o))) σ H R:=⟨n,fun _ _=>rfl,fun a z=>.inl (by rw[w];omega),fun _ z=>z,fun _ _ _=>.refl,fun j o q=>⟨qJe q,rfl⟩,qQ8⟩
 refine qVc x (zT.sb n (fun u N=>by rw[L]at N;cases N;exact M) X) (qC (fun q w2 u h l Z g=>?_) (fun _ _ he=>he.back p) (qY.mp w1));obtain⟨O,w3⟩:=vN w2;rw[aF,aF,aF,aF]at O;obtain⟨⟨⟨⟨c1,c2⟩,c3⟩,c4⟩,c5⟩:=O;have b:=p.trans g.st;have A:vC h σ i [j]=some J:=qXd t b g.cf (fun a z=>by dsimp only[hd2];omega) c1 L;have P:∀a,e a≠0->h a=H a/\B a+Z a+l a=0:=fun a z=>by
  obtain⟨f,m,_⟩:=OAt.hb v z;have S:=g.st.same a f (by rw[vH (by have:=nd a;dsimp only[hd2];omega)];exact m);obtain⟨T,C⟩:=jR S;grind
 have d:∀a f,hide (hd2 (hd2 B Z) l) h a=some f->¬isDK f->hide (hd2 (hd2 B Z) (fun a=>l a+e a)) h a=some f:=fun a f m S=>by
  obtain⟨T,C⟩:=jR m;by_cases z:e a=0
  ·rw[vH (by dsimp only[hd2]at *;omega)];exact C
  ·obtain⟨ho',q5,q6⟩:=vKb v c5 a z;grind
 obtain⟨U,ed⟩:∃U,getE q.2 i [j]=some (.fz U):=by
  unfold isFz at c4;grind
 obtain⟨v1',Y1,Y,V,k2,k3,k4⟩:=g.cf.at_.place ed;rw[A]at V;cases V;have D:Same (hide (hd2 B W) H) (hide (hd2 (hd2 B Z) (fun a=>l a+e a)) h):=zU fun a f z m=>by
  obtain⟨T,C⟩:=jR (g.st.same a f (n a f (by rw[vH z];exact m)));grind
 have s:Same (hide (hd2 B W) H) (hide (hd2 (hd2 B Z) l) h):=D.trans (zB fun a z=>by dsimp only[hd2]at *;omega);have G:=k4 o e (fun a=>l a+e a) (v.keep s fun a z=>(P a z).1) fun a=>by have:=k3 a;have:=k2.2 a;omega
 have I:=G.nd' d c3;refine w3 u h (fun a=>l a+e a) Z ⟨⟨?_,fun a z=>b.by_ a z,fun a z=>?_,b.dom,fun a z1 z2=>?_,fun k oo q=>?_,by rw[qQ8];exact b.len⟩,⟨I,fun a=>?_,fun a z=>g.cf.hb a z⟩,g.at_.nd' d c2⟩
 ·grind
 ·by_cases y:e a=0
  ·exact b.new a (by dsimp only[hd2]at *;omega)
  ·grind
 ·by_cases y:e a=0
  ·exact b.pin a z1 (by dsimp only[hd2]at *;omega)
  ·exact .of (P a y).1
 ·obtain⟨o0,m⟩:=qJe q;exact⟨(b.io k o0 m).1,rfl⟩
 ·have n1:=g.cf.nd a;grind
noncomputable def qXy(C:Nat)(m:Str)(F:Fn)(a0:Am)(as:List Am):SE:=fun b=>(evO a0.o b).bind fun a=>cond (qWi a.2 a.1 C m && (a.1.st || (as.map Am.o).all Oe.isP)) ((evOs (as.map Am.o) a.2).bind fun r=>(opt (vXr r.1)).bind fun c=>vZ4 F (a0::as) (a.1::r.1) r.2 c.1 c.2) .no
theorem vKn{F:Fn}(h:tE K c E (qXy C m F a0 as) σ H Q):vXo (c C) m (spD K c (a0::as).length F) [] E (tO K c E a0.o) (tOs K c E (as.map Am.o)) σ H Q:=by
 obtain⟨j,B,W,k,w⟩:=h;refine qQ2 k (qY.mp w) fun f l u N O g1=>?_
 obtain⟨hs,n⟩:=vN l;rw[aF]at hs;obtain⟨p,b⟩:=hs;obtain⟨a,s,fs,rfl,t,x⟩:=zJ5 g1.cf g1.at_ p;refine⟨a,s,fs,rfl,t,x,?_⟩;refine qVf g1.cf (qC (fun _ q=>q) (fun _ _ d=>d.back g1.st) (qY.mp n)) fun r y z i A g2=>?_
 obtain⟨P,_,D⟩:=qB y;rw[cY];have G:zT K c (hide (hd2 B A) i) σ i (.ref a::z) (f.1::r.1):=by
  refine⟨?_,g2.at_⟩;cases e:f.1.st with
  |true=>exact g1.at_.step g2.st.same e
  | false=>
    rw[e]at b;obtain⟨I,J,_⟩:=g2.pu (by simpa using b);rw[I,J];exact g1.at_
 exact zQ2 g2.cf G (qC (fun r q v L M Z g=>q v L M Z (g.back (g1.st.trans g2.st))) (fun _ _ d=>d.back (g1.st.trans g2.st)) D)
end
theorem qKp{k:Nat}{f:aX}{a:Pos}{o:Expr}{es:List Expr}{F:Fn}{pl:Sem Bool}(g:OD X c E o a0.o)(i:Cls X.K (c C))(j:Meth X.K (c C) m f)(G:FnOk X.prog X.w X.K X.mg X.base (CXd X.prog X.w) k f fd ps (spD X.K c (a0::as).length F))(l:Room k X.A)(hb:wD X.K fd ps [])(n:zN (CXd X.prog X.w) X E)(ha:OsD X c E (e::es) (as.map Am.o))(b:aK (e::es) X.env=(false,eval e X.env)::aK es X.env:=by rfl)(d:(cK pos (aK es X.env)).any (·.1)=false:=by rfl)(p:eval (.Call (.Attribute o m a) (e::es) [] pos) X.env=(do
   let ov ←eval o X.env;standAt a.atName;let (f,first) ←holding [ov] (getMethod ov m pl);callWith pos f first (cK pos (aK (e::es) X.env)) (backToKw pos (keywordEach [] X.env))):=by rfl):
  ED X c E (.Call (.Attribute o m a) (e::es) [] pos) (qXy C m F a0 as):=
 ⟨PE.imp (vYk g.h i j G l hb .nil n ha.h b d p) fun _ _ _ h=>vKn h⟩
noncomputable def zpA(xs:List D):Option (List D):=match zpL xs with
 |some r=>some r
 | none=>match zpT xs with
   |some r=>some r
   |none=>zpM xs
noncomputable def sPutA(s k:SP)(a:SE):SS:=fun b=>match vQo s k a b with
 |.no =>sSetI s k a b
 |r=>r
theorem qZh{o k:Expr}{b:Pos}{f ok:Oe}{a:SE}(n:X.A.units+1<eA)(i:OD X c E o f)(hk:OD X c E k ok)(j:ED X c E e a)(l:(f.isP && ok.isP)=true:=by rfl)(hs:swapsWith e (some (.Subscript o k b)) pos.line X.env=pure false:=by rfl)(g:swapsWithSole [.Subscript o k b] e pos.line X.env=pure false:=by rfl)(p:swappedStores [.Subscript o k b] e X.env=pure none:=by rfl)(h1:(assignEach [.Subscript o k b] X.env).map (·.2)=[assign (.Subscript o k b) X.env]:=by rfl)(ha:∀v,assign (.Subscript o k b) X.env v=(do
   let ov ←holding [v] (eval o X.env);let iv ←holding [v,ov] (eval k X.env);standAt b;holding [v,ov,iv] (setItem ov iv v);release [v,ov,iv] []):=by intro _;rfl):SD X c E (.Assign [.Subscript o k b] e pos) (sPutA (pOf f) (pOf ok) a):=by
 refine⟨fun d s σ H D I q=>?_⟩;obtain⟨env,B,W,m,w⟩:=q;unfold sPutA at w;split at w
 ·exact(jQu i hk j l g p h1 ha).h d s σ H D I ⟨env,B,W,m,w⟩
 ·exact(jQv n i hk j l hs).h d s σ H D I ⟨env,B,W,m,w⟩
noncomputable def qWf{α:Type}(q:List Key×List α)(k:Key)(d:α):List Key×List α:=match kidx k q.1 with
 |some j=>(q.1,q.2.set j d)
 |none=>(q.1 ++ [k],q.2 ++ [d])
noncomputable def vR{α:Type}(q:List Key×List α)(ps:List (Key×α)):List Key×List α:=ps.foldl (fun a p=>qWf a p.1 p.2) q
section
variable{K:aQ}{c:Nat->aX}{F:Hp}
theorem mergeK_ds:∀{ps:List (Key×V)} {ks:List Key} {vs:List V},ks.length=vs.length->ks.Nodup->wY (ks.zip vs) ps=(vR (ks,vs) ps).1.zip (vR (ks,vs) ps).2/\(vR (ks,vs) ps).1.length =(vR (ks,vs) ps).2.length /\(vR (ks,vs) ps).1.Nodup
 |[],ks,vs,h1,h2=>⟨rfl,h1,h2⟩
 | p::ps,ks,vs,h1,h2=>by
   have e:wY (ks.zip vs) (p::ps)=wY (putK (ks.zip vs) p.1 p.2) ps:=rfl;have a:vR (ks,vs) (p::ps)=vR (qWf (ks,vs) p.1 p.2) ps:=rfl;rw[e,a,vJi h1 h2];unfold qWf;dsimp only;cases q:kidx p.1 ks with
   |some j=>exact mergeK_ds (by rw[bI];exact h1) h2
   |none=>exact mergeK_ds (by rw[aB,aB,h1];rfl) (qKy h2 (qXn q))
theorem mergeDs_at:∀{ps:List (Key×V)} {qs:List (Key×D)} {ks:List Key} {vs:List V} {ds:List D},ps.map (·.1)=qs.map (·.1)->DsAt K c F (ps.map (·.2)) (qs.map (·.2))->DsAt K c F vs ds->(vR (ks,vs) ps).1=(vR (ks,ds) qs).1/\DsAt K c F (vR (ks,vs) ps).2 (vR (ks,ds) qs).2
 |[],[],ks,vs,ds,_,_,h=>⟨rfl,h⟩
 | p::ps,q::qs,ks,vs,ds,e,hp,h=>by
   rw[aL,aL,eK]at e;obtain⟨v,r,d,a,b⟩:=hp.un;rw[aL,eK]at d;have f:vR (ks,vs) (p::ps)=vR (qWf (ks,vs) p.1 p.2) ps:=rfl;have g:vR (ks,ds) (q::qs)=vR (qWf (ks,ds) q.1 q.2) qs:=rfl;rw[f,g];unfold qWf;dsimp only;rw[←e.1];rw[←d.2]at b;rw[←d.1]at a;cases kidx p.1 ks with
   |some j=>exact mergeDs_at e.2 b (h.set a j)
   |none=>exact mergeDs_at e.2 b (h.append (.cons a .nil))
 |[],_::_,_,_,_,e,_,_=>by cases e
 |_::_,[],_,_,_,e,_,_=>by cases e
end
end DX
namespace PySem
variable{prog:aA}{w:bW}{A:cQ}{a:aX}{xs:Array Value}
theorem vZo{R:Result->aY->Prop}{s:aY}{k:Nat}{sl:Array (Option Value)}{u:Tok}(b:s.heap.get? a=some {cls:=.type "list",dict:=none,data:=.seq xs k,slots:=sl})(c:A.handled=none)(h:∀h' tk e,Heap.NewAttrErr s.heap h' e (.ref a) "keys"->R (.error (.ref e)) {s with heap:=h',toks:=tk}):
  codeAny (model prog w) A (.call (.builtin "list.__getattribute__") ⟨[.ref a,.str "keys" u],[]⟩) R s:=
 codeAny_call_builtin F.slot_list_getattribute.plain am_entry_list_getattribute (F.slot_list_getattribute.check _ _ _ _ _ _ _ _ (show s.TypeIs (.ref a) "list" from⟨_,b,rfl⟩) (F.args_list_getattribute_2 _ _)
  (meets_getattribute_miss_list a xs k sl "keys" u (am_miss_of_fast (by decide +kernel)) (by decide +kernel) (by decide +kernel) prog w A R s ⟨b,c,h⟩))
theorem zQc{E:Value->aY->Prop}{s:aY}{k:Nat}{sl:Array (Option Value)}{Q:Option Value->aY->Prop}(i:s.heap.get? a=some {cls:=.type "list",dict:=none,data:=.seq xs k,slots:=sl})(j:A.handled=none)(h:∀h' f,(∀b ob,s.heap.get? b=some ob->h'.get? b=some ob)->Q none {s with heap:=h',toks:=f}):aH (model prog w) A (getAttr? (.ref a) "keys") Q E s:=by
 obtain⟨l,g,d,f,m⟩:=s;have f1:=sub_AttributeError;have n:=F.slot_list_getattribute.lookup;have o:=F.slot_list_getattribute.bind (.ref a);have p:=am_list_getattr_none;unfold getAttr? getAttrBy?;refine aV ?_
 repeat (any_goals (first|assumption|exact ty _|wp_step))
 refine vZo i j fun h' c e ne=>?_
 obtain⟨q,r,t⟩:=ne.there;show aH _ _ (getattributeRaised _ _ _ _ _ _ _) _ _ _;unfold getattributeRaised;repeat (any_goals (first|assumption|wp_step))
 exact h h' c ne.keeps
theorem vVa:entryFor table "dict.update.loop"=some Builtin.«dict.update.loop»:=entryFor_of_tree (by kernel_rfl)
theorem qJj:plainId "dict.update.loop"=true:=by decide +kernel
end PySem
namespace L2
open PySem PySem.Spec PyProof.Rows
section
variable{X:Cx}{pins:List (aX×Obj)}{σ:L2.St}
noncomputable def PrAt(K:aQ)(H:Hp)(u:V)(a:Key×V):Prop:=∃t,u=.ref t/\SqT K H t [kV a.1,a.2]
structure DpS(X:Cx)(pins:List (aX×Obj))(σ:L2.St)(d it a:aX)(its:List Value)(vs:List V)(kvs:List (Key×V))(H1 H:Hp)(s:aY)(i:Nat):Prop where
 I:Inv X pins σ H s
 f:FpOk X pins H it
 p:s.heap.IsListIter it a i/\s.heap.IsList a its.toArray
 bt:BtA d H1 H
 hd:H d=some (.dK (wY [] (kvs.take i)))
theorem vY8{d it a:aX}{its:List Value}{vs:List V}{kvs:List (Key×V)}{H1:Hp}{A:cQ}{R:Result->aY->Prop}(h:a≠it)(r:a≠d)(l:it≠d)(M:Vals vs its)(hl:vs.length=kvs.length)(hz:kvs.length<aS)(hp:∀(j:Nat) (u:V) (kv:Key×V),vs[j]?=some u->kvs[j]?=some kv->PrAt X.K H1 u kv)(v:H1 d=none\/∃z,H1 d=some (.dK z))(hh:A.in1.handled=none)(hR:∀(H:Hp) (s:aY),Inv X pins σ H s->BtA d H1 H->H d=some (.dK (wY [] kvs))->R (.ok (.ret .none)) s):
  ∀(k i:Nat) (H:Hp) (s:aY),vs.length - i=k->i<=vs.length->DpS X pins σ d it a its vs kvs H1 H s i->codeAny (model X.prog X.w) A (.builtin "dict.update.loop" {pos:=[.ref d,.ref it,rawInt (i:Int),.none]}) R s
 | 0,i,H,s,hk,hi,st=>by
   have hin:i=vs.length:=by omega
   refine cS vVa ?_
   rw[Around.under_plainId qJj];show aH _ _ (pyNext (.ref it) >>=_) _ _ s;refine aV ?_
   have l1:=M.length;refine wpAny_pyNext_list_end hh st.p.1 st.p.2 (by simp;omega) fun g eb=>?_
   show aH _ _ (Builtin.Dict.addKeywords d [] >>=_) _ _ _;refine aV (aW (aW ?_));obtain⟨F,f1,f2,G,J,L⟩:=st.f;have y:Inv X pins σ H {s with heap:=g}:=st.I.turned (t' :=s.toks) (fun b o hb e=>eb b o hb e) F f1 G J L;have hd:=st.hd;rw[List.take_of_length_le (by omega)]at hd;exact hR H _ y st.bt hd
 | k + 1,i,H,s,hk,hi,st=>by
   have N:i<vs.length:=by omega
   refine cS vVa ?_
   rw[Around.under_plainId qJj];show aH _ _ (pyNext (.ref it) >>=_) _ _ s;refine aV ?_
   have O:vs[i]?=some vs[i]:=aD N;have m:kvs[i]?=some (kvs[i]'(by omega)):=aD (by omega);generalize vs[i]=x at O;generalize kvs[i]'(by omega)=kv at m;obtain⟨u,hu,ru⟩:=M.get O;obtain⟨t,rfl,sq⟩:=hp i x kv O m;cases ru;refine wpAny_pyNext_list_item st.p.1 st.p.2 (x:=.ref t) (by simpa using hu) fun g P sb=>?_
   obtain⟨F,f1,f2,G,J,L⟩:=st.f;have y:Inv X pins σ H {s with heap:=g}:=st.I.turned (t' :=s.toks) (fun b o hb e=>(sb.2 b hb).trans e) F f1 G J L;have Q:NT H1 d:=by
    intro o e;rcases v with z|⟨z,q⟩
    ·rw[z]at e;cases e
    ·rw[q]at e;cases e;exact⟨fun _ z=>HO.noConfusion z,fun _ _ z=>HO.noConfusion z⟩
   have S :SqT X.K H t [kV kv.1,kv.2]:=vX5 Q st.bt sq;obtain⟨its2,rv,pl,_⟩:=y.tuple S;obtain⟨uk,uv,rfl,rk,U⟩:=rv.two;obtain⟨ot,B,W,nt,Y⟩:=pl;show aH _ _ ((holding [.ref t] _) >>=_) _ _ _;refine aV (dP ?_);refine aV (wpAny_tryCatch ?_);unfold Builtin.Dict.pairItems;refine aV (wpAny_typeOf (T:="tuple") ⟨ot,B,W⟩ ?_);rw[if_pos (by decide)];refine aV (dE B Y (aW ?_));show aH _ _ (holding [uk,uv] (dictSet d uk uv)) _ _ _;refine dP ?_
   obtain⟨z,Z,ws,C,dd⟩:=jQe y.hok st.hd;have hzz:ws.length<=aS:=by rw[←C.length];exact z
   have hml:(wY [] (kvs.take i)).length <=i:=by
    have:=qJu (kvs.take i) [];rw[List.length_take,List.length_nil]at this;omega
   refine wpAny_dictSet_pairs (hsz:=hzz) (qYv rk) dd fun h' D hs=>?_
   have he:∃q,h'.get? d=some q:=let ⟨q,_,_,hq,_⟩:=D;⟨q,hq⟩;have E:wY [] (kvs.take (i+1))=putK (wY [] (kvs.take i)) kv.1 kv.2:=by
    have et:kvs.take (i+1)=kvs.take i ++ [kv]:=by rw[List.take_add_one,m];rfl
    unfold wY;rw[et,List.foldl_append];rfl
   have hl2:(putK (wY [] (kvs.take i)) kv.1 kv.2).length <=aS:=by have:=qQq (wY [] (kvs.take i)) kv.1 kv.2;omega
   have I2:Inv X pins σ (upd H d (.dK (putK (wY [] (kvs.take i)) kv.1 kv.2))) {s with heap:=h',toks:=s.toks+1}:=vV9 (s:={s with heap:=g}) y (by rw[st.hd];exact True.intro) hs he (zZp hl2 Z (C.put kv.1 U) D);show aH _ _ (again (.builtin "dict.update.loop" {pos:=[.ref d,.ref it,rawInt ((i:Int)+1),.none]})) _ _ _;refine aW ⟨eN qJj _,?_⟩;have oth:∀c o,c≠d->g.get? c=some o->h'.get? c=some o:=fun c o n e=>(hs.2 c n).trans e
   have p2:g.IsListIter it a (i+1)/\g.IsList a its.toArray:=by
    refine⟨P,?_⟩;obtain⟨o,e,c⟩:=st.p.2;exact⟨o,(sb.2 a h).trans e,c⟩
   refine vY8 h r l M hl hz hp v hh hR k (i+1) _ _ (by omega) (by omega) ⟨I2,⟨?_,f1,f2,G,J,L⟩,?_,?_,?_⟩
   ·rw[qT l];exact F
   ·exact(vQ9 h its.toArray).keep _ _ _ p2 fun c o n e=>oth c o (by rcases n with rfl|rfl;exact l;exact r) e
   ·intro c o n e;rw[qT n];exact st.bt c o n e
   ·rw[upd_same,E]
noncomputable def jQy(K:aQ):List V->Hp->VK->Prop:=fun d H Q=>∃p b a,d=[.ref p]/\SqL K H p b/\b.length=a.length/\a.length<aS/\(∀(j:Nat) (u:V) (kv:Key×V),b[j]?=some u->a[j]?=some kv->PrAt K H u kv)/\
 ∀q c,H q=none->Same H c ->c q=some (.dK (wY [] a))->Q (.ref q) c
theorem vXl(v:X.calm=true):zC X (.type "dict") (jQy X.K):=by
 intro f s σ H xs us Q I r h;obtain⟨p,vs,kvs,rfl,S,Z,hz,z,q⟩:=h;obtain⟨u,rfl,ru⟩:=yG r;cases ru;have U:=I.ok.hd v;obtain⟨its,r',pl,hzz⟩:=I.list S;refine callType_codes (Q₁:=fun obj s₁=>obj=.ref s.heap.objs.size/\s₁={s with heap:=s.heap.push {cls:=.type "dict",data:=.dict #[]}}) PySem.F.kt_called_dict (PySem.F.kt_typeCall_dict_1 _) PySem.F.entry_dict_init (kt_code_dict_new _ ⟨rfl,rfl⟩) ?_
 rintro obj s₁ ⟨rfl,rfl⟩;have fr:H s.heap.objs.size=none:=I.hok.fresh (aC _);have B:Inv X f σ (upd H s.heap.objs.size (.dK [])) {s with heap:=s.heap.push {cls:=.type "dict",data:=.dict #[]}}:=I.laid (t' :=s.toks) (fun b o e=>aJ _ e) (aC _) (vJy s.heap I.big);have k:({s with heap:=s.heap.push {cls:=.type "dict",data:=.dict #[]}}:aY).TypeIs (.ref s.heap.objs.size) "dict":=⟨_,aP _ rfl,rfl⟩
 have w:p≠s.heap.objs.size:=by
  obtain⟨o,n,e,_⟩:=pl;exact bQ (aE e)
 refine⟨k,PySem.F.args_dict_init_2 _ _,?_⟩;generalize hd:s.heap.objs.size=d at fr B k w;refine aV ?_
 refine aV (wpAny_notOrdered_dict k ?_);refine aW ?_
 show aH _ _ (Builtin.Dict.updateFrom "dict.__init__" d (.ref p) [] .none) _ _ _;have C:SqL X.K (upd H d (.dK [])) p vs:=by
  rcases S with(h|⟨o,h⟩)|h
  ·exact .inl (.inl (by rw[qT w];exact h))
  ·exact .inl (.inr ⟨o,by rw[qT w];exact h⟩)
  ·exact .inr h
 obtain⟨i,r1,D,_⟩:=B.list C;obtain⟨⟨cls,dd,W,sl⟩,n,l,E,G,m⟩:=D;subst E G m;refine aV (wpAny_typeOf (T:="list") ⟨_,l,rfl⟩ ?_);refine aV (zQc l (show X.A.in1.in1.handled=none from U) fun g x keeps=>?_);have J:Inv X f σ (upd H d (.dK [])) {s with heap:=g,toks:=x}:=B.kept (t' :=x) keeps;refine aV (fV ?_);have li:g.IsList p i.toArray:=⟨_,keeps _ _ l,rfl,n,rfl⟩
 refine aV (wpAny_pyIter_list li ?_);have I3:Inv X f σ (upd H d (.dK [])) {s with heap:=g.push {cls:=.type "list_iterator",data:=.fields #[.ref p,.int 0 0]},toks:=x}:=J.kept (t' :=x) fun b o e=>aJ _ e
 refine aW ⟨eN qJj _,?_⟩;have L:g.get? d=some {cls:=.type "dict",data:=.dict #[]}:=keeps _ _ (by rw[←hd];exact aP _ rfl);have M:g.objs.size≠d:=fun e=>absurd (aE L) (by rw[e];exact bR _)
 have N:p≠g.objs.size:=bQ (aE (keeps _ _ l));have O:upd H d (.dK []) g.objs.size=none:=J.hok.fresh (aC _);have hf:FpOk X f (upd H d (.dK [])) g.objs.size:=J.fpOk (aC _) O;have P:∀(j:Nat) (u:V) (y:Key×V),vs[j]?=some u->kvs[j]?=some y->PrAt X.K (upd H d (.dK [])) u y:=by
  intro j u y a b;obtain⟨t,e,sq⟩:=z j u y a b;exact⟨t,e,vX5 (a:=d) (H' :=upd H d (.dK [])) (fun o e=>by rw[fr]at e;cases e) (fun c o v e=>by rw[qT v];exact e) sq⟩
 refine vY8 (it:=g.objs.size) (a:=p) (d:=d) (its:=i) (vs:=vs) (kvs:=kvs) (H1:=upd H d (.dK [])) N w M r1 Z hz P (.inr ⟨[],upd_same⟩) (show X.A.in1.in1.handled=none from U) ?_ (vs.length) 0 (upd H d (.dK [])) _ rfl (cF _) ⟨I3,hf,⟨⟨_,aP _ rfl,rfl,rfl⟩,⟨_,aJ _ (keeps _ _ l),rfl,n,rfl⟩⟩,fun c o v e=>e,upd_same⟩;intro H' s' I' bt R;refine⟨rfl,.ref d,H',I',rfl,q d H' fr (fun c o e=>?_) R⟩;have Y:c≠d:=fun e' =>by subst e';rw[fr]at e;cases e
 exact bt c o Y (by rw[qT Y];exact e)
end
end L2
namespace DX
open PySem L2 PyProof.Rows
variable{F:Hp}{K:aQ}{c:Nat->aX}{f:Str}
section
variable{X:Cx}{K:aQ}{c:Nat->aX}{E:XK}{e e1 e2:Expr}{o o1 o2:Oe}{p pos p2 pos2:Pos}
noncomputable def kdOf:D->Option (Key×D)
 |.nd .tup [x,y]=>(qV7 x).bind fun k=>some (k,y)
 |_=>none
noncomputable def vQt:List D->Option (List (Key×D))
 |[]=>some []
 |d::r=>(kdOf d).bind fun p=>(vQt r).bind fun a=>some (p::a)
theorem zYr{u:V}{d:D}{p:Key×D}(h:DAt K c F u d)(e:kdOf d=some p):∃v,PrAt K F u (p.1,v)/\DAt K c F v p.2:=by
 unfold kdOf at e;split at e
 ·obtain⟨k,f,g⟩:=cU.mp e;cases g;cases h with
  | @nd q _ vs _ h l r=>
    match vs,l with
    | [a,b],_=>
      have ha:=r 0 a _ rfl rfl;have hb:=r 1 b _ rfl rfl;exact⟨b,⟨q,rfl,by rw[←qZu ha f];exact h⟩,hb⟩
 ·cases e
theorem vJr:∀{us:List V} {ds:List D} {ps:List (Key×D)},DsAt K c F us ds->vQt ds=some ps->∃kvs:List (Key×V),us.length=kvs.length/\(∀(j:Nat) (u:V) (f:Key×V),us[j]?=some u->kvs[j]?=some f->PrAt K F u f)/\kvs.map (·.1)=ps.map (·.1)/\DsAt K c F (kvs.map (·.2)) (ps.map (·.2))
 | us,[],ps,h,e=>by
   cases e;rw[h.un0];exact⟨[],rfl,fun j u f z=>(by simp at z),rfl,.nil⟩
 | us,d::ds,ps,h,e=>by
   obtain⟨p,k,e⟩:=cU.mp e;obtain⟨w,l,e⟩:=cU.mp e;cases e;obtain⟨u,r,rfl,a,b⟩:=h.un;obtain⟨v,m,n⟩:=zYr a k;obtain⟨kvs,o,q,s,t⟩:=vJr b l;refine⟨(p.1,v)::kvs,by rw[aU,aU,o],fun j u f g i=>?_,by rw[aL,aL,s],.cons n t⟩;cases j with
   |zero=>cases g;cases i;exact m
   |succ j=>exact q j u f g i
noncomputable def vWo(o:Oe):SE:=fun a=>(evOs [o] a).bind fun r=>(yH r.1 r.2).bind fun q=>match q.1 with
 |[.nd .lst ds]=>(opt (vQt ds)).bind fun b=>cond (decide (b.length<=1000)) (.ok (.ow (.dct (vR ([],[]) b).1) ((vR ([],[]) b).2.map .fz),q.2)) .no
 |_=>.no
theorem zKe(y:X.calm=true)(A:Gl X "dict")(C:X.mg "dict"=none)(ha:OD X c E e o)(n:aK [e] X.env=[(false,eval e X.env)]:=by rfl)(h0:aK [] X.env=[]:=by rfl):ED X c E (.Call (.Name "dict" p) [e] [] pos) (vWo o):=by
 refine⟨PE.imp (qQ9 (vXl y) A C Boot.«dict» (vO ha qH (by rw[n,h0])).h (by decide) (by decide) (by rw[n,h0]) (by rw[h0];rfl)) fun σ H Q=>?_⟩;rintro⟨env,B,W,D,w⟩;refine qVf D (qY.mp w) fun r1 F us H1 W1 g=>?_
 obtain⟨xs,r,G,i,d,I,f⟩:=rsvBs_wp g.cf g.at_ (qY.mp F);dsimp only at f;split at f
 ·rename_i ds;obtain⟨ps,J,K⟩:=qB f;obtain⟨l,L⟩:=vN K;have l:=of_decide_eq_true l;obtain⟨u,rfl,vw⟩:=vws1 I;obtain⟨a,vs,rfl,M,N⟩:=vw.un qS;obtain⟨b,O,P,s,R⟩:=vJr N J;have S:b.length=ps.length:=by have:=congrArg List.length s;rwa [aZ,aZ]at this
  refine⟨a,vs,b,rfl,M,O,by rw[S];exact vQz l,fun j u T U V=>?_,fun q H' v x Y=>?_⟩
  ·obtain⟨t,e,z⟩:=P j u T U V;exact⟨t,e,NdAt.same (c:=c) (k:=.tup) qS z⟩
  ·obtain⟨Z,m2,m3⟩:=mergeK_ds (ps:=b) (ks:=[]) (vs:=[]) rfl List.nodup_nil;obtain⟨m,d2⟩:=mergeDs_at (ks:=[]) s (R.same (qZs d v x)) .nil;refine L (.ref q) _ G _ ((Got.lay d v x (k:=.dct _) (vs:=(vR ([],[]) b).2) ⟨?_,?_,?_⟩ d2).back (g.st.trans i))
   ·rw[←m];exact m2
   ·rw[←m];exact m3
   ·rw[←m,←Z];exact Y
 ·exact f.elim
end
section
variable{X:Cx}{c:Nat->aX}{E:XK}{e:Expr}{es:List Expr}{s:SV}{ss:List SV}{a:SE}{K:aQ}
theorem zKp{H:Hp}(t:TabF c F):∀{us:List V} {xs:List D},DsAt K c F us xs->SlAt K c F H (xs.map fun d=>Slot.s false (.fz d)) (us.map some) fun _=>0
 |us,[],h=>by rw[h.un0];exact⟨⟨rfl,t⟩,fun _=>rfl⟩
 | us,x::xs,h=>by
   obtain⟨u,r,rfl,a,b⟩:=h.un;exact⟨some u,r.map some,fun _=>0,fun _=>0,rfl,(show OAt K c F H (.fz x) u (fun _=>0) from OAt.fz.mpr ⟨a,fun _=>rfl⟩),zKp t b,fun _=>rfl⟩
end
theorem qJl{x a:Str}{st:Stmt}{ps:List Str}{f:aX}{j:Value}{m an:Option aX}{i:Array (Option Value)}{kV e g d h:Value}(l:K.lookup f=some ⟨j,m,.func (cG x a (jB st) (zL st) (qP st) .none kV e g an d h),i⟩)(c:PySem.W.codeIn K d a=true)(k:cT K (.ref f)=true)(b:∀(kV e g:Value) (an:Option aX) (d h:Value) (us:List Value),us.length=ps.length->bindArgs (cG x a (jB st) (zL st) (qP st) .none kV e g an d h) ⟨us,[]⟩=pure (ps.zip us)):
  MethAt K x a st ps f (cG x a (jB st) (zL st) (qP st) .none kV e g an d h):=⟨vVp l c k,(vVp l c k).binds b⟩
theorem vY0:xP K c [] f:=fun _ h=>nomatch h
theorem vJv{C:Nat}{cs:List Nat}(h:Cls K (c C))(n:xB K (c C) f)(r:xP K c cs f):xP K c (C::cs) f:=fun D hD=>by
 rcases aG.mp hD with rfl|hD
 ·exact⟨h,n⟩
 ·exact r D hD
theorem vY6:∀ns:List Int,DsAt K c F (ns.map V.int) (ns.map D.int)
 |[]=>.nil
 |n::ns=>.cons (.int n) (vY6 ns)
theorem jZz{l:PySem.W.OpenLaw}{q:aA}{loose:List Str}{XP:(Str->Option Value)->Heap->Prop}{YP:bW->Heap->Prop}{d:DefRec}{K:Params->aQ}{F:Fn}{k:Nat}{x:Str}(y:l.most=some 63)(o:d.params.defaults=[])(A:Room k callerA)(B:∀(w:bW) (h:Heap),YP w h->(K w.params).In h)(p:∀ns:List Int,ns.length<=63->∃e,F [.s false (.fz (.nd .lst (ns.map D.int)))]=.ok (.fz (.bl true),e))(C:∀(w:bW) (j:Str->Option Value) (m:aX) (h:Heap),(K w.params).In h->h.Ns cH j->j d.name=some (.ref m)->
   ∃(c:Nat->aX) (n:bJ),c 77=0/\(∀(s:aY) (u:Value),BindsTo s n ⟨[u],[]⟩ [(x,u)])/\
    ∀b:Heap,(K w.params).In b->b.Ns cH j->FnOk l.prog w (K w.params) j b (CXd l.prog w) k m n [x] (spD (K w.params) c 1 F)):
  PySem.W.WalkO q loose XP YP l.row.toRowW d [] (fun f vs=>PySem.call f vs):=by
 refine zW1 (CX:=fun w=>CXd l.prog w) (sp:=fun w vs H Q E=>∀c:Nat->aX,c 77=0->spD (K w.params) c 1 F vs H Q E) (x:=x) y (by decide) o A B (fun w j m h G I J=>?_) (fun w H a ns L T M c i=>?_) fun w H s e U h=>?_
 ·obtain⟨c,n,i,hb,N⟩:=C w j m h G I J;exact⟨n,hb,fun b O P=>FnOk.imp (N b O P) fun vs H Q E z=>z c i⟩
 ·obtain⟨e,R⟩:=p ns L;have S:hide (hd2 (fun _=>0) fun _=>0) H=H:=by funext a;unfold hide;rw[if_pos (by rfl)]
  have t:DAt (K w.params) c (hide (hd2 (fun _=>0) fun _=>0) H) (.ref a) (.nd .lst (ns.map D.int)):=by
   rw[S];exact .nd (k:=.lst) (vs:=ns.map V.int) M (by rw[aZ,aZ]) (vY6 ns).r
  refine⟨[.s false (.fz (.nd .lst (ns.map D.int)))],fun _=>0,fun _=>0,rfl,⟨zKp (fun z=>absurd i z) (us:=[.ref a]) (xs:=[.nd .lst (ns.map D.int)]) (.cons t .nil),fun a=>by show 0+0<=1;omega,fun a z=>absurd rfl z⟩,?_⟩;rw[R];intro v X Y Z g;have:=(OAt.fz.mp g.at_).1;cases this;rfl
 ·exact h.elim
end DX
namespace SG
open PySem
variable{xs:Array Nat}{j:Nat}
noncomputable def Ri(xs:Array Nat):Prop:=∀i k,i<k->k<xs.size->xs.getD i 0<xs.getD k 0
theorem zY2(xs:Array Nat)(j:Nat)(R:Ri xs):∀f lo a,lo<=a->a<=xs.size->a - lo<=f->(∀i,i<lo->xs.getD i 0<j)->(∀i,a<=i->i<xs.size->j<=xs.getD i 0)->
  SetTable.below.go xs j f lo a<=xs.size/\(∀i,i<SetTable.below.go xs j f lo a->xs.getD i 0<j)/\(∀i,SetTable.below.go xs j f lo a<=i->i<xs.size->j<=xs.getD i 0):=by
 intro f;induction f with
 | zero=>
   intro lo a m b n g h;have e:lo=a:=by omega
   subst e;exact⟨b,g,h⟩
 | succ f ih=>
   intro lo a m b n g h;unfold SetTable.below.go;by_cases c:lo<a
   ·rw [if_pos c];dsimp only;have l:(lo+a) / 2<xs.size:=by omega
    have o:∀d,xs.getD ((lo+a) / 2) d=xs.getD ((lo+a) / 2) 0:=fun d=>by simp[Array.getD,l]
    rw[o];by_cases c2:xs.getD ((lo+a) / 2) 0<j
    ·rw [if_pos c2];refine ih _ _ (by omega) b (by omega) (fun i k =>?_) h;by_cases z:i=(lo+a) / 2
     ·rw[z];exact c2
     ·exact Nat.lt_trans (R i _ (by omega) l) c2
    ·rw [if_neg c2];refine ih _ _ (by omega) (by omega) (by omega) g (fun i k hs=>?_);by_cases z:i=(lo+a) / 2
     ·rw[z];omega
     ·have:=R ((lo+a) / 2) i (by omega) hs;omega
   ·rw [if_neg c];have e:lo=a:=by omega
    subst e;exact⟨b,g,h⟩
theorem qVs(R:Ri xs)(j:Nat):bK xs j<=xs.size/\(∀i,i<bK xs j->xs.getD i 0<j)/\(∀i,bK xs j<=i->i<xs.size->j<=xs.getD i 0):=
 zY2 xs j R _ _ _ (cF _) (aC _) (by omega) (fun _ h=>absurd h (by omega)) (fun i a b=>by omega)
theorem vXm(R:Ri xs)(h:(xs[bK xs j]? == some j)=false):∀i,i<xs.size->xs.getD i 0≠j:=by
 intro i d e;obtain⟨a,b,c⟩:=qVs R j;have hb:bK xs j<=i:=by
  by_cases z:i<bK xs j
  ·have:=b i z;omega
  ·omega
 have f:bK xs j=i:=by
  by_cases z:bK xs j=i
  ·exact z
  ·have g:=c (bK xs j) (aC _) (by omega);have k:=R (bK xs j) i (by omega) d;omega
 rw[f]at h;have:xs[i]?=some j:=by
  rw[cI d];simp only[Array.getD,d,dif_pos]at e;rw[←e];rfl
 rw[this]at h;simp at h
theorem vQd{α:Type}(xs:Array α)(p:Nat)(x:α)(a:p<=xs.size):(SetTable.insertAt xs p x).size =xs.size+1:=by
 unfold SetTable.insertAt;simp only[Array.size_append,Array.size_push,Array.size_extract];omega
theorem qJv{p x:Nat}(a:p<=xs.size)(i:Nat):(SetTable.insertAt xs p x).getD i 0=if i<p then xs.getD i 0 else if i=p then x else xs.getD (i - 1) 0:=by
 unfold SetTable.insertAt;simp only[Array.getD_eq_getD_getElem?,Array.getElem?_append,Array.getElem?_push,Array.size_push,Array.size_extract,Array.getElem?_extract];grind
theorem jQ1(R:Ri xs)(h:(xs[bK xs j]? == some j)=false):Ri (SetTable.insertAt xs (bK xs j) j):=by
 obtain⟨a,b,c⟩:=qVs R j;have l:=vXm R h;intro i k e f;rw[vQd _ _ _ a]at f;rw[qJv a,qJv a];by_cases d:i<bK xs j
 ·rw [if_pos d];by_cases c2:k<bK xs j
  ·rw[if_pos c2];exact R i k e (by omega)
  ·grind
 ·rw [if_neg d,if_neg (show¬k < bK xs j by omega),if_neg (show¬k=bK xs j by omega)];by_cases g:i=bK xs j
  ·grind
  ·rw[if_neg g];exact R (i - 1) (k - 1) (by omega) (by omega)
theorem zZ6(n:Nat):Ri (Array.range n):=by
 intro i k b a;rw[Array.size_range]at a;simp[a,Nat.lt_trans b a,b]
noncomputable def qZk(t:SetTable)(j:Nat):Prop:=(t.place[bK t.place j]? == some j)=false
theorem vZm{t:SetTable}(h:t.slot j=.empty):qZk t j:=by
 unfold SetTable.slot at h;unfold qZk;grind
theorem vZn{t:SetTable}(h:t.slot j=.dummy):qZk t j:=by
 unfold SetTable.slot at h;unfold qZk;grind
theorem vVh(t:SetTable)(p:SetTable.Probe):(t.advance p).dummy =p.dummy:=by
 unfold SetTable.advance;split <;> rfl
theorem zZ9(t:SetTable)(f:Nat->Int)(h:Int):∀(n:Nat) (p:SetTable.Probe) (j:Nat) (d:Option Nat),(∀x,p.dummy=some x->qZk t x)->SetTable.probe.go t f h n p=some (.empty j d)->qZk t j/\∀x,d=some x->qZk t x:=by
 intro n;induction n with
 |zero=>intro p j d _ e;cases e
 | succ n ih=>
   intro p j d b e;unfold SetTable.probe.go at e;split at e
   ·rename_i hs;injection e with e
    injection e with e1 e2
    subst e1;subst e2;exact⟨vZm hs,b⟩
   ·rename_i hs;refine ih _ j d (fun x a=>?_) e;rw[vVh]at a;injection a with a
    subst a;exact vZn hs
   ·split at e
    ·grind
    ·exact ih _ j d (fun x a=>b x (by rw[vVh]at a;exact a)) e
theorem zY5{t:SetTable}{h:Int}{b:Bool}(e:t.freeSlot h=some (j,b)):qZk t j:=by
 unfold SetTable.freeSlot at e;split at e
 ·rename_i g d a;obtain⟨c,i⟩:=zZ9 t _ h _ _ _ _ (fun x f=>by cases f) a;injection e with e
  injection e with e1 e2
  subst e1;cases d with
  |none=>exact c
  |some x=>grind
 ·cases e
theorem qVo(t:SetTable)(n:Nat):Ri (t.standIn n).place :=zZ6 n
theorem vZj{t:SetTable}(n:Nat)(h:Ri t.place):Ri (t.orStandIn n).place :=by
 unfold SetTable.orStandIn;split
 ·exact h
 ·exact qVo t n
theorem vQc(t:SetTable)(n:Nat):(t.orStandIn n).led =t.led:=by
 unfold SetTable.orStandIn;split <;> rfl
theorem zQa{t:SetTable}(es:Array (Int×Value))(h:Int)(x:Value)(R:Ri t.place):Ri (layNew t es h x).2.1.place /\(layNew t es h x).2.1.led =t.led:=by
 unfold layNew;split
 ·rename_i a b e;dsimp only;exact⟨vZj _ (jQ1 R (zY5 e)),vQc _ _⟩
 ·exact⟨qVo _ _,rfl⟩
theorem zYn{c f g:Nat}{m h:Bool}{hs:Array Int}{t:SetTable}{o:Array Nat}(e:SetTable.laid c f g m h hs=some (t,o)):Ri t.place/\t.led=m:=by
 obtain⟨d,u,n⟩:=cU.mp e;injection n with n
 injection n with n e3
 subst n;refine⟨?_,rfl⟩;have q:List.Pairwise (fun a b:Nat=>a<b) (((List.range (c+1)).filterMap fun j=>(d.getD j none).map (j,·)).map (·.1)):=by
  rw[List.pairwise_map,List.pairwise_filterMap];refine List.Pairwise.imp ?_ List.pairwise_lt_range;simp_all
 generalize ((List.range (c+1)).filterMap fun j=>(d.getD j none).map (j,·)).map (·.1)=l at q⊢;intro i k r s;have p :k<l.length:=by simpa using s
 have:=List.pairwise_iff_getElem.mp q i k (by omega) p r;simp only[Array.getD_eq_getD_getElem?,List.getElem?_toArray,aD p,aD (show i<l.length by omega)];exact this
theorem relayAll_ri{t:SetTable}(es:Array (Int×Value))(m:Nat):Ri (relayAll t es m).2.1.place /\(relayAll t es m).2.1.led =t.led:=by
 unfold relayAll;split
 ·rename_i a o e;dsimp only;split
  ·exact zYn e
  ·exact⟨qVo _ _,rfl⟩
 ·exact⟨qVo _ _,rfl⟩
end SG
namespace SG
open PySem PySem.Spec PyProof.Rows
variable{a:aX}{S S':Int->Bool}{es es':Array (Int×Value)}{ep n g nT:Nat}{t':SetTable}{Q:Option Value->aY->Prop}{prog:aA}{w:bW}{α:Type}{c:Prop}{M:Model}{f v:Value}{ys:List Nat}{oT:Obj}
section
variable{prog:aA}{w:bW}{A:cQ}{E:Value->aY->Prop}{s:aY}
structure SetI(prog:aA)(w:bW)(S:Int->Bool)(o:Obj)(es:Array (Int×Value))(ep:Nat)(t:SetTable):Prop where
 ex:o.ExactSet
 da:o.data=.set es ep t
 el:ElemsOf (intKind prog w) es.toList
 me:∀k,S k=true↔∃e∈es.toList,(intKind prog w).is k e.2=true
 sm:es.size<scanBound
 ft:t.fits es.size=true
 ri:Ri t.place
 ld:t.led= !w.params.followText "set-order"
noncomputable def SetG(prog:aA)(w:bW)(a:aX)(S:Int->Bool)(n:Nat)(h:Heap):Prop:=∃o b c t,h.get? a=some o/\SetI prog w S o b c t/\b.size=n
theorem zVv{o:Obj}{t:SetTable}(e:s.heap.get? a=some o)(i:SetI prog w S o es ep t)(el:ElemsOf (intKind prog w) es'.toList)(c:∀k,S' k=true↔∃e∈es'.toList,(intKind prog w).is k e.2=true)(b:es'.size<scanBound)(d:t'.fits es'.size=true)(f:Ri t'.place)(g:t'.led=t.led){Q:Unit->aY->Prop}(h:∀(h' :Heap) (o' :Obj),eX a s.heap h' ->h'.get? a=some o' ->SetI prog w S' o' es' (ep+1) t' ->Q () {s with heap:=h' }):
  aH (model prog w) A (storeSet a es' t') Q E s:=by
 refine wpAny_storeSet_of e i.da ?_ (fits_of_scanBound b)
 obtain⟨q,_⟩:=SetOf_store (knd:=intKind prog w) e i.ex i.da el c b d;exact h _ _ (eQ s.heap a (Obj.putSet es' t')) q ⟨i.ex,rfl,el,c,b,d,f,by rw[g];exact i.ld⟩
theorem zKl{g:Bool->Sem Unit}(v:∀(b:Bool) (z:aY) (Q:Unit->aY->Prop),Q () z->aH (model prog w) A (g b) Q E z){o:Obj}{t:SetTable}(e:s.heap.get? a=some o)(i:SetI prog w S o es ep t)(el:ElemsOf (intKind prog w) es'.toList)(j:∀k,S' k=true↔∃e∈es'.toList,(intKind prog w).is k e.2=true)(l:es'.size<scanBound)(y:t'.fits es'.size=true)(B:Ri t'.place)(C:t'.led=t.led){D:Bool}{R:Option Bool->aY->Prop}(h:∀h',eX a s.heap h' ->SetG prog w a S' es'.size h' ->R (some true) {s with heap:=h' }):
  aH (model prog w) A (do
    storeSet a es' t';if(!D && t'.tooFull)=true then do
       g (relayAll t' es' (SetTable.grown es'.size)).2.2;storeSet a (relayAll t' es' (SetTable.grown es'.size)).1 (relayAll t' es' (SetTable.grown es'.size)).2.1;pure (some true)
     else pure (some true)) R E s:=by
 refine aV (zVv e i el j l y B C fun F o1 m n q=>?_);split
 ·have p:=relayAll_perm t' es' (SetTable.grown es'.size);have f:=relayAll_fits t' es' (SetTable.grown es'.size);obtain⟨r,u⟩:=relayAll_ri (t:=t') es' (SetTable.grown es'.size);generalize relayAll t' es' (SetTable.grown es'.size)=L at p f r u⊢;have z:L.1.size=es'.size:=by rw[←Array.length_toList,p.length_eq,Array.length_toList]
  refine aV (v _ _ _ (aV (zVv (s:={s with heap:=F}) (S' :=S') n q (el.perm p) (fun k=>(j k).trans ⟨fun⟨x,c,d⟩=>⟨x,p.mem_iff.mpr c,d⟩,fun⟨x,c,d⟩=>⟨x,p.mem_iff.mp c,d⟩⟩) (by rw[z];exact l) f r u fun I o2 G H i2=>?_)));exact aW (h _ (m.trans G) ⟨o2,_,_,_,H,i2,z⟩)
 ·exact aW (h _ m ⟨o1,_,_,_,n,q,rfl⟩)
theorem addG{k:Int}{x:Value}{Q:Bool->aY->Prop}(hk:(intKind prog w).is k x=true)(F:x.scannable=true)(O:SetG prog w a S n s.heap)(room:n+1<scanBound)(h:∀h',eX a s.heap h' ->SetG prog w a (fun j=>S j || decide (j=k)) (if S k then n else n+1) h' ->Q (!S k) {s with heap:=h' }):
  aH (model prog w) A (setAddHashed a x ((intKind prog w).hash k)) Q E s:=by
 obtain⟨o,d,P,t,e,i,z⟩:=O;refine dP (aV (fQ e i.da i.ft ?_));dsimp only;rw[byScan_of F i.sm i.el];refine aV (aV (fV (aV (wpAny_setScan_of hk e i.da i.ft i.el ?_))));cases hr:List.findIdx? (fun y=>(intKind prog w).is k y.2) d.toList with
 | some j=>
   obtain⟨R,T,_⟩:=List.findIdx?_eq_some_iff_getElem.mp hr;have G:S k=true:=(i.me k).mpr ⟨d.toList[j],List.getElem_mem R,T⟩;refine aW (aW ?_);have r:=h s.heap (Heap.SameBut.refl a s.heap) ⟨o,d,P,t,e,⟨i.ex,i.da,i.el,fun m=>by
    rw[Bool.or_eq_true,decide_eq_true_eq,←i.me m];exact⟨fun y=>y.elim id fun u=>by rw[u];exact G,.inl⟩,i.sm,i.ft,i.ri,i.ld⟩,by rw[G];exact z⟩
   simp_all
 | none=>
   have G:S k=false:=by
    cases c:S k with
    |false=>rfl
    | true=>
      obtain⟨y,l,v⟩:=(i.me k).mp c;grind
   have p:=layNew_perm t d ((intKind prog w).hash k) x;have f:=layNew_fits t d ((intKind prog w).hash k) x;obtain⟨H,I⟩:=zQa d ((intKind prog w).hash k) x i.ri;generalize layNew t d ((intKind prog w).hash k) x=L at p f H I⊢;obtain⟨g,V,W,J⟩:=L;rw[Array.toList_push]at p;have K:=(i.el.push hk F).perm p;have M:=mem_push_iff (S:=S) hk i.me p;have sz:g.size=n+1:=by rw[←Array.length_toList,p.length_eq,aB,Array.length_toList,z];rfl
   have N:g.size<scanBound:=by rw[sz];exact room
   have B:∀h',eX a s.heap h' ->SetG prog w a (fun j=>S j || decide (j=k)) g.size h' ->Q true {s with heap:=h' }:=fun h' l v=>by
    grind
   have U:∀(b:Bool) (C:aY) (D :Unit->aY->Prop),D () C->aH (model prog w) A (match b with|true=>rule "set.scan.the-table-gave-way" |false=>pure ()) D E C:=fun b C D q=>by
    cases b <;> first|exact aW q|exact fV q
   refine aV (U _ _ _ ?_);split
   ·refine aV ?_
    rw[hashByValue_scannable 8 F];refine aW (zKl (fun b C D q=>by cases b <;> first|exact aW q|exact fV q) e i K M N ?_ ?_ ?_ fun h' l v=>aW (B h' l v))
    ·split
     ·exact f
     ·exact SetTable.fits_plain_off f
    ·grind
    ·grind
   ·refine aV (aW ?_);exact zKl (fun b C D q=>by cases b <;> first|exact aW q|exact fV q) e i K M N f H I fun h' l v=>aW (B h' l v)
end
theorem SetG.at{h h' :Heap}(g:SetG prog w a S n h)(k:∀o,h.get? a=some o->h'.get? a=some o):SetG prog w a S n h' :=by
 obtain⟨o,b,c,t,e,i,z⟩:=g;exact⟨o,b,c,t,k _ e,i,z⟩
theorem SetG.eq{n':Nat}{h:Heap}(g:SetG prog w a S n h)(e:∀k,S k=S' k)(m:n=n'):SetG prog w a S' n' h:=by
 have:S=S' :=funext e;grind
section
variable{prog:aA}{w:bW}{A:cQ}{R:Result->aY->Prop}{I:aX}{fp wr:List aX}{G:Array GenState->Array GenState->Prop}{n:Nat}{P:Nat->Value->Prop}{St:Nat->aY->Prop}
theorem jJ0(W:WalksS prog w A.in1 I fp wr G n P St)(S:aX)(c:S∉fp)(val:Nat->Int)(h:∀i v,P i v->∃t,v=.int (val i) t)(few:n+1<scanBound):
  ∀(k i:Nat) (s:aY),n - i=k->i<=n->St i s->SetG prog w S (fun j=>(firstMet val i).any (· == j)) (firstMet val i).length s.heap->
   (∀a,Moved (S::wr) G s a ->SetG prog w S (fun j=>(firstMet val n).any (· == j)) (firstMet val n).length a.heap->R (.ok (.ret .none)) a)->
   codeAny (model prog w) A (.builtin "set.update.loop" ⟨[.ref S,.ref I],[]⟩) R s:=by
 have ow:S∉wr:=fun z=>c (W.sub _ z)
 have up:∀b∈wr,b∈S::wr:=fun b z=>aI _ z
 intro k
 induction k with
 | zero=>
   intro i s l q st g d
   obtain rfl:i=n:=by omega
   refine cS F.entry_set_update_loop ?_
   refine aV (m:=pyNext (.ref I)) (W.done s _ _ st fun a m=>?_)
   exact aW (d a (m.mono up) (g.at fun o e=>m.heap S _ ow e))
 | succ k ih=>
   intro i s l q st g d
   have lt:i<n:=by omega
   refine cS F.entry_set_update_loop ?_
   refine aV (m:=pyNext (.ref I)) (W.item i s _ _ lt st fun v a p f m=>?_)
   obtain⟨t,rfl⟩:=h i v p
   have r :=g.at (h' :=a.heap) fun o e=>m.heap S _ ow e
   refine aV (m:=holding [Value.int (val i) t] (setAdd S (.int (val i) t))) (dP ?_)
   refine dP (aV ((intKind prog w).pyHash (k:=val i) (intKind_is _ _ _ _) ?_))
   refine addG (s:={a with toks:=a.toks+1}) (intKind_is _ _ _ _) rfl r (by have:=firstMet_length_le val i;omega) fun C sb g2=>?_
   have u:=g2.eq (S' :=fun j=>(firstMet val (i+1)).any (· == j)) (n' :=(firstMet val (i+1)).length) (fun j=>by rw[firstMet_succ,step_any]) (by rw[firstMet_succ,step_length])
   refine aW ⟨eN F.plain_set_update_loop _,ih (i+1) _ (by omega) lt (W.frame _ a _ _ f (Nat.le_succ _) fun b hb o e=>?_) u fun x y B=>?_⟩
   ·rw[sb.2 b fun z=>c (by rw[←z];exact hb)];exact e
   ·refine d x (Moved.trans W.gtrans ((m.mono up).then_heap (Nat.le_succ _) fun b o hb e=>?_) y) B
    rw[sb.2 b fun z=>hb (by rw[z];exact dM)];exact e
end
section
variable{prog:aA}{w:bW}{A:cQ}{E:Value->aY->Prop}{s:aY}
noncomputable abbrev newS(w:bW):Obj:={cls:=.type "set",dict:=none,data:=.set #[] 0 (.fresh 0 0 (!w.params.followText "set-order"))}
theorem newG(a:Value){Q:Value->aY->Prop}(h:Q (.ref s.heap.objs.size) {s with heap:=s.heap.push (newS w)}):
  codeAny (model prog w) A (.call (.builtin "set.__new__") ⟨[.type "set",a],[]⟩) (wants Q E) s:=by
 refine codeAny_of_tree ?_
 refine aV (fJ (PySem.F.newCall_set_1 a) (aW ⟨eN PySem.F.plain_set_new _,cS PySem.F.entry_set_new ?_⟩));unfold Builtin.«set.__new__» Builtin.Frozenset.newClass;have b:=sub_set_self;wp_walk;refine wpAny_askSetting (aW ?_);exact aV (wpAny_alloc (aW (aW h)))
end
section
variable{prog:aA}{w:bW}{A:cQ}{E:Value->aY->Prop}{s:aY}
noncomputable abbrev fmS(ns:List Int)(n:Nat):List Int:=firstMet (fun i=>ns.getD i 0) n
noncomputable abbrev inS(ns:List Int)(n:Nat):Int->Bool:=fun j=>(fmS ns n).any (· == j)
theorem zJr(w:bW)(s:aY):(s.heap.push (newS w)).get? s.heap.objs.size=some (newS w):=aP _ rfl
theorem zYl(prog:aA)(w:bW):SetI prog w (fun _=>false) (newS w) #[] 0 (.fresh 0 0 (!w.params.followText "set-order")) where
 ex:=⟨rfl,rfl,rfl⟩
 da:=rfl;el:=fun e a=>by simp at a
 me:=fun k=>by simp
 sm:=by decide
 ft:=by rfl
 ri:=fun i k _ h=>absurd h (Nat.not_lt_zero _)
 ld:=rfl
set_option maxHeartbeats 3200000 in
theorem zQ1{l:aX}{its:Array Value}{ns:List Int}{Q:Value->aY->Prop}(U:A.handled=none)(hl:s.heap.IsList l its)(V:IntsAre its.toList ns)(few:its.size+1<scanBound)(h:∀(h' :Heap) (y:Nat),SetG prog w s.heap.objs.size (inS ns its.size) (fmS ns its.size).length h' ->(∀b o,b<s.heap.objs.size->s.heap.get? b=some o->h'.get? b=some o)->Q (.ref s.heap.objs.size) {s with heap:=h',toks:=y}):
  aH (model prog w) A (call (.type "set") [.ref l]) Q E s:=by
 obtain⟨c,tl,K⟩:=dB.mro;have B:=dB.made;have L:=dB.sub;refine wpAny_call (codeAny_of_tree ?_);show aH _ _ (callAny (.type "set") _) _ _ _;refine aW ⟨Code.quiet_builtin _ (by decide +kernel),cS PySem.F.entry_type_call ?_⟩;rw[Around.under_plain (weight_type_call_type "set" [.ref l] []) rfl];have h1:=dB.notType;have h2:=dB.canCreate;have W:=PySem.F.typeCall_set_1 (.ref l);repeat (any_goals (first|assumption|wp_step))
 refine codeAny_mono (newG (.ref l) (E:=E) (Q:=fun u z=>u=.ref s.heap.objs.size/\z={s with heap:=s.heap.push (newS w)}) ⟨rfl,rfl⟩) fun r z C=>?_
 cases r with
 |error e=>exact C
 | ok fl=>
   cases fl with
   | ret u=>
     obtain⟨rfl,rfl⟩:=C;have M:=zJr w s;have X:Shared.TypeIs {s with heap:=s.heap.push (newS w)} (.ref s.heap.objs.size) "set":=⟨_,M,rfl⟩
     have Y:=dB.init.lookup;have Z:=dB.init.bind (.ref s.heap.objs.size);repeat (any_goals (first|assumption|wp_step))
     refine codeAny_mono (codeAny_call_builtin (R:=wants (fun r z=>r=.none /\∃h' y,z={s with heap:=h',toks:=y}/\SetG prog w s.heap.objs.size (inS ns its.size) (fmS ns its.size).length h' /\∀b o,b<s.heap.objs.size->s.heap.get? b=some o->h'.get? b=some o) E)
      dB.init.plain PySem.F.entry_set_init (check_set_init_1 X ?_)) fun r2 z2 d=>?_
     ·obtain⟨ol,j,n,N,p⟩:=hl;obtain⟨O,f,D,a⟩:=ol;simp only at n p;subst n;subst p;have t :(s.heap.push (newS w)).get? l=some {cls:=.type "list",dict:=f,data:=.seq its N,slots:=a}:=aJ _ j;have P:=PySem.F.sub_list_set;have S:=PySem.F.sub_list_frozenset;have hne:(Value.type "list" == Value.type "dict")=false:=by decide
      have x:(s.heap.push (newS w)).IsList l its:=⟨_,t,rfl,N,rfl⟩
      unfold Builtin.«set.__init__» noKeywords Builtin.Frozenset.updateFrom;generalize G:pyIter=PI;wp_walk;subst G;refine wpAny_pyIter_list x (aV (wpAny_runValue ?_));have T:l<s.heap.objs.size:=aE j;have lI:l≠(s.heap.push (newS w)).objs.size:=by rw[bP];exact bQ (eM T)
      have H:s.heap.objs.size∉ [(s.heap.push (newS w)).objs.size,l]:=by
       rw[bP];intro z;rcases aG.mp z with z|z
       ·exact absurd z (bQ (Nat.lt_succ_self _))
       ·exact absurd (bV.mp z) (dD T)
      refine jJ0 ((Walks.list (show A.in1.in1.in1.handled=none by simp[U]) _ l lI its).toS) s.heap.objs.size H (fun i=>ns.getD i 0) (fun i v q=>IntsAre.int_at V i v (by rw[Array.getElem?_toList];exact q)) few (its.size - 0) 0 _ (by omega) (cF _)
       ⟨⟨_,aP _ rfl,rfl,rfl⟩,x.push _⟩ ⟨_,_,_,_,aJ _ M,zYl prog w,rfl⟩ fun z m g=>?_
      obtain⟨h',g',d',I,J⟩:=z;obtain rfl:g' =s.gens:=m.gens;obtain rfl:d' =s.drawn:=m.drawn;obtain rfl:J =s.os:=m.os;refine aW ?_
      show aH _ _ (ret Value.none) _ _ _;refine aW ⟨rfl,h',I,rfl,g,fun b o hb e=>m.heap b o (fun z=>?_) (aJ _ (aJ _ e))⟩;rcases aG.mp z with z|z
      ·exact absurd z (bQ hb)
      ·have z:=bV.mp z;rw[bP]at z;exact absurd z (bQ (eM hb))
     ·cases r2 with
      |error e=>exact d
      | ok f2=>
        cases f2 with
        | ret r=>
          obtain⟨rfl,h',y,rfl,g,k⟩:=d;repeat (any_goals (first|assumption|wp_step))
          exact h _ _ g k
        |_=>exact d.elim
   |_=>exact C.elim
end
theorem qKl:∀{l:List α} {i:Nat} (h:i<l.length),(l[i]::l.eraseIdx i).Perm l
 |x::l,0,_=>.refl _
 |x::l,i+1,h=>(List.Perm.swap _ _ _).trans ((qKl (l:=l) (i:=i) (Nat.lt_of_succ_lt_succ h)).cons x)
theorem jS:Slot "set_iterator" "__next__" "set_iterator.__next__":=
 .of (owner:="set_iterator") (n:="__next__") (by rw[typeLookup_type,builtinLookup_eq_fast];kernel_rfl) (by decide +kernel) (by decide +kernel) (by decide +kernel) (by first|exact .inl (by decide +kernel)|exact .inr (by decide +kernel)) (by rw[isSubtype_type];kernel_rfl)
theorem vQe:entryFor table "set_iterator.__next__"=some Builtin.«set_iterator.__next__»:=entryFor_of_fast (by kernel_rfl)
theorem vZx(a:Value):argsOk "set_iterator.__next__" ⟨[a],[]⟩:=by kernel_rfl
theorem qW2:Slot "set_iterator" "__iter__" "set_iterator.__iter__":=
 .of (owner:="set_iterator") (n:="__iter__") (by rw[typeLookup_type,builtinLookup_eq_fast];kernel_rfl) (by decide +kernel) (by decide +kernel) (by decide +kernel) (by first|exact .inl (by decide +kernel)|exact .inr (by decide +kernel)) (by rw[isSubtype_type];kernel_rfl)
theorem vQf:entryFor table "set_iterator.__iter__"=some Builtin.«dict_keyiterator.__iter__»:=entryFor_alias (id' :="dict_keyiterator.__iter__") (by kernel_rfl) rfl (by decide +kernel) (by kernel_rfl)
theorem vZy(a:Value):argsOk "set_iterator.__iter__" ⟨[a],[]⟩:=by kernel_rfl
theorem qK8:entryFor table "set.__iter__"=some Builtin.«frozenset.__iter__»:=entryFor_alias (id' :="frozenset.__iter__") (by kernel_rfl) rfl (by decide +kernel) (by kernel_rfl)
section
variable{prog:aA}{w:bW}{A:cQ}{E:Value->aY->Prop}{s:aY}
theorem qWj[Decidable c]{a b:Sem α}{Q:α->aY->Prop}(n:¬c)(h:aH M A b Q E s):aH M A (if c then a else b) Q E s:=by grind
theorem zK8[Decidable c]{a b:Sem α}{Q:α->aY->Prop}(n:c)(h:aH M A a Q E s):aH M A (if c then a else b) Q E s:=by grind
theorem zKf{a:Source}{Q:Nat->aY->Prop}(b:n≠0)(h:∀i d,i<n->Q i {s with drawn:=d}):aH (model prog w) A (choose a n) Q E s:=fun Γ p _=>by
 show Sem.wp _ _ (.choose a n .pure) _ _ _ _;exact⟨b,h _ _ (Nat.mod_lt _ (Nat.pos_of_ne_zero b))⟩
theorem jWe:∀(n:Nat) (xs:List α) (s:aY) (Q:List α->aY->Prop),xs.length<=n->(∀ys d,ys.Perm xs->Q ys {s with drawn:=d})->aH (model prog w) A (drawOrder n xs) Q E s:=by
 intro n;induction n with
 | zero=>
   intro xs s Q b h;have:xs=[]:=eP (by omega);subst this;exact aW (h [] s.drawn (.refl _))
 | succ n ih=>
   intro xs s Q b h;cases xs with
   |nil=>exact aW (h [] s.drawn (.refl _))
   | cons x xs=>
     refine aV (zKf (by simp) fun i d a=>?_);have g:(x::xs)[i]?=some (x::xs)[i]:=aD a;rw[g];refine aV (ih _ _ _ (by rw[List.length_eraseIdx];split <;> simp_all) fun ys c p=>aW (h _ _ ?_));have:=qKl a;exact(List.Perm.cons _ p).trans this
end
theorem zXz(next:Nat->Nat):∀(f k:Nat) (l:List α) (o:Array α),l.length<=f->(pickOrder.go next f k l o).toList.Perm (o.toList ++ l):=by
 intro f;induction f with
 | zero=>
   intro k l o h;have:l=[]:=eP (by omega);subst this;unfold pickOrder.go;simp_all
 | succ f ih=>
   intro k l o h;unfold pickOrder.go;cases l with
   |nil=>simp
   | cons x l=>
     have a:next k % (x::l).length<(x::l).length :=Nat.mod_lt _ (by simp)
     rw[aD a];refine(ih _ _ _ (by rw[List.length_eraseIdx];split <;> simp_all)).trans ?_
     rw[Array.toList_push,List.append_assoc];exact List.Perm.append_left _ (qKl a)
theorem vKw(next:Nat->Nat)(xs:Array α):(pickOrder next xs).toList.Perm xs.toList:=by
 have:=zXz next xs.size 0 xs.toList #[] (by simp)
 simpa[pickOrder] using this
noncomputable def qWd(t:SetTable):Nat->Nat
 | 0=>0
 |i+1=>t.place.getD i 0+1
theorem zZ1{t:SetTable}(R:Ri t.place):∀{i:Nat},i<=t.place.size->bK t.place (qWd t i)=i
 | 0,_=>by
   obtain⟨a,b,c⟩:=qVs R (qWd t 0);by_cases z:0<bK t.place (qWd t 0)
   ·exact absurd (b 0 z) (Nat.not_lt_zero _)
   ·omega
 | i + 1,h=>by
   have e:qWd t (i+1)=t.place.getD i 0+1:=rfl;rw[e];obtain⟨a,b,c⟩:=qVs R (t.place.getD i 0+1);generalize bK t.place (t.place.getD i 0+1)=m at a b c⊢;by_cases z:m<i+1
   ·grind
   ·by_cases d:i + 1 < m
    ·have f:=b (i + 1) d;have:=R i (i+1) (by omega) (by omega);omega
    ·omega
noncomputable abbrev qZb(f:Value)(i:Nat)(v:Value)(n ep:Nat):Obj:={cls:=.type "set_iterator",dict:=none,data:=.fields #[f,.int i 0,v,.int n 0,.int ep 0],slots:=#[]}
section
variable{prog:aA}{w:bW}{A:cQ}{E:Value->aY->Prop}{s:aY}{a:aX}{S:Int->Bool}{o:Obj}{es:Array (Int×Value)}{ep:Nat}{t:SetTable}
theorem vKe{Q:Bool->aY->Prop}(h:Q (w.params.followText "set-order") s):aH (model prog w) A setsByText Q E s:=by
 exact aV (wpAny_askSetting (aW h))
theorem jJu(e:s.heap.get? a=some o)(i:SetI prog w S o es ep t)(b:w.params.followText "set-order"=true){sl:Nat}{Q:Option (Value×Nat)->aY->Prop}(h:Q (((pickOrder (w.params.setOrder a ep) es)[g]?).map fun e=>(e.2,sl)) s):aH (model prog w) A (setNext a sl g ep) Q E s:=by
 refine aV (fQ e i.da i.ft ?_);refine zK8 b ?_
 refine qWj (by simp) ?_
 refine aV (aV (fQ e i.da i.ft ?_));refine zK8 b (aV (wpAny_askSetting (aW (aW h))))
theorem jJv(e:s.heap.get? a=some o)(i:SetI prog w S o es ep t)(b:w.params.followText "set-order"=false)(d:¬(!t.plain && decide (es.size > 1))=true){j:Nat}(f:j<=es.size){Q:Option (Value×Nat)->aY->Prop}(h1:∀(f:j<es.size),Q (some (es[j].2,qWd t (j+1))) s)(h2:j=es.size->Q none s):aH (model prog w) A (setNext a (qWd t j) g ep) Q E s:=by
 have sz:t.place.size=es.size:=by
  have:=i.ft;unfold SetTable.fits at this;grind
 refine aV (fQ e i.da i.ft ?_);refine aV (vKe ?_);refine qWj (by rw[b];exact aO) ?_
 refine qWj d ?_
 refine aV ?_
 refine qWj (show¬(!t.led &&!es.isEmpty)=true by rw[i.ld,b];simp) ?_
 refine aW ?_
 rw[zZ1 i.ri (by omega)];refine aW ?_
 by_cases c:j<es.size
 ·have h:es[j]?=some es[j]:=cI c;have k:t.place[j]?=some (t.place.getD j 0):=by rw[cI (by omega)];simp[show j<t.place.size by omega]
  rw[h,k];exact h1 c
 ·grind
end
section
variable{prog:aA}{w:bW}{A:cQ}{E:Value->aY->Prop}{s:aY}{a I:aX}{S:Int->Bool}{o:Obj}{es:Array (Int×Value)}{ep j:Nat}{t:SetTable}
theorem zVg{k:Nat}(c:s.heap.get? I=some (qZb f k v n ep))(h:aH (model prog w) A.in1 (Builtin.«set_iterator.__next__» ⟨[.ref I],[]⟩) (fun a b =>∃r,a=.done (.ret r)/\Q (some r) b) (fun e b =>aH (model prog w) A (do if←isInstance e (.type "StopIteration") then pure none else throw e) Q E b) s):
  aH (model prog w) A (pyNext (.ref I)) Q E s:=by
 unfold pyNext;refine aV (wpAny_attempt (dY (name:=Str.ofString "__next__") ⟨_,c,rfl⟩ jS (cZ jS ⟨_,c,rfl⟩ vQe ?_ (vZx _))));refine fZ h ?_ ?_
 ·rintro a b ⟨r,rfl,q⟩;exact⟨r,rfl,aW q⟩
 ·intro e b q;exact q
theorem zVf{P:PySem.Fin->aY->Prop}(c:A.handled=none)(h:∀h',(∀b o,s.heap.get? b=some o->h'.get? b=some o)->Q none {s with heap:=h' }):
  aH (model prog w) A.in1 (do raiseNew (←newExc (.type "StopIteration") [])) P (fun e d =>aH (model prog w) A (do if←isInstance e (.type "StopIteration") then pure none else throw e) Q E d) s:=by
 refine aV ?_
 refine aV (m:=firstArgMember _ _) (fJ (a:=Value.none) (by first|rfl|(simp only[firstArgMember];rfl)) ?_);refine bT ?_ (by size_fits)
 refine aV (wpAny_handled ?_);rw[show A.in1.handled=none from c];refine aV (aW (wpAny_throw ?_));refine aV (wpAny_isInstance (T:="StopIteration") (b:=true) ⟨_,aP _ rfl,rfl⟩ isSubtype_stop ?_);exact aW (h _ fun b o e=>aJ _ (aJ _ e))
theorem setG{vs:Array Value}{k:Nat}{x:Value}{Q:Unit->aY->Prop}(e:s.heap.get? I=some {cls:=.type "set_iterator",dict:=none,data:=.fields vs,slots:=#[]})(hk:k<vs.size)(h:∀h',h'.get? I=some {cls:=.type "set_iterator",dict:=none,data:=.fields (vs.setIfInBounds k x),slots:=#[]}->(∀b o,b≠I->s.heap.get? b=some o->h'.get? b=some o)->Q () {s with heap:=h' }):
  aH (model prog w) A (setField (.ref I) k x) Q E s:=by
 refine eJ e hk fun h' q sb=>h h' q fun b o n y=>?_
 rw[sb.2 b n];exact y
theorem vX9(f:s.heap.get? I=some (qZb (.int (qWd t j) 0) j (.ref a) es.size ep))(e:s.heap.get? a=some o)(i:SetI prog w S o es ep t)(b:w.params.followText "set-order"=false)(d:¬(!t.plain && decide (es.size > 1))=true)(p:A.handled=none)(l:j<=es.size)(h1:∀(l:j<es.size) h',h'.get? I=some (qZb (.int (qWd t (j+1)) 0) (j+1) (.ref a) es.size ep)->(∀b o,b≠I->s.heap.get? b=some o->h'.get? b=some o)->Q (some es[j].2) {s with heap:=h' })(h2:j=es.size->∀h',(∀b o,b≠I->s.heap.get? b=some o->h'.get? b=some o)->Q none {s with heap:=h' }):aH (model prog w) A (pyNext (.ref I)) Q E s:=by
 refine zVg f ?_
 unfold Builtin.«set_iterator.__next__»;show aH _ _ (fieldsOf (.ref I) >>=_) _ _ s;refine aV (wpAny_fieldsOf f rfl ?_);dsimp only;refine aV (wpAny_setEntries_of e i.da i.ft ?_);refine qWj (by simp) ?_
 refine aV ?_
 refine jJv e i b d l (fun g =>?_) fun z=>?_
 ·dsimp only;refine aV (setG f (by simp) fun h' m h=>?_);refine aV (setG (s:={s with heap:=h' }) m (by simp) fun c k q=>?_);exact aW ⟨_,rfl,h1 g c k fun b o n y=>q b o n (h b o n y)⟩
 ·dsimp only;refine aV (setG f (by simp) fun h' m h=>?_);exact zVf p fun c k=>h2 z c fun b o n y=>k b o (h b o n y)
end
section
variable{prog:aA}{w:bW}{A:cQ}{E:Value->aY->Prop}{s:aY}{a I T:aX}{S:Int->Bool}{o:Obj}{es:Array (Int×Value)}{ep j:Nat}{t:SetTable}
theorem vX8(g:s.heap.get? I=some (qZb (.int 0 0) j (.ref a) es.size ep))(e:s.heap.get? a=some o)(i:SetI prog w S o es ep t)(b:w.params.followText "set-order"=true)(l:A.handled=none){vs:Array (Int×Value)}(m:vs=pickOrder (w.params.setOrder a ep) es)(p:j<=vs.size)(h1:∀(p:j<vs.size) h',h'.get? I=some (qZb (.int 0 0) (j+1) (.ref a) es.size ep)->(∀b o,b≠I->s.heap.get? b=some o->h'.get? b=some o)->Q (some vs[j].2) {s with heap:=h' })(h2:j=vs.size->∀h',(∀b o,b≠I->s.heap.get? b=some o->h'.get? b=some o)->Q none {s with heap:=h' }):aH (model prog w) A (pyNext (.ref I)) Q E s:=by
 refine zVg g ?_
 unfold Builtin.«set_iterator.__next__»;show aH _ _ (fieldsOf (.ref I) >>=_) _ _ s;refine aV (wpAny_fieldsOf g rfl ?_);dsimp only;refine aV (wpAny_setEntries_of e i.da i.ft ?_);refine qWj (by simp) ?_
 refine aV (jJu e i b ?_);rw[←m];by_cases c:j<vs.size
 ·have f:vs[(j:Int).toNat]?=some vs[j]:=cI c;rw[f];dsimp only[Option.map_some];refine aV (setG g (by simp) fun h' f h=>?_);refine aV (setG (s:={s with heap:=h' }) f (by simp) fun d k q=>?_);exact aW ⟨_,rfl,h1 c d k fun b o n y=>q b o n (h b o n y)⟩
 ·have f:vs[(j:Int).toNat]?=none:=Array.getElem?_eq_none (by simpa using c)
  rw[f];dsimp only[Option.map_none];refine aV (setG g (by simp) fun h' f h=>?_);exact zVf l fun d k=>h2 (by omega) d fun b o n y=>k b o (h b o n y)
theorem jJw(e:s.heap.get? a=some o)(i:SetI prog w S o es ep t){k:Nat}(hk:k<es.size){Q:Value->aY->Prop}(h:Q es[k].2 s):aH (model prog w) A (setNextDrawn a k ep) Q E s:=by
 refine aV (fQ e i.da i.ft ?_);refine qWj (by simp) ?_
 rw[cI hk];exact aW h
theorem vYa(f:s.heap.get? I=some (qZb (.ref T) j (.ref a) es.size ep))(e:s.heap.get? a=some o)(i:SetI prog w S o es ep t)(m:s.heap.get? T=some oT)(p:oT.data=.seq (ys.map fun y=>Value.int (y:Nat) 0).toArray q)(h:∀y∈ys,y<es.size)(q:T≠I)(r:A.handled=none)(u:j<=ys.length)(h1:∀(u:j<ys.length) (h:ys[j] < es.size) h',h'.get? I=some (qZb (.ref T) (j+1) (.ref a) es.size ep)->(∀b o,b≠I->s.heap.get? b=some o->h'.get? b=some o)->Q (some es[ys[j]].2) {s with heap:=h' })(h2:j=ys.length->∀h',(∀b o,b≠I->s.heap.get? b=some o->h'.get? b=some o)->Q none {s with heap:=h' }):aH (model prog w) A (pyNext (.ref I)) Q E s:=by
 refine zVg f ?_
 unfold Builtin.«set_iterator.__next__»;show aH _ _ (fieldsOf (.ref I) >>=_) _ _ s;refine aV (wpAny_fieldsOf f rfl ?_);dsimp only;refine aV (wpAny_setEntries_of e i.da i.ft ?_);refine qWj (by simp) ?_
 refine aV (dE m p ?_);dsimp only;by_cases c:j<ys.length
 ·have d:(ys.map fun y=>Value.int (y:Nat) 0).toArray[(j:Int).toNat]?=some (Value.int (ys[j]:Nat) 0):=by
   rw[bN,List.getElem?_toArray,bM,aD c];rfl
  rw[d];dsimp only;have l:=h _ (List.getElem_mem c);refine aV (jJw e i (k:=ys[j]) l ?_);refine aV (setG f (by simp) fun h' d g=>?_);exact aW ⟨_,rfl,h1 c l h' d g⟩
 ·have d:(ys.map fun y=>Value.int (y:Nat) 0).toArray[(j:Int).toNat]?=none:=by
   rw[bN,List.getElem?_toArray,List.getElem?_eq_none (by simpa using c)]
  rw[d];dsimp only;refine aV (setG f (by simp) fun h' d g=>?_);refine aV (setG (s:={s with heap:=h' }) d (by simp) fun v C x=>?_);exact zVf r fun z B=>h2 (by omega) z fun b o n y=>B b o (x b o n (g b o n y))
end
section
variable{prog:aA}{w:bW}{A:cQ}{E:Value->aY->Prop}{s:aY}{a I T:aX}{S:Int->Bool}{o:Obj}{es:Array (Int×Value)}{ep j:Nat}{t:SetTable}
theorem vVx{k:Nat}{Q:Value->aY->Prop}(a:s.heap.get? I=some (qZb f k v n ep))(h:Q (.ref I) s):aH (model prog w) A (pyIter (.ref I)) Q E s:=by
 refine wpAny_pyIter_slot ⟨_,a,rfl⟩ qW2 (cZ qW2 ⟨_,a,rfl⟩ vQf ?_ (vZy _));exact aW ⟨_,rfl,"set_iterator",_,⟨_,a,rfl⟩,jS.lookup,h⟩
theorem vKj(i:SetI prog w S o es ep t)(n:a≠I)(l:A.handled=none)(b:w.params.followText "set-order"=false)(d:¬(!t.plain && decide (es.size > 1))=true):
  Walks prog w A I [I,a] [I] (es.toList.map (·.2)).length (fun k v=>(es.toList.map (·.2))[k]?=some v) (fun k h=>h.get? I=some (qZb (.int (qWd t k) 0) k (.ref a) es.size ep)/\h.get? a=some o) where
 sub:=fun b hb=>by simp at hb;simp[hb]
 frame:=fun _ _ _ st g=>⟨g I (by simp) _ st.1,g a (by simp) _ st.2⟩
 item:=fun k s Q E g st c=>by
  have f :k<es.size:=by simpa using g
  refine vX9 st.1 st.2 i b d l (dH f) (fun _ j p m=>c _ j s.toks (by simp[f]) ⟨p,m a _ n st.2⟩ fun b o hb e=>m b o (fun z=>hb (by simp[z])) e) fun z=>by omega
 done:=fun s Q E st c=>by
  rw[show(es.toList.map (·.2)).length =es.size by simp]at st;exact vX9 st.1 st.2 i b d l (aC _) (fun z=>absurd z (bR _)) fun _ j q=>c j s.toks fun b o hb e=>q b o (fun z=>hb (by simp[z])) e
 self:=fun _ _ _ _ st c=>vVx st.1 c
theorem vKi(i:SetI prog w S o es ep t)(n:a≠I)(j:A.handled=none)(b:w.params.followText "set-order"=true):
  Walks prog w A I [I,a] [I] ((pickOrder (w.params.setOrder a ep) es).toList.map (·.2)).length (fun k v=>((pickOrder (w.params.setOrder a ep) es).toList.map (·.2))[k]?=some v) (fun k h=>h.get? I=some (qZb (.int 0 0) k (.ref a) es.size ep)/\h.get? a=some o) where
 sub:=fun b hb=>by simp at hb;simp[hb]
 frame:=fun _ _ _ st f=>⟨f I (by simp) _ st.1,f a (by simp) _ st.2⟩
 item:=fun k s Q E f st c=>by
  have d :k<(pickOrder (w.params.setOrder a ep) es).size :=by simpa using f
  refine vX8 st.1 st.2 i b j rfl (dH d) (fun _ g m l=>c _ g s.toks (by simp[d]) ⟨m,l a _ n st.2⟩ fun b o hb e=>l b o (fun z=>hb (by simp[z])) e) fun z=>by omega
 done:=fun s Q E st c=>by
  rw[show((pickOrder (w.params.setOrder a ep) es).toList.map (·.2)).length =(pickOrder (w.params.setOrder a ep) es).size by simp]at st;exact vX8 st.1 st.2 i b j rfl (aC _) (fun z=>absurd z (bR _)) fun _ g q=>c g s.toks fun b o hb e=>q b o (fun z=>hb (by simp[z])) e
 self:=fun _ _ _ _ st c=>vVx st.1 c
noncomputable def byY(es:Array (Int×Value))(ys:List Nat):List Value:=ys.map fun y=>(es.getD y (0,.none)).2
theorem vKk(i:SetI prog w S o es ep t)(n:a≠I)(m:T≠I)(p:A.handled=none)(r:oT.data=.seq (ys.map fun y=>Value.int (y:Nat) 0).toArray nT)(u:∀y∈ys,y<es.size):
  Walks prog w A I [I,a,T] [I] (byY es ys).length (fun k v=>(byY es ys)[k]?=some v) (fun k h=>h.get? I=some (qZb (.ref T) k (.ref a) es.size ep)/\h.get? a=some o/\h.get? T=some oT) where
 sub:=fun b hb=>by simp at hb;simp[hb]
 frame:=fun _ _ _ st c=>⟨c I (by simp) _ st.1,c a (by simp) _ st.2.1,c T (by simp) _ st.2.2⟩
 item:=fun k s Q E c st d=>by
  have f :k<ys.length:=by simpa[byY] using c
  refine vYa st.1 st.2.1 i st.2.2 r u m p (dH f) (fun _ g j x l=>d _ j s.toks ?_ ⟨x,l a _ n st.2.1,l T _ m st.2.2⟩ fun b o hb e=>l b o (fun z=>hb (by simp[z])) e) fun z=>by omega
  simp[byY,f,g]
 done:=fun s Q E st d=>by
  rw[show(byY es ys).length =ys.length by simp[byY]]at st;exact vYa st.1 st.2.1 i st.2.2 r u m p (aC _) (fun z=>absurd z (bR _)) fun _ j q=>d j s.toks fun b o hb e=>q b o (fun z=>hb (by simp[z])) e
 self:=fun _ _ _ _ st d=>vVx st.1 d
theorem zWx(p:ys.Perm (List.range es.size)):(byY es ys).Perm (es.toList.map (·.2)):=by
 refine(p.map _).trans ?_
 have:(List.range es.size).map (fun y=>(es.getD y (0,.none)).2)=es.toList.map (·.2):=by
  refine List.ext_getElem (by simp) fun i b a=>?_
  have c:i<es.size:=by simpa using a
  simp_all
 rw[this]
end
structure Wk(prog:aA)(w:bW)(s:aY)(a:aX)(es:Array (Int×Value))(I:aX)(h' :Heap)(vs:List Value)(fp:List aX)(St:Nat->Heap->Prop):Prop where
 wk:∀A:cQ,A.handled=none->Walks prog w A I fp [I] vs.length (fun k v=>vs[k]?=some v) St
 st:St 0 h'
 keep:∀b o,s.heap.get? b=some o->h'.get? b=some o
 far:∀b∈fp,b=a\/s.heap.objs.size<=b
 new:s.heap.objs.size<=I
 pm:vs.Perm (es.toList.map (·.2))
section
variable{prog:aA}{w:bW}{A:cQ}{E:Value->aY->Prop}{s:aY}{a:aX}{S:Int->Bool}{o:Obj}{es:Array (Int×Value)}{ep j:Nat}{t:SetTable}
theorem jZt(e:s.heap.get? a=some o)(i:SetI prog w S o es ep t){Q:Bool->aY->Prop}(h:Q (!w.params.followText "set-order" && (!t.plain && decide (es.size > 1))) s):aH (model prog w) A (setDrawn a) Q E s:=by
 refine aV (fQ e i.da i.ft ?_);exact aV (vKe (aW h))
theorem jJ2(e:s.heap.get? a=some o)(i:SetI prog w S o es ep t){Q:Value->aY->Prop}(h:∀I h' vs fp St d,Wk prog w s a es I h' vs fp St->Q (.ref I) {s with heap:=h',drawn:=d}):aH (model prog w) A (pyIter (.ref a)) Q E s:=by
 have f:a<s.heap.objs.size:=aE e;refine wpAny_pyIter_slot ⟨o,e,i.ex.1⟩ PySem.F.slot_set_iter (cZ PySem.F.slot_set_iter ⟨o,e,i.ex.1⟩ qK8 ?_ (PySem.F.args_set_iter_1 _));unfold Builtin.«frozenset.__iter__»;show aH _ _ (Builtin.Frozenset.sizeOf a >>=_) _ _ s;unfold Builtin.Frozenset.sizeOf;refine aV (aV (wpAny_setEntries_of e i.da i.ft (aW ?_)));refine aV (jZt e i ?_);cases b:w.params.followText "set-order" with
 | true=>
   refine aV (aW (aV (wpAny_setEpoch_of e i.da i.ft ?_)));refine aV (bT (aW ⟨_,rfl,"set_iterator",_,⟨_,aP _ rfl,rfl⟩,jS.lookup,?_⟩));exact h _ _ _ _ _ s.drawn ⟨fun A c=>vKi i (bQ f) c b,⟨aP _ rfl,aJ _ e⟩,fun b o q=>aJ _ q,fun b hb=>(aG.mp hb).elim (fun z=>.inr (Nat.le_of_eq z.symm)) fun z=>.inl (bV.mp z),aC _,(vKw _ _).map _⟩
 | false=>
   by_cases d:(!t.plain && decide (es.size > 1))=true
   ·rw [d];refine aV (jWe _ _ _ _ (by simp) fun ys g p=>?_);have few:es.size<4096:=i.sm;have k:ys.length=es.size:=by rw[p.length_eq];simp
    refine aV (m:=newTuple _) (bT (s:={s with drawn:=g}) ?_ (by show _<=aS;rw[aN,aZ,k];unfold aS;omega));have j:(s.heap.push {cls:=.type "tuple",dict:=none,data:=.seq (ys.map fun i=>rawInt (i:Nat)).toArray }).get? a=some o:=aJ _ e;refine aV (wpAny_setEpoch_of j i.da i.ft ?_);refine aV (bT (aW ⟨_,rfl,"set_iterator",_,⟨_,aP _ rfl,rfl⟩,jS.lookup,?_⟩));refine h _ _ _ _ _ g ⟨fun A c=>vKk (T:=s.heap.objs.size) (ys:=ys) i ?_ ?_ c rfl ?_,⟨aP _ rfl,aJ _ j,aJ _ (aP _ rfl)⟩,fun b o q=>aJ _ (aJ _ q),fun b hb=>?_,?_,zWx p⟩
    ·rw[bP];exact bQ (eM f)
    ·rw[bP];exact bQ (Nat.lt_succ_self _)
    ·intro y l;exact dL.mp (p.mem_iff.mp l)
    ·rw [bP] at hb;rcases aG.mp hb with hb|hb
     ·exact .inr (by rw[hb];exact Nat.le_succ _)
     ·rcases aG.mp hb with hb | hb
      ·exact .inl hb
      ·exact .inr (by rw[bV.mp hb];exact aC _)
    ·rw[bP];exact Nat.le_succ _
   ·rw [show(!t.plain && decide (es.size > 1))=false from by simpa using d];refine aV (aW (aV (wpAny_setEpoch_of e i.da i.ft ?_)));refine aV (bT (aW ⟨_,rfl,"set_iterator",_,⟨_,aP _ rfl,rfl⟩,jS.lookup,?_⟩));exact h _ _ _ _ _ s.drawn ⟨fun A c=>vKj i (bQ f) c b d,⟨aP _ rfl,aJ _ e⟩,fun b o q=>aJ _ q,fun b hb=>(aG.mp hb).elim (fun z=>.inr (Nat.le_of_eq z.symm)) fun z=>.inl (bV.mp z),aC _,.refl _⟩
end
noncomputable abbrev ls0:Obj:={cls:=.type "list",data:=.seq ([]:List Value).toArray }
section
variable{prog:aA}{w:bW}{A:cQ}{E:Value->aY->Prop}{s:aY}{a:aX}{S:Int->Bool}{o:Obj}{es:Array (Int×Value)}{ep j:Nat}{t:SetTable}
theorem jJ8{Q:Bool->aY->Prop}(c:s.TypeIs (.ref a) "set")(h:Q false s):aH (model prog w) A (Builtin.List.listLengthHint (.ref a)) Q E s:=by
 refine aV (wpAny_specialOf c PySem.F.slot_set_len.lookup ?_);generalize d:("set.__len__":String)=id0;wp_delta;subst d;refine aV (wpAny_isInstance (b:=true) c sub_set_self ?_);refine aV (wpAny_typeOf c ?_);exact aW h
set_option maxHeartbeats 1000000 in
theorem zWu(D:A.handled=none)(e:s.heap.get? a=some o)(i:SetI prog w S o es ep t){Q:List Value->aY->Prop}(h:∀f vs,(∀b o,s.heap.get? b=some o->f.heap.get? b=some o)->f.gens=s.gens->f.os=s.os->s.heap.objs.size<=f.heap.objs.size->vs.Perm (es.toList.map (·.2))->Q vs f):aH (model prog w) A (collect (.ref a)) Q E s:=by
 have x:a<s.heap.objs.size:=aE e;have few:es.size<4096:=i.sm;refine aV (wpAny_runValue (cS PySem.F.entry_proto_collect ?_));refine aV (bT ?_);refine aW ⟨eN PySem.F.plain_list_iadd _,cS PySem.F.entry_list_iadd ?_⟩;show aH _ A.in1 (Builtin.List.listExtendWith (.ref s.heap.objs.size) (.ref a) (.ref s.heap.objs.size)) _ _ _;have r:(s.heap.push ls0).get? a=some o:=aJ _ e;have G:(s.heap.push ls0).get? s.heap.objs.size=some ls0:=aP _ rfl;refine aV (wpAny_typeOf (T:="set") ⟨_,r,i.ex.1⟩ ?_);refine qWj ?_ ?_
 ·have H:Builtin.List.listSameRef (.ref s.heap.objs.size) (.ref a)=false:=by simp [Builtin.List.listSameRef,dD x]
  rw[H];decide
 refine aV (jJ2 (s:={s with heap:=s.heap.push ls0}) r i fun I u vs J St d W=>?_);refine aV (dP (jJ8 ⟨_,W.keep a _ r,i.ex.1⟩ ?_));refine aV (fV ?_);refine aV ?_
 have f1:=W.keep _ _ G;refine aV (wpAny_updateSeq f1 rfl ?_);have y:=eD (Obj.mapSeq (·.push Value.none)) f1 rfl;refine wpAny_updateSeq y rfl ?_
 have K:=eD (Obj.mapSeq (·.pop)) y rfl;have l:∀b o,b≠s.heap.objs.size->u.get? b=some o->((u.update s.heap.objs.size (Obj.mapSeq (·.push Value.none))).update s.heap.objs.size (Obj.mapSeq (·.pop))).get? b=some o:=
  fun b o hb q=>(Heap.get?_update_other _ _ (Ne.symm hb)).trans ((Heap.get?_update_other _ _ (Ne.symm hb)).trans q)
 have B:s.heap.objs.size∉J:=fun z=>by
  rcases W.far _ z with z|z
  ·exact absurd z (dD x)
  ·have z:(s.heap.push ls0).objs.size<=s.heap.objs.size:=z;rw[bP]at z;exact absurd z (Nat.not_succ_le_self _)
 have Wk:=W.wk A.in1 D;have L:vs.length=es.size:=by rw[W.pm.length_eq];simp
 refine aW ⟨eN PySem.F.plain_extend_loop _,codeAny_extend_loopS Wk.toS (by rw[L];unfold aS;omega) _ B _ vs.length 0 _ _ _ rfl (cF _) (Wk.frame 0 u _ W.st fun b hb o q=>l b o (fun z=>B (z▸hb)) q) K (ItemsOf.nil _) fun f j c m g C=>?_⟩;refine aV (wpAny_load g ?_);have eq:j.toList=vs:=by
  refine List.ext_getElem? fun k=>?_
  rw[Array.getElem?_toList];cases c:j[k]? with
  |some v=>exact(C.2 k v c).symm
  | none=>
    have:j.size<=k:=Array.getElem?_eq_none_iff.mp c;rw[C.1]at this;exact(List.getElem?_eq_none this).symm
 refine aW (h f _ (fun b o q=>?_) m.gens m.os (dH (aE g)) (by rw[eq];exact W.pm));have p:=aE q;refine m.heap b o (fun z=>?_) (l b o (bQ p) (W.keep b o (aJ _ q)));rcases aG.mp z with z|z
 ·exact absurd z (bQ p)
 ·have n:(s.heap.push ls0).objs.size<=I:=W.new;rw[bP]at n;rw[bV.mp z]at p;exact absurd (aT p (Nat.le_of_succ_le n)) (bR _)
end
theorem isI{k:Int}(h:(intKind prog w).is k v=true):∃t,v=.int k t:=by
 have h:Value.isInt k v=true:=h;cases v with
 | int n t=>
   have:n=k:=by simpa[Value.isInt] using h
   grind
 |_=>simp[Value.isInt]at h
theorem ints_of{prog:aA}{w:bW}:∀{vs:List Value},(∀v∈vs,∃k,(intKind prog w).is k v=true)->∃ns,IntsAre vs ns
 |[],_=>⟨[],.nil⟩
 | v::vs,h=>by
   obtain⟨k,a⟩:=h v (dM ..);obtain⟨t,rfl⟩:=isI a;obtain⟨ns,b⟩:=ints_of (prog:=prog) (w:=w) (vs:=vs) fun u c=>h u (aI _ c)
   exact⟨k::ns,.cons k t b⟩
theorem qWy:∀{vs:List Value} {ns:List Int},IntsAre vs ns->vs.length=ns.length
 |_,_,.nil =>rfl
 |_,_,.cons _ _ h=>by rw[aU,aU,qWy h]
theorem vJt:∀{vs:List Value} {ns:List Int} {k:Int},IntsAre vs ns->(k∈ns↔∃t,Value.int k t∈vs)
 |_,_,k,.nil =>by simp
 | _,_,k, .cons n t h=>by
   rw[aG,vJt h];grind
theorem vYj:∀{l ns:List Int},l.Nodup->(∀x∈l,x∈ns)->ns.length<=l.length->ns.Perm l
 | [],ns,_,_,h=>by
   grind
 | x::l,ns,nd,sb,h=>by
   have a:=sb x (dM ..);rw[dW]at nd;have p:=List.perm_cons_erase a;refine p.trans (List.Perm.cons x (vYj nd.2 (fun y b=>?_) ?_))
   ·grind
   ·grind
section
variable{prog:aA}{w:bW}{A:cQ}{E:Value->aY->Prop}{s:aY}{a:aX}
set_option maxHeartbeats 2000000 in
theorem vJ1{l:List Int}(nd:l.Nodup)(G:A.handled=none)(g:SetG prog w a (fun j=>l.any (· == j)) l.length s.heap)(few:l.length<64){Q:Value->aY->Prop}(h:∀s' D out ns c,(∀b o,s.heap.get? b=some o->s'.heap.get? b=some o)->s'.gens=s.gens->s'.os=s.os->s.heap.objs.size<=D->s'.heap.get? D=some (seqObj "list" out c)->IntsAre out.toList ns->ns.Perm l->ns.Pairwise (·<=·)->Q (.ref D) s'):
  aH (model prog w) A (call (.builtin "sorted") [.ref a]) Q E s:=by
 obtain⟨o,W,X,t,e,i,z⟩:=g;refine Calls.call_function_entry kind_sorted plain_sorted entry_sorted (args_sorted1 _) ?_
 refine aV (m:=checkCount "sorted" 1 1 _) (aW ?_);refine aV (zWu (A:=A.in1) G e i fun d vs H I J K n=>?_);have L:vs.length=l.length:=by rw[n.length_eq,←z];simp
 obtain⟨ns,p⟩:=ints_of (prog:=prog) (w:=w) (vs:=vs) fun v M=>by
  obtain⟨y,r,rfl⟩:=cJ.mp (n.mem_iff.mp M);obtain⟨⟨k,u,_⟩,_⟩:=i.el y r;exact⟨k,u⟩
 have N:ns.Perm l:=by
  refine vYj nd (fun x O=>?_) (by rw[←qWy p];omega);obtain⟨y,r,u⟩:=(i.me x).mp (List.any_eq_true.mpr ⟨x,O,by simp⟩);obtain⟨P,R⟩:=isI u;exact(vJt p).mpr ⟨P,n.mem_iff.mpr (cJ.mpr ⟨y,r,R⟩)⟩
 refine aV (wpAny_newList ?_ (by rw[L];unfold aS;omega));have f:(d.heap.push (seqObj "list" vs.toArray 0)).get? d.heap.objs.size=some (seqObj "list" vs.toArray 0):=aP _ rfl;refine aV (dP (cZ slot_list_sort ⟨_,f,rfl⟩ entry_list_sort (list_sort_tree (s:={d with heap:=d.heap.push (seqObj "list" vs.toArray 0)}) f p (by omega) fun out B S T U=>⟨_,rfl,?_⟩) (args_list_sort _)));refine aW ⟨_,rfl,?_⟩;obtain⟨c,V⟩:=sortedHeap_at (out:=out) f;refine h {d with heap:=sortedHeap (d.heap.push (seqObj "list" vs.toArray 0)) d.heap.objs.size vs out} d.heap.objs.size out B c (fun b o q=>?_) I J K V S (T.trans N) U;have C:=H b o q;have F:=aE C;rw[sortedHeap_old (bQ F) (by rw[bP];exact eM F)];exact aJ _ C
end
end SG
namespace L2
open PySem PySem.Spec PySem.W PyProof.Rows SG
variable{H:Hp}
noncomputable def StX(prog:aA)(w:bW)(a:aX)(l:List Int):HO:=.ext (fun h=>SetG prog w a (fun j=>l.any (· == j)) l.length h)
theorem jQr{prog:aA}{w:bW}{a:aX}{l:List Int}{h:Heap}(p:SetG prog w a (fun j=>l.any (· == j)) l.length h):zW prog w H h a (StX prog w a l):=by
 refine⟨p,?_,fun _ _ q k=>q.at k⟩;obtain⟨o,_,_,_,e,_⟩:=p;exact⟨o,e⟩
theorem Inv.move{X:Cx}{a:List (aX×Obj)}{σ:L2.St}{s b:aY}(I:Inv X a σ H s)(h1:b.heap=s.heap)(h2:b.os=s.os)(c:b.gens=s.gens):Inv X a σ H b:=by
 obtain⟨g1,g2,d,e,f⟩:=b;cases h1;cases h2;cases c;exact⟨I.ok,I.os,I.bare,I.base,I.loc,I.cell,I.free,I.freeC,I.pin,I.hok,I.len⟩
section
variable{X:Cx}
theorem zQ0(i:X.calm=true):zC X (.type "set") (fun xs H Q=>∃(a:aX) (ns:List Int),xs=[.ref a]/\SqL X.K H a (ns.map V.int)/\ns.length<=2000/\∀p,H p=none->Q (.ref p) (upd H p (StX X.prog X.w p (qQ4 ns)))):=by
 intro d s σ H xs us Q I r h;obtain⟨a,ns,rfl,j,few,q⟩:=h;obtain⟨u,rfl,k⟩:=yG r;cases(show u=Value.ref a from k);obtain⟨c,f,pl,_⟩:=I.list j;have l:IntsAre c ns:=qJ8 f;have len:=f.length;rw[aZ]at len;refine zQ1 (I.ok.hd i) pl.isList (ns:=ns) (by simpa using l) (by rw[aN,←len];show ns.length+1<4096;omega) fun h' m g kept=>?_
 have e:c.toArray.size=ns.length:=by rw[aN,←len]
 rw[e]at g;exact⟨.ref _,_,I.laid (t' :=m) (a:=s.heap.objs.size) (o:=StX X.prog X.w s.heap.objs.size (qQ4 ns)) (h' :=h') (fun b o e=>kept b o (aE e) e) (aC _) (jQr g),rfl,q _ (I.hok.fresh (aC _))⟩
theorem vZs(i:X.calm=true):zC X (.builtin "sorted") (fun xs H Q=>∃(a:aX) (l:List Int),xs=[.ref a]/\H a=some (StX X.prog X.w a l)/\l.Nodup/\l.length<64/\
  ∀(D:aX) (ns:List Int),H D=none->ns.Perm l->ns.Pairwise (·<=·)->Q (.ref D) (upd H D (.lst (ns.map V.int)))):=by
 intro b s σ H xs us Q I r h;obtain⟨a,l,rfl,ha,nd,few,q⟩:=h;obtain⟨u,rfl,j⟩:=yG r;cases(show u=Value.ref a from j);obtain⟨g,_,_⟩:=(show zW X.prog X.w H s.heap a (StX X.prog X.w a l) from I.hok a _ ha)
 refine vJ1 nd (I.ok.hd i) g few fun d D out ns c k m n e p t f x=>?_
 have v:=qJi t;have z:=f.length_eq;have y :=I.laid (t' :=d.toks) (a:=D) (o:=.lst (ns.map V.int)) (h' :=d.heap) k e ⟨by rw[aZ];unfold aS;omega,out.toList,c,v,p⟩;exact⟨.ref D,_,y.move rfl n m,rfl,q D ns (I.hok.fresh e) f x⟩
end
end L2
namespace DX
open PySem L2 PyProof.Rows
section
variable{X:Cx}{K:aQ}{c:Nat->aX}{E:XK}{e:Expr}{o:Oe}{p pos p2 pos2:Pos}
theorem zZo{F:Hp}(ns:List Int):DsAt K c F (ns.map V.int) (ns.map D.int):=by
 induction ns with
 |nil=>exact .nil
 |cons n ns ih=>exact .cons (.int n) ih
theorem vwsI{T:Fp}{H:Hp}{us:List V}{xs:List D}{ns:List Int}(b:Vws K c (hide T H) H us xs)(e:qYw xs=some ns):∃p,us=[.ref p]/\SqL K H p (ns.map V.int):=by
 unfold qYw at e;split at e
 ·obtain⟨u,rfl,v⟩:=vws1 b;obtain⟨p,f,rfl,a,d⟩:=v.un qS;rw[qXq d e]at a;exact⟨p,rfl,a⟩
 ·cases e
noncomputable def sortSD(xs:List D):Option (List D):=(qYw xs).bind fun a=>cond (decide (a.length<=2000) && decide ((qQ4 a).length<64)) (some ((eU (qQ4 a)).map D.int)) none
noncomputable def rSet(X:Cx):List V->Hp->VK->Prop:=fun b H Q=>∃(a:aX) (ns:List Int),b=[.ref a]/\SqL X.K H a (ns.map V.int)/\ns.length<=2000/\∀p,H p=none->Q (.ref p) (upd H p (StX X.prog X.w p (qQ4 ns)))
noncomputable def rSoS(X:Cx):List V->Hp->VK->Prop:=fun b H Q=>∃(a:aX) (l:List Int),b=[.ref a]/\H a=some (StX X.prog X.w a l)/\l.Nodup/\l.length<64/\
  ∀(D:aX) (ns:List Int),H D=none->ns.Perm l->ns.Pairwise (·<=·)->Q (.ref D) (upd H D (.lst (ns.map V.int)))
noncomputable def rTwo(a b:List V->Hp->VK->Prop):List V->Hp->VK->Prop:=fun c H Q=>a c H fun x d=>b [x] d Q
theorem jVj{c:String}{x:Str}{r:List V->Hp->VK->Prop}{t:TA}(h2:zC X (.builtin c) r)(f:cR x=some (.builtin c))(g:x≠"__name__")(h:(x == ("__debug__":Str))=false)(i:X.calm=true)(j:Gl X "set")(k:X.mg "set"=none)(a:Gl X x)(b:X.mg x=none)(ha:PA X [e] t)(hs:aK [e] X.env=[(false,eval e X.env)])(h0:aK [] X.env=[])(d:aK [Expr.Call (.Name "set" p) [e] [] pos] X.env=(false,eval (.Call (.Name "set" p) [e] [] pos) X.env)::aK [] X.env):
  PE X (.Call (.Name x p2) [.Call (.Name "set" p) [e] [] pos] [] pos2) (tCB (rTwo (rSet X) r) t):=by
 show PE X _ (tCB r (vZz (tCB (rSet X) t) tNil));exact qZp h2 a b f (yY (qQ9 (zQ0 i) j k Boot.«set» ha (by decide) (by decide) (by rw[hs,h0]) (by rw[h0];rfl)) qJ0 d) g h d (by rw[h0];rfl)
theorem zJb:PrF X.K c (rTwo (rSet X) (rSoS X)) sortSD:=fun s H T t ds Q hb f e q=>by
 obtain⟨d,g,h⟩:=bnd e;obtain⟨i,j⟩:=vS h;cases j;obtain⟨p,rfl,k⟩:=vwsI f g;obtain⟨l,m⟩:=Bool.and_eq_true_iff.mp i;refine⟨p,d,rfl,k,of_decide_eq_true l,fun P n=>⟨P,_,rfl,upd_same,qZ6 d,of_decide_eq_true m,fun D u a o r=>?_⟩⟩;rw[PySem.W.eq_sortI o r];have b :H D=none:=by
  by_cases z:D=P
  ·grind
  ·rw[qT z]at a;exact a
 exact q D _ _ b ((Same.upd n).trans (.upd a)) upd_same (zZo _)
theorem vKc(d:X.calm=true)(f:Gl X "set")(g:X.mg "set"=none)(a:Gl X "sorted")(b:X.mg "sorted"=none)(h1:OD X c E e o)(hs:aK [e] X.env=[(false,eval e X.env)]:=by rfl)(h0:aK [] X.env=[]:=by rfl)(i:aK [Expr.Call (.Name "set" p) [e] [] pos] X.env=(false,eval (.Call (.Name "set" p) [e] [] pos) X.env)::aK [] X.env:=by rfl):
  ED X c E (.Call (.Name "sorted" p2) [.Call (.Name "set" p) [e] [] pos] [] pos2) (eF sortSD [o]):=
 ⟨PE.imp (jVj (vZs d) Boot.«sorted» (by decide) (by decide) d f g a b (vO h1 qH (by rw[hs,h0])).h hs h0 i) fun _ _ _ h=>zVa zJb h⟩
end
end DX
namespace L2
open PySem PySem.Spec PyProof.Rows
theorem qKw(j:Int)(h: -1<=j):Builtin.Range.rangeSize j (-1) (-1)=j+1:=by
 unfold Builtin.Range.rangeSize;grind
theorem jQs(j:Int)(h: -1<=j)(h2:j<2 ^ 40):Builtin.Range.small j (-1) (-1)=true:=by
 unfold Builtin.Range.small;rw[qKw j h];simp only[Builtin.Range.rangeFitsLong,aF,Bool.or_eq_true,decide_eq_true_eq,show¬((-1:Int) > 0) by omega,if_false];omega
section
variable{X:Cx}{tg:Expr}
noncomputable def jJ5(a:TA):TI:=fun σ H R=>a σ H fun b c=>∃j:Int,b=[.int j,.int (-1),.int (-1)]/\ -1<=j/\j<2 ^ 40/\R (Its j (-1) (j+1).toNat) c
theorem vKx{a b c:Expr}{m:TA}{p g:Pos}(v:Gl X "range")(w:X.mg "range"=none)(ha:PA X [a,b,c] m)(hs:aK [a,b,c] X.env=(false,eval a X.env)::aK [b,c] X.env:=by rfl)(k:(cK g (aK [b,c] X.env)).any (·.1)=false:=by rfl):PI X tg (.Call (.Name "range" p) [a,b,c] [] g) (jJ5 m):=by
 intro f s σ H R I h;refine Call_ (qQv I v w boot_range (bH (thn (ha g f s σ H _ I h) fun D i ⟨E,n,x,y,z⟩=>?_) hs k));obtain⟨j,e,u,A,q⟩:=z;subst e;cases y with
 | cons r rr=>
   cases rr with
   | cons r' rr=>
     cases rr with
     | cons r'' rr=>
       cases rr;obtain⟨t,rfl⟩:=r;obtain⟨t',rfl⟩:=r';obtain⟨d,rfl⟩:=r'';refine call_range_3 (by decide) ?_ (Or.inl (PyProof.noPylong_small (by omega)))
       have l:Inv X f σ n {i with heap:=i.heap.push {cls:=.type "range",data:=.fields #[.int j t,.int (-1) t',.int (-1) d]}}:=x.kept (t' :=i.toks) fun b o e=>aJ _ e
       refine wpAny_pyIter_range (IsRange.new ..) (jQs j u A) ?_
       refine⟨(i.heap.push {cls:=.type "range",data:=.fields #[.int j t,.int (-1) t',.int (-1) d]}).objs.size,[(i.heap.push {cls:=.type "range",data:=.fields #[.int j t,.int (-1) t',.int (-1) d]}).objs.size],_,_,n,rfl,
        l.kept (t' :=i.toks) fun b o e=>aJ _ e,qX0 _ j (-1) (j+1).toNat,?_,fun b hb=>?_,q⟩
       ·have B:j + ((0:Nat):Int) * (-1)=j:=by simp
        have C:((((j+1).toNat :Nat):Int) - ((0:Nat):Int))=Builtin.Range.rangeSize j (-1) (-1):=by rw[qKw j u];omega
        rw[B,C];exact aP _ rfl
       ·have e:b=(i.heap.push {cls:= .type "range",data:= .fields #[.int j t, .int (-1) t', .int (-1) d]}).objs.size:=by simpa using hb
        subst e;exact l.fpOk (aC _) (l.hok.fresh (aC _))
end
end L2
namespace DX
open PySem L2 PyProof.Rows
noncomputable def rgR:List D->Option (List D)
 |[.int j,.int (-1),.int (-1)]=>cond (decide (-1<=j) && decide (j<2 ^ 40)) (some ((List.range (j+1).toNat).map fun(i:Nat)=>D.int (j+(i:Int) * (-1)))) none
 |_=>none
section
variable{X:Cx}{K:aQ}{c:Nat->aX}{E:XK}{tg e1 e2 e3:Expr}{ss:List SV}{p pos:Pos}
theorem zZd{F:Hp}{a m:Int}{n:Nat}:ItD K c F (Its a m n) ((List.range n).map fun(i:Nat)=>D.int (a+(i:Int) * m)):=by
 intro i H T p hb;refine⟨fun d b=>?_,fun f=>by rw[aZ,cV]at f;exact Nat.le_of_eq f.symm⟩;rw[bM]at b;obtain⟨j,h,k⟩:=bX.mp b;have l:=aM.mp h;obtain⟨g,e⟩:=l;rw[cV]at g;rw[List.getElem_range]at e;subst e;refine⟨g,fun x q o=>?_⟩;obtain⟨rfl,rfl⟩:=o;refine⟨Same.refl _,?_⟩;rw[←k];exact .int _
theorem zQh(i:Gl X "range")(k:X.mg "range"=none)(ha:VsD X c E [e1,e2,e3] ss)(hs:aK [e1,e2,e3] X.env=(false,eval e1 X.env)::aK [e2,e3] X.env:=by rfl)(e:(cK pos (aK [e2,e3] X.env)).any (·.1)=false:=by rfl):
  ID' X c E tg (.Call (.Name "range" p) [e1,e2,e3] [] pos) (iL rgR ss):=by
 refine⟨PI.imp (vKx i k ha.h hs e) fun σ H R=>?_⟩;rintro⟨env,B,W,l,w⟩;refine qVe l (qY.mp w) fun r m y n o g=>?_
 obtain⟨ds,e1,q⟩:=qB m;have d:=g.at_;unfold rgR at e1;split at e1
 ·rename_i j e2;rw[e2]at d;obtain⟨u,s,rfl,a,d⟩:=d.un;obtain⟨v,w,rfl,b,t⟩:=ds2 d;obtain⟨f,x⟩:=vS e1;cases x;cases a;cases b;cases t;simp only[aF,decide_eq_true_eq]at f;exact⟨j,rfl,f.1,f.2,q _ n o g.st g.cf zZd⟩
 ·cases e1
end
end DX
namespace L2
open PySem PySem.Spec PySem.W PyProof PyProof.Rows
theorem zYq{k:Key}{u:Value}(h:qYu k u=true):RelV (kV k) u:=by
 rcases zJ h with⟨i,t,rfl,rfl⟩|⟨x,t,rfl,rfl⟩
 ·exact⟨t,rfl⟩
 ·exact⟨t,rfl⟩
theorem zQb{P:aA}{w:bW}{es:List DictEntry}{vs:List (Key×Value)}(h:Pairs (zH P w) es vs):∀{kvs:List (Key×V)},KV kvs vs->Vals (kvs.map fun p=>kV p.1) (es.map (·.key)):=by
 induction h with
 |nil=>intro kvs r;cases r;exact .nil
 | cons h1 h2 h3 ih=>
   intro kvs r;cases r with
   | cons a b=>
     refine .cons ?_ (ih b)
     dsimp only;rw[a.1];exact zYq h1
theorem zKj{es:Array DictEntry}{a:Array Value}(hs:a.size=es.size)(h:∀(j:Nat) (v:Value),a[j]?=some v->∃e:DictEntry,es[j]?=some e/\v=e.key):a.toList=es.toList.map (·.key):=by
 refine List.ext_getElem (by simp[hs]) fun i c k=>?_
 have d:i<a.size:=by simpa using c
 obtain⟨e,b,f⟩:=h i a[i] (by simp[d]);have g:i<es.size:=by omega
 rw[cI g]at b;cases b;simpa using f
end L2
namespace L2
open PySem PySem.Spec PyProof PyProof.Rows
section
variable{X:Cx}
noncomputable def keyI:Key->Int
 |.inl i=>i
 |.inr _=>0
end
end L2
namespace DX
open PySem L2 PyProof.Rows
noncomputable def isIn:Key->Bool
 |.inl _=>true
 |.inr _=>false
end DX
namespace SG
open PySem PySem.Spec PySem.W PyProof PyProof.Rows L2
section
variable{prog:aA}{w:bW}{A:cQ}{E:Value->aY->Prop}{s:aY}{T:String}{r d a:aX}{n:Nat}{P:Nat->Value->Prop}{OK:Heap->Prop}
set_option maxHeartbeats 1000000 in
theorem zWt(K:KdlSrc prog w T r d n P OK)(t:A.handled=none)(g:OK s.heap)(u:n<=aS){Q:List Value->aY->Prop}(h:∀s' a,(∀b o,s.heap.get? b=some o->s'.heap.get? b=some o)->s'.gens=s.gens->s'.os=s.os->s.heap.objs.size<=s'.heap.objs.size->ItemsOf P a n->Q a.toList s'):aH (model prog w) A (collect (.ref r)) Q E s:=by
 have i:=K.there _ g
 have l:∀R:Result->aY->Prop,(∀f j a c,(∀b o,s.heap.get? b=some o->f.get? b=some o)->f.get? s.heap.objs.size=some {cls:=.type "list",dict:=none,data:=.seq a c,slots:=#[]}->ItemsOf P a n->R (.ok (.ret (.ref s.heap.objs.size))) {s with heap:=f,toks:=j})->
   codeAny (model prog w) A (.builtin "proto.collect" ⟨[.ref r],[]⟩) R s:=by
  intro R v;refine cS PySem.F.entry_proto_collect ?_
  refine aV (bT ?_);refine aW ⟨eN PySem.F.plain_list_iadd _,cS PySem.F.entry_list_iadd ?_⟩;exact kdl_extend (s:={s with heap:=s.heap.push ls0}) K t (K.keep _ _ g fun b _ o e=>aJ _ e) s.heap.objs.size (dD i.1) (dD i.2) (.ref s.heap.objs.size) 0 (aP _ rfl) (fun f j a c m k p=>v f j a c (fun b o q=>m b o (bQ (aE q)) (aJ _ q)) k p) u
 refine aV (wpAny_runValue (l _ fun f j a c m k p=>?_));refine aV (wpAny_load k ?_);exact aW (h {s with heap:=f,toks:=j} a m rfl rfl (dH (aE k)) p)
set_option maxHeartbeats 2000000 in
theorem vZe{es:Array DictEntry}{ep:Nat}{l:List Int}(g:(a == eZ)=false)(x:A.handled=none)(m:EsAt s.heap a es ep)(i:IntsAre (es.toList.map (·.key)) l)(few:l.length<64){Q:Value->aY->Prop}(h:∀s' D out ns c,(∀b o,s.heap.get? b=some o->s'.heap.get? b=some o)->s'.gens=s.gens->s'.os=s.os->s.heap.objs.size<=D->s'.heap.get? D=some (seqObj "list" out c)->IntsAre out.toList ns->ns.Perm l->ns.Pairwise (·<=·)->Q (.ref D) s'):
  aH (model prog w) A (call (.builtin "sorted") [.ref a]) Q E s:=by
 have k:es.size=l.length:=by rw[←qWy i];simp
 refine Calls.call_function_entry kind_sorted plain_sorted entry_sorted (args_sorted1 _) ?_
 refine aV (m:=checkCount "sorted" 1 1 _) (aW ?_);refine aV (zWt (A:=A.in1) (jZq (prog:=prog) (w:=w) (es:=es) (ep:=ep) g) x m (by rw[k];unfold aS;omega) fun d n y z B C r=>?_);have eq:n.toList=es.toList.map (·.key):=zKj r.1 fun j v e=>r.2 j v e
 rw[eq];have F:(es.toList.map (·.key)).length =l.length:=qWy i;refine aV (wpAny_newList ?_ (by rw[F];unfold aS;omega));have f:(d.heap.push (seqObj "list" (es.toList.map (·.key)).toArray 0)).get? d.heap.objs.size=some (seqObj "list" (es.toList.map (·.key)).toArray 0):=aP _ rfl;refine aV (dP (cZ slot_list_sort ⟨_,f,rfl⟩ entry_list_sort (list_sort_tree (s:={d with heap:=d.heap.push (seqObj "list" (es.toList.map (·.key)).toArray 0)}) f i (by omega) fun out p G H I=>⟨_,rfl,?_⟩) (args_list_sort _)));refine aW ⟨_,rfl,?_⟩;obtain⟨c,J⟩:=sortedHeap_at (out:=out) f;refine h {d with heap:=sortedHeap (d.heap.push (seqObj "list" (es.toList.map (·.key)).toArray 0)) d.heap.objs.size (es.toList.map (·.key)) out} d.heap.objs.size out p c (fun b o q=>?_) z B C J G H I;have t:=y b o q;have u:=aE t;rw[sortedHeap_old (bQ u) (by rw[bP];exact eM u)];exact aJ _ t
end
end SG
namespace L2
open PySem PySem.Spec PySem.W PyProof PyProof.Rows SG
theorem vZt{X:Cx}(j:X.calm=true):zC X (.builtin "sorted") (fun xs H Q=>∃(a:aX) (kvs:List (Key×V)) (l:List Int),xs=[.ref a]/\Rd H a (.dK kvs)/\kvs.map (fun p=>kV p.1)=l.map V.int/\l.length<64/\
  ∀(D:aX) (ns:List Int),H D=none->ns.Perm l->ns.Pairwise (·<=·)->Q (.ref D) (upd H D (.lst (ns.map V.int)))):=by
 intro e s σ H xs us Q I r h;obtain⟨a,kvs,l,rfl,ha,k,few,q⟩:=h;obtain⟨u,rfl,m⟩:=yG r;cases(show u=Value.ref a from m);obtain⟨z,b,J,d,o,K,L,n,t,w,M,x,N⟩:=qWk I.hok ha;have v:=zQb x d;rw[k]at v;refine vZe b (I.ok.hd j) ⟨o,n,t,w⟩ (qJ8 v) few fun f D out ns c y A B g C E i F=>?_
 have v:=qJi E;have O:=i.length_eq;have G :=I.laid (t' :=f.toks) (a:=D) (o:=.lst (ns.map V.int)) (h' :=f.heap) y g ⟨by rw[aZ];unfold aS;omega,out.toList,c,v,C⟩;exact⟨.ref D,_,G.move rfl B A,rfl,q D ns (I.hok.fresh g) i F⟩
end L2
namespace DX
open PySem L2 PyProof.Rows
variable{f:D->D->Option Bool}
section
variable{X:Cx}{K:aQ}{c:Nat->aX}{E:XK}{e:Expr}{o:Oe}{p pos:Pos}
noncomputable def sortKD:List D->Option (List D)
 |[.nd (.dct ks) _]=>cond (ks.all isIn && decide (ks.length<64)) (some ((eU (ks.map keyI)).map D.int)) none
 |_=>none
theorem zJc:PrF K c (fun xs H Q=>∃(a:aX) (kvs:List (Key×V)) (l:List Int),xs=[.ref a]/\Rd H a (.dK kvs)/\kvs.map (fun p=>kV p.1)=l.map V.int/\l.length<64/\
  ∀(D:aX) (ns:List Int),H D=none->ns.Perm l->ns.Pairwise (·<=·)->Q (.ref D) (upd H D (.lst (ns.map V.int)))) sortKD:=fun r H T xs ds Q hb f e q=>by
 unfold sortKD at e;split at e
 ·rename_i g ds;obtain⟨b,h⟩:=vS e;cases h;rw[aF]at b;obtain⟨u,rfl,v⟩:=vws1 f;obtain⟨p,s,rfl,⟨t,w,j⟩,y⟩:=v.un qS;refine⟨p,_,g.map keyI,rfl,j,?_,by rw[aZ];exact of_decide_eq_true b.2,fun l z d m n=>?_⟩
  ·rw [show(fun p:Key×V=>kV p.1)=kV ∘ Prod.fst from rfl,←bL,List.map_fst_zip (by omega),bL];refine List.map_congr_left fun k o=>?_
   have:=List.all_eq_true.mp b.1 k o;cases k with
   |inl i=>rfl
   |inr x=>cases this
  ·rw [PySem.W.eq_sortI m n];exact q l _ _ d (.upd d) upd_same (zZo _)
 ·cases e
theorem zQq(b:Gl X "sorted")(d:X.mg "sorted"=none)(ha:OD X c E e o)(f:X.calm=true:=by rfl)(a:aK [e] X.env=[(false,eval e X.env)]:=by rfl)(h0:aK [] X.env=[]:=by rfl):ED X c E (.Call (.Name "sorted" p) [e] [] pos) (eF sortKD [o]):=
 zWi (vZt f) zJc b d Boot.«sorted» (vO ha qH (by rw[a,h0])) (by decide) (by decide) (by rw[a,h0]) (by rw[h0];rfl)
end
noncomputable def eqFB:D->D->Option Bool
 |.int i,.int j=>some (i == j)
 |.str i,.str j=>some (decide (i=j))
 |.bl i,.bl j=>some (i == j)
 |_,_=>none
noncomputable def eqF(x y:D):Option D:=(eqFB x y).map .bl
noncomputable def neF(x y:D):Option D:=(eqFB x y).map fun b=>.bl (!b)
section
variable{X:Cx}{K:aQ}{c:Nat->aX}{E:XK}{a b:Expr}{oa ob:Oe}{pos:Pos}
theorem vV7{u w:V}{H:Hp}{x y:D}{z:Bool}(a:DAt K c H u x)(b:DAt K c H w y)(e:eqFB x y=some z):scal u w=true/\decide (u=w)=z:=by
 unfold eqFB at e;split at e
 ·cases e;cases a;cases b;exact⟨rfl,vV8⟩
 ·cases e;cases a;cases b;exact⟨rfl,decide_eq_decide.mpr ⟨fun h=>by cases h;rfl,fun h=>by rw[h]⟩⟩
 ·cases e;cases a;cases b;exact⟨rfl,vWr⟩
 ·cases e
theorem zV3:PrS2 K c rEq eqF:=fun u w H x y z Q a d e q=>by
 obtain⟨b,f,rfl⟩:=bX.mp e;obtain⟨g,h⟩:=vV7 a d f;exact⟨g,by rw[h];exact q _ fun _=>.bl _⟩
theorem zV1:PrS2 K c rNe neF:=fun u w H x y z Q a d e q=>by
 obtain⟨b,f,rfl⟩:=bX.mp e;obtain⟨g,h⟩:=vV7 a d f;exact⟨g,by rw[h];exact q _ fun _=>.bl _⟩
theorem zK0(ha:OD X c E a oa)(hb:OD X c E b ob):OD X c E (.Compare a [.Eq] [b] pos) (o2 eqF oa ob):=qW7 zKy zV3 ha hb (xS _)
theorem jJs(ha:OD X c E a oa)(hb:OD X c E b ob):OD X c E (.Compare a [.NotEq] [b] pos) (o2 neF oa ob):=qW7 zKv zV1 ha hb (xS _)
theorem vK(ha:OD X c E a oa)(hb:OD X c E b ob):TD X c E (.Compare a [.Eq] [b] pos) (asB (o2 eqF oa ob)):=qZf zKy zV3 ha hb (xS _)
theorem vQn(ha:OD X c E a oa)(hb:OD X c E b ob):TD X c E (.Compare a [.NotEq] [b] pos) (asB (o2 neF oa ob)):=qZf zKv zV1 ha hb (xS _)
end
noncomputable def all2(f:D->D->Option Bool):List D->List D->Option Bool
 |[],[]=>some true
 |d::ds,e::es=>(f d e).bind fun a=>(all2 f ds es).bind fun b=>some (a && b)
 |_,_=>some false
noncomputable def deq:Nat->D->D->Option Bool
 | 0,x,y=>eqFB x y
 | n + 1,x,y=>match x,y with
   |.nd .lst ds,.nd .lst es=>all2 (deq n) ds es
   |.nd .tup ds,.nd .tup es=>all2 (deq n) ds es
   |x,y=>eqFB x y
noncomputable def eqQ(x y:D):Option D:=(deq 30 x y).map .bl
noncomputable def neQ(x y:D):Option D:=(deq 30 x y).map fun b=>.bl (!b)
theorem vZc:∀{ds es:List D} {b:Bool},all2 f ds es=some b->∃g:Nat->Bool,(∀(j:Nat) (d e:D),ds[j]?=some d->es[j]?=some e->f d e=some (g j))/\((List.range (min ds.length es.length)).all g && ds.length == es.length)=b
 |[],[],b,h=>⟨fun _=>true,fun j d e q=>(by cases q),by cases h;rfl⟩
 |[],e::es,b,h=>⟨fun _=>true,fun j d e q=>(by cases q),by cases h;rfl⟩
 |d::ds,[],b,h=>⟨fun _=>true,fun j d e _ q=>(by cases q),by cases h;rfl⟩
 | d::ds,e::es,b,h=>by
   obtain⟨a,c,h⟩:=cU.mp h;obtain⟨b,i,h⟩:=cU.mp h;obtain⟨g,k,rfl⟩:=vZc i;cases h;refine⟨fun j=>Nat.rec a (fun j _=>g j) j,fun j x y p q=>?_,?_⟩
   ·cases j with
    |zero=>cases p;cases q;exact c
    |succ j=>exact k j x y p q
   ·rw [aU,aU,show min (ds.length + 1) (es.length + 1)=min ds.length es.length + 1 by omega,List.range_succ_eq_map,eB,List.all_map,Bool.and_assoc];congr 2;rw[Bool.eq_iff_iff];simp
section
variable{X:Cx}{c:Nat->aX}{pins:List (aX×Obj)}{σ:L2.St}{H:Hp}{s:aY}{A:cQ}
theorem zWo(I:Inv X pins σ H s):∀(n:Nat) {v:V} {d e:D} {b:Bool},DAt X.K c H v d->DAt X.K c H v e->deq n d e=some b->b=true:=by
 have z:∀{v:V} {d e:D} {b:Bool},DAt X.K c H v d->DAt X.K c H v e->eqFB d e=some b->b=true:=fun f l h=>by
  obtain⟨_,a⟩:=vV7 f l h;rw[←a];exact decide_eq_true rfl
 intro n;induction n with
 |zero=>exact z
 | succ n ih=>
   intro v d e b f l h;have A:∀{k:Kd} {ds m:List D} {t u:List V},t=u->DsAt X.K c H t ds->DsAt X.K c H u m->all2 (deq n) ds m=some b->b=true:=fun {_ ds m _ _} q a i h=>by
    subst q;obtain⟨g,C,rfl⟩:=vZc h;have E:=a.len;have F:=i.len;rw[aF,List.all_eq_true];refine⟨fun j B=>?_,by simp;omega⟩;have B:=dL.mp B;have g1:ds[j]?=some ds[j]:=aD (by omega);have g2:m[j]?=some m[j]:=aD (by omega);obtain⟨x,o,f⟩:=a.get g1;exact ih f (i.r j x _ o g2) (C j _ _ g1 g2)
   unfold deq at h;split at h
   ·obtain⟨p,t,rfl,w,a⟩:=f.un;obtain⟨q,u,o,y,i⟩:=l.un;cases o;exact A (k:=.lst) (I.list_inj w y) a i h
   ·obtain⟨p,t,rfl,w,a⟩:=f.un;obtain⟨q,u,o,y,i⟩:=l.un;cases o;exact A (k:=.tup) (I.tuple_inj w y) a i h
   ·exact z f l h
theorem vYq{vs i:List V}{ds es:List D}{its a:List Value}{b:Bool}(h:DsAt X.K c H vs ds)(k:DsAt X.K c H i es)(l:Vals vs its)(m:Vals i a)(e:all2 f ds es=some b)(n:∀(d e:D) (x y:V) (u v:Value) (b:Bool),DAt X.K c H x d->DAt X.K c H y e->RelV x u->RelV y v->f d e=some b->fX A.in1 s u v b):
  ∃g:Nat->Bool,(∀(j:Nat) (h1:j<its.toArray.size) (h2:j<a.toArray.size),fX A.in1 s its.toArray[j] a.toArray[j] (g j))/\((List.range (min its.toArray.size a.toArray.size)).all g && its.toArray.size == a.toArray.size)=b:=by
 obtain⟨g,o,rfl⟩:=vZc e;have p:=l.length;have q:=m.length;have r:=h.len;have t:=k.len;refine⟨g,fun j h1 h2=>?_,by rw[aN,aN,←p,←q,r,t]⟩;rw[aN]at h1 h2;have g1:ds[j]?=some ds[j]:=aD (by omega);have g2:es[j]?=some es[j]:=aD (by omega);obtain⟨x,w,z⟩:=h.get g1;obtain⟨y,B,C⟩:=k.get g2;obtain⟨u,E,F⟩:=l.get w;obtain⟨v,G,I⟩:=m.get B;have f1:its.toArray[j]=u:=by simpa using (aM.mp E).2
 have J:a.toArray[j]=v:=by simpa using (aM.mp G).2
 rw[f1,J];exact n _ _ x y u v _ z C F I (o j _ _ g1 g2)
noncomputable def Bo(A:cQ)(s:aY)(u v:Value)(b:Bool):Prop:=SeqAt.RcAt A s u v b/\SeqAt.RcNeAt A s u v (!b)
theorem zKs(I:Inv X pins σ H s):∀(n:Nat) (A:cQ) (d e:D) (x y:V) (u v:Value) (b:Bool),A.units+n<eA->DAt X.K c H x d->DAt X.K c H y e->RelV x u->RelV y v->deq n d e=some b->Bo A s u v b/\fX A s u v b:=by
 have N:∀(A:cQ) (d e:D) (x y:V) (u v:Value) (b:Bool),DAt X.K c H x d->DAt X.K c H y e->RelV x u->RelV y v->eqFB d e=some b->Bo A s u v b/\fX A s u v b:=fun A d e x y u v b i j l m h=>by
  unfold eqFB at h;split at h
  ·cases i;cases j;cases h;obtain⟨t,rfl⟩:=l;obtain⟨P,rfl⟩:=m;exact⟨⟨SeqAt.RcAt.int_int _ _ _ _,SeqAt.RcNeAt.int_int _ _ _ _⟩,SeqAt.EqAt.int_int _ _ _ _⟩
  ·cases i;cases j;cases h;obtain⟨t,rfl⟩:=l;obtain⟨P,rfl⟩:=m;exact⟨⟨SeqAt.RcAt.str_str _ _ _ _,SeqAt.RcNeAt.str_str _ _ _ _⟩,SeqAt.EqAt.str_str _ _ _ _⟩
  ·cases i;cases j;cases h;cases l;cases m;exact⟨⟨SeqAt.RcAt.bool_bool _ _,SeqAt.RcNeAt.bool_bool _ _⟩,SeqAt.EqAt.bool_bool _ _⟩
  ·cases h
 intro n;induction n with
 |zero=>intro A d e x y u v b _;exact N A d e x y u v b
 | succ n ih=>
   intro A d e x y u v b hu i j l m h;have f :A.units<eA:=by omega
   have O:∀(d e:D) (x y:V) (u v:Value) (b:Bool),DAt X.K c H x d->DAt X.K c H y e->RelV x u->RelV y v->deq n d e=some b->fX A.in1 s u v b:=fun d e x y u v b Q R S T U=>(ih A.in1 d e x y u v b (by show A.units+1+n<eA;omega) Q R S T U).2
   have w:∀{p q:aX},x=.ref p->y=.ref q->u=.ref p->v=.ref q->Bo A s (.ref p) (.ref q) b->Bo A s u v b/\fX A s u v b:=fun {p q} W Y Z e4 C=>by
    subst W Y Z e4;by_cases z:p=q
    ·subst z;rw[zWo I (n+1) i j h]at C⊢;exact⟨C,SeqAt.EqAt.same _⟩
    ·exact⟨C,SeqAt.EqAt.of_refs z C.1⟩
   have h0:=h;unfold deq at h;split at h
   ·obtain⟨p,vs,rfl,E,F⟩:=i.un;obtain⟨q,ws,rfl,G,J⟩:=j.un;cases l;cases m;obtain⟨B,L,o,_⟩:=I.list E;obtain⟨k,M,r,_⟩:=I.list G;obtain⟨g,g1,g2⟩:=vYq F J L M h O;refine w rfl rfl rfl rfl ?_
    by_cases a:B.toArray.size=k.toArray.size
    ·rw [a,Nat.min_self,beq_self_eq_true,Bool.and_true,←a] at g2;subst g2;exact⟨SeqAt.RcAt.lists o.isList r.isList a f g1,SeqAt.RcNeAt.lists o.isList r.isList a f g1⟩
    ·rw [beq_eq_false_iff_ne.mpr a,Bool.and_false] at g2;subst g2;exact⟨SeqAt.RcAt.lists_lengths o.isList r.isList (by simpa using a) f,SeqAt.RcNeAt.lists_lengths o.isList r.isList (by simpa using a) f⟩
   ·obtain⟨p,vs,rfl,E,F⟩:=i.un;obtain⟨q,ws,rfl,G,J⟩:=j.un;cases l;cases m;obtain⟨B,L,o,_⟩:=I.tuple E;obtain⟨k,M,r,_⟩:=I.tuple G;obtain⟨g,g1,rfl⟩:=vYq F J L M h O;exact w rfl rfl rfl rfl ⟨SeqAt.RcAt.tuples o r f g1,SeqAt.RcNeAt.tuples o r f g1⟩
   ·exact N A _ _ x y u v b i j l m h
end
noncomputable def rEqQ(K:aQ)(c:Nat->aX)(t:Bool->Bool):R2:=fun u w H Q=>∃x y b,DAt K c H u x/\DAt K c H w y/\deq 30 x y=some b/\Q (.bl (t b)) H
section
variable{X:Cx}{c:Nat->aX}{E:XK}{a b:Expr}{oa ob:Oe}{pos:Pos}{k:Nat}
theorem zV4(k:X.A.units+64<eA):OpR X (dX .Eq) (rEqQ X.K c id):=fun a s σ H x y u v Q I f g ⟨d,e,b,h,i,j,q⟩=>(zKs I 30 X.A d e x y u v b (by omega) h i f g j).1.1 _ _ _ _ (vE I q rfl)
theorem jVv(k:X.A.units+64<eA):OpR X (dX .NotEq) (rEqQ X.K c not):=fun a s σ H x y u v Q I f g ⟨d,e,b,h,i,j,q⟩=>(zKs I 30 X.A d e x y u v b (by omega) h i f g j).1.2 _ _ _ _ (vE I q rfl)
theorem vWj{K:aQ}(t:Bool->Bool):PrS2 K c (rEqQ K c t) fun x y=>(deq 30 x y).map fun b=>.bl (t b):=fun u w H x y z Q a d e q=>by
 obtain⟨b,f,rfl⟩:=bX.mp e;exact⟨x,y,b,a,d,f,q _ fun _=>.bl _⟩
theorem zKz(d:Room k X.A)(ha:OD X c E a oa)(hb:OD X c E b ob):OD X c E (.Compare a [.Eq] [b] pos) (o2 eqQ oa ob):=qW7 (zV4 d.units) (vWj id) ha hb (xS _)
theorem jZ1(d:Room k X.A)(ha:OD X c E a oa)(hb:OD X c E b ob):TD X c E (.Compare a [.Eq] [b] pos) (asB (o2 eqQ oa ob)):=qZf (zV4 d.units) (vWj id) ha hb (xS _)
theorem zKm(d:Room k X.A)(ha:OD X c E a oa)(hb:OD X c E b ob):TD X c E (.Compare a [.NotEq] [b] pos) (asB (o2 neQ oa ob)):=qZf (jVv d.units) (vWj not) ha hb (xS _)
end
end DX
namespace FP
open PySem L2 DX PyProof.Rows
noncomputable def xV:Fn:=fnS 4 0 (sSeq (qQ3 [1] "steps" (pOf (oN 0)) (eF listD [(oN 1)]))
  (sSeq (qQ3 [1] "draws" (pOf (oN 0)) (compS 1 [] [0] (iV (oV (oN 2))) (gN 0) bTrue (fzS (eF listD [(oN 0)]))))
  (qQ3 [1] "slots" (pOf (oN 0)) (owS (oV (oN 3))))))
noncomputable def qO:Fn:=fnS 1 1 (sSeq (sSet 1 (owS (oV (oIx (oN 0) (oC (.int 0))))))
  (sSeq (sIf (asB (o2 eqF (oN 1) (oC (.str "if")))) (sRet (eLst [(oV (oIx (oN 0) (oC (.int 1)))),(oV (oIx (oN 0) (oC (.int 2)))),(oV (oIx (oN 0) (oC (.int 3))))])) sNil)
  (sSeq (sIf (asB (o2 inD (oN 1) (.v (svTup [(oV (oC (.str "op"))),(oV (oC (.str "bind")))])))) (sRet (eLst [(oV (oIx (oN 0) (oC (.int 2)))),(oV (oIx (oN 0) (oC (.int 3))))])) sNil)
  (sSeq (sIf (asB (o2 inD (oN 1) (.v (svTup [(oV (oC (.str "rest"))),(oV (oC (.str "field")))])))) (sRet (eLst [(oV (oIx (oN 0) (oC (.int 1))))])) sNil)
  (sSeq (sIf (asB (o2 eqF (oN 1) (oC (.str "record")))) (sRet (compS 2 [] [0,1] (iV (oV (oIx (oN 0) (oC (.int 1))))) (gT 2 (gCn (gN 0) (gCn (gN 1) gNl))) bTrue (oV (oN 1)))) sNil)
  (sSeq (sIf (asB (o2 eqF (oN 1) (oC (.str "call")))) (sRet (eF listD [(oIx (oN 0) (oC (.int 2)))])) sNil)
  (sRet (eLst []))))))))
noncomputable def jL(a:Fn):SS:=(zV (qM a [(.v (oV (oN 0))),(.v (oV (oN 5))),(.v (oV (oN 2))),(.v (oV (oN 3)))]))
noncomputable def vI:Nat->Fn
 | 0=>fun _=>.no
 | h + 1=>fnS 4 2 (sSeq (sSet 4 (owS (oV (oIx (oN 1) (oC (.int 0))))))
   (sSeq (sIf (bAnd (asB (o2 eqF (oN 4) (oC (.str "name")))) (asB (o2 niD (oIx (oN 1) (oC (.int 1))) (oN 2)))) sNo sNil)
   (sSeq (sIf (bAnd (asB (o2 eqF (oN 4) (oC (.str "call")))) (asB (o2 neF (.v (vVj (pOf (oN 3)) (pOf (oIx (oN 1) (oC (.int 1)))))) (oL lenD [(oIx (oN 1) (oC (.int 2)))])))) sNo sNil)
   (sFor (iV (fzS (qM qO [(.v (oV (oN 1)))]))) (gN 5) (jL (vI h))))))
noncomputable def yV:SS:=(sSeq (sSet 5 (owS (oV (oIx (oN 4) (oC (.int 0))))))
  (sIf (asB (o2 eqF (oN 5) (oC (.str "def")))) (sSeq (sIf (asB (o2 inD (oIx (oN 4) (oC (.int 1))) (oN 2))) sNo sNil)
  (sSeq (zV (qM (vI 30) [(.v (oV (oN 3))),(.v (oV (oIx (oN 4) (oC (.int 3))))),(.v (oV (oIx (oN 4) (oC (.int 2))))),(.b (pOf (oN 2)))]))
  (sPutA (pOf (oN 2)) (pOf (oIx (oN 4) (oC (.int 1)))) (owS (oV (oL lenD [(oIx (oN 4) (oC (.int 2)))])))))) (sSeq (sIf (bAnd (asB (o2 eqF (oN 5) (oC (.str "again")))) (asB (o2 niD (oIx (oN 4) (oC (.int 2))) (oN 1)))) sNo sNil)
  (sSeq (zV (qM (vI 30) [(.v (oV (oN 3))),(.v (oV (oIx (oN 4) (o1 negD (oC (.int 1)))))),(.b (pOf (oN 1))),(.b (pOf (oN 2)))]))
  (sIf (asB (o2 eqF (oN 5) (oC (.str "let")))) (sPutA (pOf (oN 1)) (pOf (oIx (oN 4) (oC (.int 1)))) (owS (oV (oC (.bl true))))) sNil)))))
noncomputable def xG:Fn:=fnS 1 5 (sSeq (sSet 1 eDct0)
  (sSeq (sSet 2 eDct0)
  (sFor (iL enL [(oV (oN 0))]) (gT 2 (gCn (gN 3) (gCn (gN 4) gNl))) yV)))
noncomputable def yD:Fn:=fnS 1 0 (sIf (asB (oGt (oL lenD [(.v (fzS (compS 1 [] [0] (iV (oV (oN 0))) (gN 0) (asB (o2 eqF (oIx (oN 0) (oC (.int 0))) (oC (.str "def")))) (oV (oN 0)))))]) (oC (.int 3)))) sNo sNil)
noncomputable def qJn:Fn:=fnS 1 0 (sSeq (sIf (asB (o2 eqF (oIx (oN 0) (oC (.int 0))) (oC (.str "flip")))) (sRet (eLst [(svTup [(oV (oC (.int 0))),(oV (oSub (oIx (oN 0) (oC (.int 2))) (oIx (oN 0) (oC (.int 1)))))]),(svTup [(oV (oC (.int 1))),(oV (oIx (oN 0) (oC (.int 1))))])])) sNil)
  (sRet (eF listD [(oIx (oN 0) (oC (.int 1)))])))
noncomputable def v5:Fn:=fnS 2 1 (sSeq (sSet 2 (owS (oV (oIx (oN 0) (oC (.int 0))))))
  (sSeq (sIf (asB (o2 eqF (oN 2) (oC (.str "if")))) (sRet (owS (svTup [(oV (oC (.str "if"))),(oV (oIx (oN 1) (oC (.int 0)))),(oV (oIx (oN 1) (oC (.int 1)))),(oV (oIx (oN 1) (oC (.int 2))))]))) sNil)
  (sSeq (sIf (asB (o2 eqF (oN 2) (oC (.str "op")))) (sRet (owS (svTup [(oV (oC (.str "op"))),(oV (oIx (oN 0) (oC (.int 1)))),(oV (oIx (oN 1) (oC (.int 0)))),(oV (oIx (oN 1) (oC (.int 1))))]))) sNil)
  (sSeq (sIf (asB (o2 eqF (oN 2) (oC (.str "record")))) (sRet (owS (svTup [(oV (oC (.str "record"))),(svA tupleD [(.v (fzS (compS 2 [] [0,1] (iL zpA [(oV (oIx (oN 0) (oC (.int 1)))),(oV (oN 1))]) (gT 2 (gCn (gN 0) (gCn (gN 1) gNl))) bTrue (svTup [(oV (oIx (oN 0) (oC (.int 0)))),(oV (oN 1))]))))])]))) sNil)
  (sRet (owS (svTup [(oV (oN 2)),(oV (oIx (oN 1) (oC (.int 0)))),(oV (oIx (oN 0) (oC (.int 2))))])))))))
noncomputable def qQe:Fn:=fnS 1 0 (sSeq (qQ3 [2] "helpers" (pOf (oN 0)) eDct0)
  (sSeq (qQ3 [2] "names" (pOf (oN 0)) eDct0)
  (sSeq (qQ3 [2] "steps" (pOf (oN 0)) (eLst []))
  (sSeq (qQ3 [2] "draws" (pOf (oN 0)) (eLst []))
  (sSeq (qQ3 [2] "slots" (pOf (oN 0)) (owS (oV (oC (.int 0)))))
  (qQ3 [2] "terms" (pOf (oN 0)) (owS (oV (oC (.int 0))))))))))
noncomputable def zM:Fn:=fnS 1 0 (sSeq (vZ1 [2] "terms" (i2 fun i j=>i+j) (pOf (oN 0)) (oV (oC (.int 1))))
  (sIf (asB (oGt (oFld [2] "terms" (oN 0)) (oC (.int 600)))) sNo sNil))
noncomputable def vL:Fn:=fnS 1 0 (sSeq (vZ1 [2] "slots" (i2 fun i j=>i+j) (pOf (oN 0)) (oV (oC (.int 1))))
  (sRet (owS (oV (oSub (oFld [2] "slots" (oN 0)) (oC (.int 1)))))))
noncomputable def xK:Fn:=fnS 2 0 (sSeq (zV (eMu1 (pOf (oFld [2] "draws" (oN 0))) (owS (oV (oN 1))) apF))
  (sSeq (sIf (asB (oGt (oL lenD [(oFld [2] "draws" (oN 0))]) (oC (.int 60)))) sNo sNil)
  (sRet (owS (oV (oSub (oL lenD [(oFld [2] "draws" (oN 0))]) (oC (.int 1))))))))
noncomputable def zE(a:Fn):SS:=(sSeq (zV (j8 2 "count_term" zM (.io 0) []))
  (sSeq (sSet 8 (j8 2 "open_term" a (.io 0) [(.v (oV (oN 7))),(.v (oV (oN 2)))]))
  (sSeq (sPutA (pOf (oN 4)) (pOf (oN 6)) (j8 2 "new_slot" vL (.io 0) []))
  (zV (eMu1 (pOf (oN 5)) (owS (svTup [(oV (oIx (oN 4) (oN 6))),(oV (oN 8))])) apF)))))
noncomputable def xO(a:Fn):SS:=(sSet 9 (owS (svTup [(oV (oC (.str "bind"))),(oV (oN 10)),(oV (oN 8)),(oV (oN 9))])))
noncomputable def wC(a:Fn):Fn:=fnS 3 8 (sSeq (sSet 3 (owS (oV (oIx (oFld [2] "helpers" (oN 0)) (oIx (oN 1) (oC (.int 1)))))))
  (sSeq (sSet 4 eDct0)
  (sSeq (sSet 5 (eLst []))
  (sSeq (sFor (iL zpA [(oV (oIx (oN 3) (oC (.int 2)))),(oV (oIx (oN 1) (oC (.int 2))))]) (gT 2 (gCn (gN 6) (gCn (gN 7) gNl))) (zE a))
  (sSeq (sSet 9 (j8 2 "open_term" a (.io 0) [(.v (oV (oIx (oN 3) (oC (.int 3))))),(.v (oV (oN 4)))]))
  (sSeq (sFor (iL rvL [(oV (oN 5))]) (gT 2 (gCn (gN 10) (gCn (gN 8) gNl))) (xO a))
  (sRet (eMv 9))))))))
noncomputable def jM(a:Fn):SS:=(zV (eMu1 (pOf (oN 4)) (j8 2 "open_term" a (.io 0) [(.v (oV (oN 5))),(.v (oV (oN 2)))]) apF))
noncomputable def F_Opener_open_term:Nat->Fn
 | 0=>fun _=>.no
 | h + 1=>fnS 3 3 (sSeq (sSet 3 (owS (oV (oIx (oN 1) (oC (.int 0))))))
   (sSeq (sIf (asB (o2 eqF (oN 3) (oC (.str "call")))) (sRet (j8 2 "open_call" (wC (F_Opener_open_term h)) (.io 0) [(.v (oV (oN 1))),(.v (oV (oN 2)))])) sNil)
   (sSeq (zV (j8 2 "count_term" zM (.io 0) []))
   (sSeq (sIf (asB (o2 eqF (oN 3) (oC (.str "num")))) (sRet (eMv 1)) sNil)
   (sSeq (sIf (asB (o2 eqF (oN 3) (oC (.str "name")))) (sRet (owS (svTup [(oV (oC (.str "slot"))),(oV (oIx (oN 2) (oIx (oN 1) (oC (.int 1)))))]))) sNil)
   (sSeq (sIf (asB (o2 inD (oN 3) (.v (svTup [(oV (oC (.str "flip"))),(oV (oC (.str "pick")))])))) (sRet (owS (svTup [(oV (oC (.str "draw"))),(fzS (j8 2 "new_draw" xK (.io 0) [(.v (fzS (qM qJn [(.v (oV (oN 1)))])))]))]))) sNil)
   (sSeq (sSet 4 (eLst []))
   (sSeq (sFor (iV (fzS (qM qO [(.v (oV (oN 1)))]))) (gN 5) (jM (F_Opener_open_term h)))
   (sRet (qM v5 [(.v (oV (oN 1))),(.b (pOf (oN 4)))]))))))))))
noncomputable def jD:Fn:=fnS 3 1 (sSeq (sSet 3 (qXy 2 "open_term" (F_Opener_open_term 30) (.io 0) [(.v (oV (oN 2))),(.b (pOf (oFld [2] "names" (oN 0))))]))
  (sSeq (sPutA (pOf (oFld [2] "names" (oN 0))) (pOf (oN 1)) (j8 2 "new_slot" vL (.io 0) []))
  (zV (eMu1 (pOf (oFld [2] "steps" (oN 0))) (owS (svTup [(oV (oIx (oFld [2] "names" (oN 0)) (oN 1))),(oV (oN 3))])) apF))))
noncomputable def yX:SS:=(zV (j8 2 "open_let" jD (.io 0) [(.v (oV (oIx (oN 1) (oC (.int 2))))),(.v (oV (oIx (oN 1) (oC (.int 3)))))]))
noncomputable def jC:Fn:=fnS 2 3 (sSeq (sSet 2 (owS (oV (oIx (oN 1) (oC (.int 0))))))
  (sIf (asB (o2 eqF (oN 2) (oC (.str "def")))) (sPutA (pOf (oFld [2] "helpers" (oN 0))) (pOf (oIx (oN 1) (oC (.int 1)))) (owS (oV (oN 1)))) (sIf (asB (o2 eqF (oN 2) (oC (.str "let")))) (zV (j8 2 "open_let" jD (.io 0) [(.v (oV (oIx (oN 1) (oC (.int 1))))),(.v (oV (oIx (oN 1) (oC (.int 2)))))])) (sIf (asB (o2 eqF (oN 2) (oC (.str "again")))) (sFor (iL rg1 [(oV (oIx (oN 1) (oC (.int 1))))]) (gN 3) yX) (sIf (asB (o2 eqF (oN 2) (oC (.str "see")))) (zV (eMu1 (pOf (oFld [2] "steps" (oN 0))) (owS (svTup [(oV (o1 negD (oC (.int 1)))),(fzS (qXy 2 "open_term" (F_Opener_open_term 30) (.io 0) [(.v (oV (oIx (oN 1) (oC (.int 1))))),(.b (pOf (oFld [2] "names" (oN 0))))]))])) apF)) (sSeq (sSet 4 (qXy 2 "open_term" (F_Opener_open_term 30) (.io 0) [(.v (oV (oIx (oN 1) (oC (.int 1))))),(.b (pOf (oFld [2] "names" (oN 0))))]))
  (zV (eMu1 (pOf (oFld [2] "steps" (oN 0))) (owS (svTup [(fzS (j8 2 "new_slot" vL (.io 0) [])),(oV (oN 4))])) apF))))))))
noncomputable def qK6:SS:=(zV (j8 2 "open_row" jC (.io 1) [(.v (oV (oN 2)))]))
noncomputable def qZx:Fn:=fnS 1 2 (sSeq (zV (qM xG [(.v (oV (oN 0)))]))
  (sSeq (zV (qM yD [(.v (oV (oN 0)))]))
  (sSeq (sSet 1 (qWg 2 qQe []))
  (sSeq (sFor (iV (oV (oN 0))) (gN 2) qK6)
  (sRet (qWg 1 xV [(.v (oV (oFld [2] "steps" (oN 1)))),(.v (oV (oFld [2] "draws" (oN 1)))),(.v (oV (oFld [2] "slots" (oN 1))))]))))))
noncomputable def qQf(a:Fn):SS:=(zV (eMu1 (pOf (oN 2)) (qM a [(.v (oV (oN 3)))]) exF))
noncomputable def F_slots_read:Nat->Fn
 | 0=>fun _=>.no
 | h + 1=>fnS 1 3 (sSeq (sSet 1 (owS (oV (oIx (oN 0) (oC (.int 0))))))
   (sSeq (sIf (asB (o2 eqF (oN 1) (oC (.str "slot")))) (sRet (eLst [(oV (oIx (oN 0) (oC (.int 1))))])) sNil)
   (sSeq (sIf (asB (o2 eqF (oN 1) (oC (.str "bind")))) (sRet (eCat (.v (fzS (qM (F_slots_read h) [(.v (oV (oIx (oN 0) (oC (.int 2)))))]))) (.v (fzS (compS 2 [(1,0)] [0] (iV (fzS (qM (F_slots_read h) [(.v (oV (oIx (oN 0) (oC (.int 3)))))]))) (gN 0) (asB (o2 neF (oN 0) (oIx (oN 1) (oC (.int 1))))) (oV (oN 0))))))) sNil)
   (sSeq (sSet 2 (eLst []))
   (sSeq (sFor (iV (fzS (qM qO [(.v (oV (oN 0)))]))) (gN 3) (qQf (F_slots_read h)))
   (sRet (eMv 2)))))))
noncomputable def qXs:SS:=(sSeq (zV (eMu1 (pOf (oN 2)) (eF sortSD [(.v (fzS (compS 2 [(1,1)] [0] (iV (fzS (qM (F_slots_read 60) [(.v (oV (oIx (oN 4) (oC (.int 1)))))]))) (gN 0) bTrue (oV (oIx (oN 1) (oN 0))))))]) apF))
  (sIf (asB (o2 neF (oIx (oN 4) (oC (.int 0))) (o1 negD (oC (.int 1))))) (sPutA (pOf (oN 1)) (pOf (oIx (oN 4) (oC (.int 0)))) (owS (oV (oN 3)))) sNil))
noncomputable def qYp:Fn:=fnS 1 4 (sSeq (sSet 1 eDct0)
  (sSeq (sSet 2 (eLst []))
  (sSeq (sFor (iL enL [(oV (oFld [1] "steps" (oN 0)))]) (gT 2 (gCn (gN 3) (gCn (gN 4) gNl))) qXs)
  (sRet (eMv 2)))))
noncomputable def qJm:Fn:=fnS 1 1 (sSeq (sSet 1 (owS (oV (oSub (oL lenD [(oFld [1] "steps" (oN 0))]) (oC (.int 1))))))
  (sRet (compS 3 [(2,1)] [0,1] (iL enL [(oV (oFld [1] "steps" (oN 0)))]) (gT 2 (gCn (gN 0) (gCn (gN 1) gNl))) (bOr (asB (o2 eqF (oIx (oN 1) (oC (.int 0))) (o1 negD (oC (.int 1))))) (asB (o2 eqF (oN 0) (oN 2)))) (oV (oN 0)))))
noncomputable def qJx:SS:=(sPutA (pOf (oN 2)) (pOf (oN 4)) (owS (oV (oC (.bl true)))))
noncomputable def qJw:SS:=(sIf (asB (o2 inD (oN 3) (oN 2))) (sFor (iV (oV (oIx (oN 1) (oN 3)))) (gN 4) qJx) sNil)
noncomputable def qZ7:Fn:=fnS 2 3 (sSeq (sSet 2 (vWo (.v (fzS (compS 1 [] [0] (iV (oV (oN 0))) (gN 0) bTrue (svTup [(oV (oN 0)),(oV (oC (.bl true)))]))))))
  (sSeq (sFor (iL rgR [(oV (oSub (oL lenD [(oN 1)]) (oC (.int 1)))),(oV (o1 negD (oC (.int 1)))),(oV (o1 negD (oC (.int 1))))]) (gN 3) qJw)
  (sRet (eF sortKD [(oN 2)]))))
noncomputable def yT:Fn:=fnS 1 0 (sRet (qM qZ7 [(.v (fzS (qM qJm [(.v (oV (oN 0)))]))),(.v (fzS (qM qYp [(.v (oV (oN 0)))])))]))
noncomputable def qZl:Fn:=fnS 1 0 (sRet (qWg 1 xV [(.v (fzS (compS 2 [(1,0)] [0] (iV (fzS (qM yT [(.v (oV (oN 0)))]))) (gN 0) bTrue (oV (oIx (oFld [1] "steps" (oN 1)) (oN 0)))))),(.v (oV (oFld [1] "draws" (oN 0)))),(.v (oV (oFld [1] "slots" (oN 0))))]))
end FP
namespace LWF
open PySem L2 DX FP PyProof.Rows
noncomputable def qZ8:Fn:=fnS 1 0 (sSeq (sIf (asB (o2 eqF (oIx (oN 0) (oC (.int 0))) (oC (.str "op")))) (sRet (eLst [(oV (oIx (oN 0) (oC (.int 2)))),(oV (oIx (oN 0) (oC (.int 3))))])) sNil)
  (sSeq (sIf (asB (o2 eqF (oIx (oN 0) (oC (.int 0))) (oC (.str "if")))) (sRet (eLst [(oV (oIx (oN 0) (oC (.int 1)))),(oV (oIx (oN 0) (oC (.int 2)))),(oV (oIx (oN 0) (oC (.int 3))))])) sNil)
  (sSeq (sIf (bOr (asB (o2 eqF (oIx (oN 0) (oC (.int 0))) (oC (.str "rest")))) (asB (o2 eqF (oIx (oN 0) (oC (.int 0))) (oC (.str "field"))))) (sRet (eLst [(oV (oIx (oN 0) (oC (.int 1))))])) sNil)
  (sSeq (sIf (asB (o2 eqF (oIx (oN 0) (oC (.int 0))) (oC (.str "record")))) (sRet (compS 1 [] [0] (iV (oV (oIx (oN 0) (oC (.int 1))))) (gN 0) bTrue (oV (oIx (oN 0) (oC (.int 1)))))) sNil)
  (sSeq (sIf (asB (o2 eqF (oIx (oN 0) (oC (.int 0))) (oC (.str "call")))) (sRet (eF listD [(oIx (oN 0) (oC (.int 2)))])) sNil)
  (sRet (eLst [])))))))
noncomputable def wH:Nat->Fn
 | 0=>fun _=>.no
 | h + 1=>fnS 1 0 (sSeq (sIf (bOr (asB (o2 eqF (oIx (oN 0) (oC (.int 0))) (oC (.str "flip")))) (asB (o2 eqF (oIx (oN 0) (oC (.int 0))) (oC (.str "pick"))))) (sRet (owS (oV (oC (.int 1))))) sNil)
   (sRet (owS (oV (oL sumD [(.v (fzS (compS 1 [] [0] (iV (fzS (qM qZ8 [(.v (oV (oN 0)))]))) (gN 0) bTrue (fzS (qM (wH h) [(.v (oV (oN 0)))])))))])))))
noncomputable def qQs:Fn:=fnS 2 2 (sSeq (sIf (bNot (asB (oN 1))) (sRet (owS (svTup [(oV (oC (.str "num"))),(oV (oMod (oN 0) (oC (.int 5))))]))) sNil)
  (sSeq (sIf (asB (o2 eqF (oMod (oN 0) (oC (.int 3))) (oC (.int 0)))) (sSeq (sSet 2 (compS 2 [(1,0)] [0] (iL rg1 [(oV (oAdd (oC (.int 1)) (oMod (oDiv (oN 0) (oC (.int 3))) (oC (.int 2)))))]) (gN 0) bTrue (svTup [(oV (oAdd (oMod (oDiv (oN 1) (oC (.int 3))) (oC (.int 4))) (oMul (oC (.int 5)) (oN 0)))),(oV (oAdd (oC (.int 1)) (oMod (oDiv (oN 1) (oAdd (oN 0) (oC (.int 4)))) (oC (.int 999)))))])))
  (sRet (owS (svTup [(oV (oC (.str "pick"))),(svA tupleD [(oN 2)])])))) sNil)
  (sSeq (sSet 3 (owS (oV (oAdd (oC (.int 1)) (oMod (oDiv (oN 0) (oC (.int 3))) (oC (.int 7)))))))
  (sRet (owS (svTup [(oV (oC (.str "flip"))),(oV (oN 3)),(oV (oAdd (oAdd (oN 3) (oC (.int 1))) (oMod (oDiv (oN 0) (oC (.int 21))) (oC (.int 9)))))]))))))
noncomputable def xD:Fn:=fnS 4 5 (sSeq (sSet 4 (owS (oV (oMod (oN 0) (oC (.int 8))))))
  (sSeq (sSet 5 (owS (oV (oDiv (oN 0) (oC (.int 8))))))
  (sSeq (sSet 6 (qM qQs [(.v (oV (oDiv (oN 5) (oC (.int 56))))),(.v (oV (oN 2)))]))
  (sSeq (sIf (asB (o2 eqQ (oN 1) (.v (fzS (eLst []))))) (sRet (eMv 6)) sNil)
  (sSeq (sSet 7 (owS (svTup [(oV (oC (.str "name"))),(oV (oIx (oN 1) (oMod (oN 5) (oL lenD [(oN 1)]))))])))
  (sSeq (sSet 8 (owS (svTup [(oV (oC (.str "name"))),(oV (oIx (oN 1) (oMod (oDiv (oN 5) (oC (.int 7))) (oL lenD [(oN 1)]))))])))
  (sSeq (sIf (asB (o2 eqF (oN 4) (oC (.int 1)))) (sRet (owS (svTup [(oV (oC (.str "op"))),(oV (oC (.str "+"))),(oV (oN 7)),(oV (oN 6))]))) sNil)
  (sSeq (sIf (asB (o2 eqF (oN 4) (oC (.int 2)))) (sRet (owS (svTup [(oV (oC (.str "if"))),(oV (oN 7)),(oV (oN 6)),(oV (oN 8))]))) sNil)
  (sSeq (sIf (asB (o2 eqF (oN 4) (oC (.int 3)))) (sRet (owS (svTup [(oV (oC (.str "op"))),(oV (oIx (oC (.str "*=<-")) (oMod (oDiv (oN 5) (oC (.int 56))) (oC (.int 4))))),(oV (oN 7)),(oV (oN 8))]))) sNil)
  (sSeq (sIf (asB (o2 eqF (oN 4) (oC (.int 4)))) (sRet (owS (svTup [(oV (oC (.str "rest"))),(svTup [(oV (oC (.str "op"))),(oV (oC (.str "+"))),(oV (oN 7)),(svTup [(oV (oC (.str "num"))),(oV (oMod (oN 5) (oC (.int 7))))])]),(oV (oAdd (oC (.int 2)) (oMod (oN 5) (oC (.int 3)))))]))) sNil)
  (sSeq (sIf (asB (o2 eqF (oN 4) (oC (.int 5)))) (sRet (owS (svTup [(oV (oC (.str "field"))),(svTup [(oV (oC (.str "record"))),(svTup [(svTup [(oV (oC (.str "q"))),(oV (oN 7))]),(svTup [(oV (oC (.str "p"))),(oV (oN 6))])])]),(oV (oIx (oC (.str "pqr")) (oMod (oDiv (oN 5) (oC (.int 56))) (oC (.int 3)))))]))) sNil)
  (sSeq (sIf (bAnd (asB (o2 eqF (oN 4) (oC (.int 6)))) (bAnd (asB (oN 3)) (asB (o2 eqF (oMod (oDiv (oN 5) (oC (.int 56))) (oC (.int 2))) (oC (.int 1)))))) (sRet (owS (svTup [(oV (oC (.str "call"))),(oV (oC (.str "g"))),(svTup [(oV (oN 7))])]))) sNil)
  (sSeq (sIf (asB (o2 eqF (oN 4) (oC (.int 6)))) (sRet (owS (svTup [(oV (oC (.str "call"))),(oV (oC (.str "f"))),(svTup [(oV (oN 7)),(oV (oN 6))])]))) sNil)
  (sRet (eMv 6)))))))))))))))
noncomputable def yE:SS:=(sSeq (sSet 7 (owS (oV (oMod (oMul (oAdd (oAdd (oMod (oN 6) (oPow (oC (.int 10)) (oC (.int 15)))) (oMul (oMul (oC (.int 104729)) (oN 5)) (oN 5))) (oC (.int 11))) (oC (.int 48271))) (oC (.int 2147483647))))))
  (sSeq (sSet 8 (owS (oV (o2 addS (oIx (oC (.str "abcdefgh")) (oMod (oDiv (oN 7) (oC (.int 8))) (oC (.int 8)))) (oN 2)))))
  (sSeq (sSet 9 (owS (oV (oC (.int 1)))))
  (sSeq (sIf (bAnd (asB (o2 eqF (oMod (oN 7) (oC (.int 8))) (oC (.int 1)))) (bAnd (asB (oLt (oN 5) (oC (.int 13)))) (asB (o2 inD (oN 8) (oN 4))))) (sSet 9 (owS (oV (oMod (oDiv (oN 7) (oC (.int 64))) (oC (.int 4)))))) sNil)
  (sSeq (sSet 10 (qM xD [(.v (oV (oDiv (oN 7) (oC (.int 256))))),(.v (oV (oN 4))),(.v (oV (oLe (oN 9) (oN 1)))),(.v (oV (oAnd (oLt (oN 5) (oC (.int 13))) (o2 eqF (oN 9) (oC (.int 1))))))]))
  (sSeq (sSet 1 (owS (oV (oSub (oN 1) (oMul (oN 9) (.v (fzS (qM (wH 30) [(.v (oV (oN 10)))]))))))))
  (sIf (asB (o2 eqF (oMod (oN 7) (oC (.int 8))) (oC (.int 0)))) (zV (eMu1 (pOf (oN 3)) (owS (svTup [(oV (oC (.str "see"))),(oV (oN 10))])) apF)) (sIf (bAnd (asB (o2 eqF (oMod (oN 7) (oC (.int 8))) (oC (.int 1)))) (asB (o2 inD (oN 8) (oN 4)))) (zV (eMu1 (pOf (oN 3)) (owS (svTup [(oV (oC (.str "again"))),(oV (oN 9)),(oV (oN 8)),(oV (oN 10))])) apF)) (sSeq (zV (eMu1 (pOf (oN 3)) (owS (svTup [(oV (oC (.str "let"))),(oV (oN 8)),(oV (oN 10))])) apF))
  (sSet 4 (eCat (.v (fzS (compS 2 [(1,8)] [0] (iV (oV (oN 4))) (gN 0) (asB (o2 neF (oN 0) (oN 1))) (oV (oN 0))))) (.v (fzS (eLst [(oV (oN 8))]))))))))))))))
noncomputable def qVt:Fn:=fnS 3 8 (sSeq (sSet 3 (eLst []))
  (sSeq (sSet 4 (eLst []))
  (sSeq (sFor (iL enL [(oV (oN 0))]) (gT 2 (gCn (gN 5) (gCn (gN 6) gNl))) yE)
  (sRet (eCat (oN 3) (.v (fzS (eLst [(svTup [(oV (oC (.str "ask"))),(fzS (qM xD [(.v (oV (oAdd (oMul (oL lenD [(oN 0)]) (oC (.int 48271))) (oC (.int 3))))),(.v (oV (oN 4))),(.v (oV (oGt (oN 1) (oC (.int 0))))),(.v (oV (oC (.bl false))))]))])]))))))))
noncomputable def xF:Fn:=fnS 0 2 (sSeq (sSet 0 (owS (svTup [(oV (oC (.str "op"))),(oV (oC (.str "+"))),(svTup [(oV (oC (.str "name"))),(oV (oC (.str "y")))]),(svTup [(oV (oC (.str "name"))),(oV (oC (.str "y")))])])))
  (sSeq (sSet 1 (owS (svTup [(oV (oC (.str "call"))),(oV (oC (.str "f"))),(svTup [(svTup [(oV (oC (.str "name"))),(oV (oC (.str "x")))]),(svTup [(oV (oC (.str "name"))),(oV (oC (.str "x")))])])])))
  (sRet (eLst [(svTup [(oV (oC (.str "def"))),(oV (oC (.str "f"))),(svTup [(oV (oC (.str "x"))),(oV (oC (.str "y")))]),(oV (oN 0))]),(svTup [(oV (oC (.str "def"))),(oV (oC (.str "g"))),(svTup [(oV (oC (.str "x")))]),(svTup [(oV (oC (.str "call"))),(oV (oC (.str "f"))),(svTup [(svTup [(oV (oC (.str "name"))),(oV (oC (.str "x")))]),(oV (oN 1))])])])]))))
noncomputable def wZ:Fn:=fnS 2 0 (sRet (eCat (.v (fzS (qM xF []))) (.v (fzS (qM qVt [(.v (oV (oN 0))),(.v (oV (oN 1))),(.v (oV (oC (.str ""))))])))))
noncomputable def vQk(a:Fn):SS:=(sSet 1 (eCat (oN 1) (.v (fzS (qM a [(.v (oV (oN 2)))])))))
noncomputable def jI:Nat->Fn
 | 0=>fun _=>.no
 | h + 1=>fnS 1 2 (sSeq (sIf (asB (o2 eqF (oIx (oN 0) (oC (.int 0))) (oC (.str "name")))) (sRet (eLst [(oV (oIx (oN 0) (oC (.int 1))))])) sNil)
   (sSeq (sSet 1 (eLst []))
   (sSeq (sFor (iV (fzS (qM qZ8 [(.v (oV (oN 0)))]))) (gN 2) (vQk (jI h)))
   (sRet (eMv 1)))))
noncomputable def qQ1:SS:=(sSeq (zV (eMu1 (pOf (oN 2)) (eF sortSD [(.v (fzS (compS 2 [(1,1)] [0] (iV (fzS (qM (jI 30) [(.v (oV (oIx (oN 3) (o1 negD (oC (.int 1))))))]))) (gN 0) bTrue (oV (oIx (oN 1) (oN 0))))))]) apF))
  (sIf (bOr (asB (o2 eqF (oIx (oN 3) (oC (.int 0))) (oC (.str "let")))) (asB (o2 eqF (oIx (oN 3) (oC (.int 0))) (oC (.str "again"))))) (sPutA (pOf (oN 1)) (pOf (oIx (oN 3) (o1 negD (oC (.int 2))))) (owS (oV (oSub (oL lenD [(oN 2)]) (oC (.int 1)))))) sNil))
noncomputable def zG:SS:=(sSeq (sSet 4 (owS (oV (oL intD [(o2 neF (oIx (oN 3) (oC (.int 0))) (oC (.str "def")))]))))
  (sSeq (sIf (asB (o2 eqF (oIx (oN 3) (oC (.int 0))) (oC (.str "again")))) (sSet 4 (owS (oV (oIx (oN 3) (oC (.int 1)))))) sNil)
  (sFor (iL rg1 [(oV (oN 4))]) (gN 5) qQ1)))
noncomputable def qQr:Fn:=fnS 1 5 (sSeq (sSet 1 eDct0)
  (sSeq (sSet 2 (eLst []))
  (sSeq (sFor (iV (oV (oN 0))) (gN 3) zG)
  (sRet (eMv 2)))))
noncomputable def wT:SS:=(sSeq (sIf (bOr (asB (o2 eqF (oIx (oN 3) (oC (.int 0))) (oC (.str "see")))) (asB (o2 eqF (oIx (oN 3) (oC (.int 0))) (oC (.str "ask"))))) (zV (eMu1 (pOf (oN 2)) (owS (oV (oN 1))) apF)) sNil)
  (sIf (asB (o2 eqF (oIx (oN 3) (oC (.int 0))) (oC (.str "again")))) (sSet 1 (owS (oV (oAdd (oN 1) (oIx (oN 3) (oC (.int 1))))))) (sIf (asB (o2 neF (oIx (oN 3) (oC (.int 0))) (oC (.str "def")))) (sSet 1 (owS (oV (oAdd (oN 1) (oC (.int 1)))))) sNil)))
noncomputable def qVu:Fn:=fnS 1 3 (sSeq (sSet 1 (owS (oV (oC (.int 0)))))
  (sSeq (sSet 2 (eLst []))
  (sSeq (sFor (iV (oV (oN 0))) (gN 3) wT)
  (sRet (eMv 2)))))
end LWF
namespace L2
open PySem PySem.Spec PyProof.Rows
variable{Q:Value->aY->Prop}
theorem jQq:isSubtype (.type "range_iterator") (.type "reversed")=pure false:=by rw[isSubtype_type];kernel_rfl
noncomputable abbrev rrO(n:Int):Obj:={cls:=.type "range_iterator",data:=.fields #[rawInt (n - 1),rawInt n,rawInt (-1)]}
section
variable{prog:aA}{w:bW}{A:cQ}{s:aY}{E:Value->aY->Prop}{r:aX}{n:Int}{a b c:Tok}
theorem zXd(h0:0<=n):Builtin.Range.rangeSize 0 n 1=n:=by
 unfold Builtin.Range.rangeSize;rw[if_pos (by omega)];split
 ·simp
 ·omega
theorem zXf(f:IsRange s.heap r 0 n 1 a b c)(h0:0<=n)(h1:n<2 ^ 40)(h:Q (.ref s.heap.objs.size) {s with heap:=s.heap.push (rrO n)}):
  aH (model prog w) A (call (.builtin "range.__reversed__") [.ref r]) Q E s:=by
 have j:s.TypeIs (.ref r) "range":=⟨_,f,rfl⟩
 refine cZ F.slot_range_reversed j F.entry_range_reversed ?_ (F.args_range_reversed_1 _)
 obtain⟨k,g,d,l,m⟩:=s;have e:∀i:Int, -(2 ^ 41)<=i->i<2 ^ 41->Builtin.Range.rangeFitsLong i=true:=fun i p q=>by
  simp only[Builtin.Range.rangeFitsLong,aF,decide_eq_true_eq];omega
 wp_walk using wpAny_loadPart' f;rw[zXd h0,e 0 (by omega) (by omega),e n (by omega) (by omega),e 1 (by omega) (by omega),e (-1) (by omega) (by omega),e (0 - 1) (by omega) (by omega),show(0:Int)+(n - 1) * 1=n - 1 by omega];wp_walk;exact⟨_,rfl,h⟩
theorem zXe(d:IsRange s.heap r 0 n 1 a b c)(h0:0<=n)(h1:n<2 ^ 40)(h:Q (.ref s.heap.objs.size) {s with heap:=s.heap.push (rrO n)}):
  codeAny (model prog w) A (.call (.builtin "reversed.__new__") ⟨[.type "reversed",.ref r],[]⟩) (wants Q E) s:=by
 have e:s.TypeIs (.ref r) "range":=⟨_,d,rfl⟩
 refine codeAny_of_tree ?_
 show aH _ A.in1 (do checkBuiltinCall "reversed.__new__" ⟨[.type "reversed",.ref r],[]⟩;again (.builtin "reversed.__new__" ⟨[.type "reversed",.ref r],[]⟩)) _ _ s;refine aV (fJ (F.newCall_reversed_1 _) (aW ⟨eN F.plain_reversed_new _,cS F.entry_reversed_new ?_⟩));rw[Around.under_plainId F.plain_reversed_new _];unfold Builtin.«reversed.__new__»;refine aV (fJ (newClass_reversed _) ?_);dsimp only;refine aV (fJ (a:=()) (by first|rfl|kernel_rfl) ?_);refine aV (fJ (a:=()) (by first|rfl|kernel_rfl) ?_);(try dsimp only);refine aV (wpAny_specialOf e F.slot_range_reversed.lookup ?_);(try dsimp only);refine aV (fJ (F.slot_range_reversed.bind _) ?_);(try dsimp only);first
 |rw[if_neg (show¬((Value.builtin "range.__reversed__" == Value.none)=true) from aO)]
 |(show aH _ _ (if(Value.builtin "range.__reversed__" == Value.none)=true then _ else _) _ _ _;rw[if_neg (show¬((Value.builtin "range.__reversed__" == Value.none)=true) from aO)])
 refine aV (fV ?_);refine aV (m:=runValue (.call (.builtin "range.__reversed__") ⟨[.ref r],[]⟩)) (show aH _ _ (call (.builtin "range.__reversed__") [.ref r]) _ _ _ from zXf d h0 h1 ?_);first
 |exact aW h
 |exact aV (aW (aW h))
theorem jQw(d:IsRange s.heap r 0 n 1 a b c)(h0:0<=n)(h1:n<2 ^ 40)(h:Q (.ref s.heap.objs.size) {s with heap:=s.heap.push (rrO n)}):
  aH (model prog w) A (call (.type "reversed") [.ref r]) Q E s:=by
 refine callType_other (U:="range_iterator") (Q₁:=fun o z=>o=.ref s.heap.objs.size/\z={s with heap:=s.heap.push (rrO n)}) (by decide +kernel) F.create_reversed ⟨_,_,F.mro_reversed⟩ F.made_reversed jQq (F.typeCall_reversed_1 _) (zXe d h0 h1 ⟨rfl,rfl⟩) ?_
 rintro obj s₁ ⟨rfl,rfl⟩;exact⟨⟨_,aP _ rfl,rfl⟩,h⟩
end
section
variable{X:Cx}{tg:Expr}
noncomputable def iRR(a:TA):TI:=fun σ H R=>a σ H fun b c=>∃j:Int,b=[.int j]/\0<=j/\j<2 ^ 40/\R (Its (j - 1) (-1) j.toNat) c
theorem jJg{a:Expr}{n:TA}{p w c g :Pos}(k :Gl X "reversed")(l :X.mg "reversed"=none)(x:Gl X "range")(y:X.mg "range"=none)(ha:PA X [a] n)(hs:aK [a] X.env=[(false,eval a X.env)]:=by rfl)(i :aK [.Call (.Name "range" p) [a] [] c] X.env=[(false,eval (.Call (.Name "range" p) [a] [] c) X.env)]:=by rfl):PI X tg (.Call (.Name "reversed" w) [.Call (.Name "range" p) [a] [] c] [] g) (iRR n):=by
 intro d s σ H R I h;refine Call_ (qQv I k l Boot.«reversed» (bH ?_ i rfl));rw[i];refine Calls.spliced_cons (Call_ (qQv I x y boot_range (bH (thn (ha c d s σ H _ I h) fun G f ⟨J,r,z,A,B⟩=>?_) hs rfl)));obtain⟨j,e,C,D,q⟩:=B;subst e;obtain⟨u,rfl,E⟩:=yG A;obtain⟨t,rfl⟩:=E;refine call_range_1 (Calls.spliced_nil (jQw (IsRange.new ..) C D ?_));generalize F:f.heap.push {cls:=.type "range",data:=.fields #[.int 0 f.toks,.int j t,.int 1 (f.toks+1)]}=h2;have m:Inv X d σ r {f with heap:=h2,toks:=f.toks+1+1}:=z.kept (t' :=f.toks+1+1) fun b o e=>by rw[←F];exact aJ _ e
 have v:IsRangeIter (h2.push (rrO j)) h2.objs.size (j - 1+((0:Nat):Int) * (-1)) (((j.toNat:Nat):Int) - ((0:Nat):Int)) (-1):=by
  rw[show j - 1+((0:Nat):Int) * (-1)=j - 1 by simp,show((j.toNat:Nat):Int) - ((0:Nat):Int)=j by omega];exact aP _ rfl
 refine wpAny_pyIter_rangeiter v ?_
 refine⟨h2.objs.size,[h2.objs.size],_,_,r,rfl,m.kept (t' :=f.toks+1+1) fun b o e=>aJ _ e,qX0 _ (j - 1) (-1) j.toNat,v,fun b hb=>?_,q⟩;have e:b=h2.objs.size:=by simpa using hb
 subst e;exact m.fpOk (aC _) (m.hok.fresh (aC _))
end
end L2
namespace DX
open PySem L2 PyProof.Rows
variable{X:Cx}{c:Nat->aX}{E:XK}{a:Expr}{p pos:Pos}
noncomputable def rgV:List D->Option (List D)
 |[.int j]=>cond (decide (0<=j) && decide (j<2 ^ 40)) (some ((List.range j.toNat).map fun(i:Nat)=>D.int (j - 1+(i:Int) * (-1)))) none
 |_=>none
theorem jJ3{n:Expr}{m:List SV}{o b:Pos}(f :Gl X "reversed")(i :X.mg "reversed"=none)(q:Gl X "range")(s:X.mg "range"=none)(ha:VsD X c E [a] m)(hs:aK [a] X.env=[(false,eval a X.env)]:=by rfl)(k :aK [.Call (.Name "range" p) [a] [] pos] X.env=[(false,eval (.Call (.Name "range" p) [a] [] pos) X.env)]:=by rfl):ID' X c E n (.Call (.Name "reversed" o) [.Call (.Name "range" p) [a] [] pos] [] b) (iL rgV m):=by
 refine⟨PI.imp (jJg f i q s ha.h hs k) fun σ H R=>?_⟩;rintro⟨env,B,W,t,w⟩;refine qVe t (qY.mp w) fun r v F x y g=>?_
 obtain⟨ds,d,z⟩:=qB v;have e:=g.at_;unfold rgV at d;split at d
 ·rename_i j A;rw[A]at e;obtain⟨u,C,rfl,a,e⟩:=e.un;rw[e.un0];obtain⟨l,D⟩:=vS d;cases D;cases a;simp only[aF,decide_eq_true_eq]at l;exact⟨j,rfl,l.1,l.2,z _ x y g.st g.cf zZd⟩
 ·cases d
structure IsoK(K:aQ)(C:aX):Prop where
 a:dQ K (.ref C) "__class__"=some (some (.builtin "object.__class__"))
 b:PySem.W.specialIn K (.builtin "object.__class__") "__get__"=some (some (.builtin "getset_descriptor.__get__"))
 c:PySem.W.takesIn K (.builtin "object.__class__")=some true
 d:PySem.W.mroIn K C (.type "object")=some true
noncomputable def isoD(C:Nat):D->Option D
 |.nd (.obj C' _) _=>cond (decide (C' =C)) (some (.bl true)) none
 |_=>none
theorem jV1{C:Nat}{e:Expr}{y:Str}{q:Pos}{o:Oe}(cl:Cls X.K (c C))(k:IsoK X.K (c C))(m:X.mg "isinstance"=none)(n:X.mg y=some (.ref (c C)))(ha:OD X c E e o)(s:Gl X "isinstance":=by exact rfl)(f:Gl X y:=by exact rfl)(g:(y == ("__debug__":Str))=false:=by decide)(l:aK [e, .Name y q] X.env=(false,eval e X.env)::aK [.Name y q] X.env:=by rfl)(i:aK [.Name y q] X.env=(false,eval (.Name y q) X.env)::aK [] X.env:=by rfl)(j:(cK pos (aK [.Name y q] X.env)).any (·.1)=false:=by rfl):
  OD X c E (.Call (.Name "isinstance" p) [e, .Name y q] [] pos) (o1 (isoD C) o):=by
 refine⟨PE.imp (qZp zQ7 s m Boot.«isinstance» (yY ha.h (yY (qYe (v:=.ref (c C)) f n rfl g) qJ0 i) l) (by decide) (by decide) l j) fun σ H Q h=>?_⟩;refine zVd (K:=X.K) (r:=fun u H Q=>zKt X.K [u,.ref (c C)] H Q) (fun u H x z Q t e q=>?_) h;unfold isoD at e;split at e
 ·rename_i F fs ds;obtain⟨w,A⟩:=vS e;cases of_decide_eq_true w;cases A;obtain⟨B,G,rfl,⟨_,I,D⟩,_⟩:=t.un;exact⟨.ref B,c C,.ref (c C),true,rfl,.ins D cl k.a k.b k.c k.d,by unfold cX;split <;> first|rfl|(rename_i z;exact absurd (by simp) z),q _ fun _=>.bl true⟩
 ·cases e
noncomputable def jJb(K:aQ):R2:=fun x y H Q=>∃l i a,x=.ref l/\y=.int i/\SqL K H l a/\a.length * i.toNat<=1000/\i.natAbs<=1000/\∀p,H p=none->Q (.ref p) (upd H p (.lst (List.replicate i.toNat a).flatten))
theorem vZ7{xs:List V}{us:List Value}(h:Vals xs us):∀n,Vals (List.replicate n xs).flatten (List.replicate n us).flatten
 | 0=>.nil
 | n + 1=>by
   rw[dF,dF,List.flatten_cons,List.flatten_cons];exact h.append (vZ7 h n)
theorem zZn{K:aQ}{F:Hp}{vs:List V}{ds:List D}(h:DsAt K c F vs ds):∀n,DsAt K c F (List.replicate n vs).flatten (List.replicate n ds).flatten
 | 0=>.nil
 | n + 1=>by
   rw[dF,dF,List.flatten_cons,List.flatten_cons];exact h.append (zZn h n)
theorem zYe:OpR X (binaryOp .Mult) (jJb X.K):=by
 intro e s σ H x y v u Q I rx ry h
 obtain⟨l,i,p,rfl,rfl,t,f,C,q⟩:=h
 cases rx
 obtain⟨d,rfl⟩:=ry
 obtain⟨a,r,pl,_⟩:=I.list t
 obtain⟨⟨w,g,j,sl⟩,n,b,k,_,m⟩:=pl
 simp only at k m
 subst k m
 have z:=r.length
 have c :a.length * i.toNat<=1000:=by rw[←z];exact f
 have o:a.toArray.size * i.toNat<=1000:=by rw[aN];exact c
 refine wpAny_binaryOp_repeat_ref (T:="list") (U:="int") (by decide) ⟨_,b,rfl⟩ (fun A =>typeIs_int A i d) noFill_list_mul F.fills_int_mul F.slot_int_rmul repeat_list F.slot_int_index.lookup
  (call_meets F.slot_int_rmul (typeIs_int s i d) F.entry_int_rmul (F.args_int_rmul_2 _ _) (lm_int_rmul_list_any i d l a.toArray n g sl)
   ⟨b,rfl,⟨_,b,rfl⟩,call_meets F.slot_list_mul ⟨_,b,rfl⟩ F.entry_list_mul (F.args_list_mul_2 _ _)
    (lm_list_mul_any l a.toArray n g sl i d (by simp[Builtin.List.listFitsIndex];omega) (by omega) (by simp[Builtin.List.listTooLong,aS];omega))
    ⟨b,?_⟩⟩)
 rw[listMul_foldl_if]
 have B:((List.replicate i.toNat p).flatten).length <=aS:=by
  rw[List.length_flatten,List.map_replicate,List.sum_replicate_nat,Nat.mul_comm]
  exact aR f (by decide)
 exact⟨.ref _,_,I.lnew (t' :=s.toks) (vZ7 r i.toNat) B,rfl,q _ I.fresh⟩
noncomputable def vQu(a b:Oe):SE:=fun c=>(evO a c).bind fun d=>(evO b d.2).bind fun e=>cond (d.1.st || b.isP) ((yH [d.1,e.1] e.2).bind fun q=>match q.1 with
 |[x,.int i]=>(opt (qQl x)).bind fun ds=>cond (decide (ds.length * i.toNat<=1000/\i.natAbs<=1000)) (.ok (.ow .lst ((List.replicate i.toNat ds).flatten.map .fz),q.2)) .no
 |_=>.no) .no
theorem vY3{b:Expr}{oa n:Oe}(ha:OD X c E a oa)(hb:OD X c E b n):ED X c E (.BinOp a .Mult b pos) (vQu oa n):=by
 refine⟨PE.imp (zVk zYe ha.h hb.h) fun σ H Q=>?_⟩;rintro⟨z,B,W,A,w⟩;refine qQ2 A (qY.mp w) fun D F u S T g1=>?_
 refine qQ2 g1.cf (qC (fun _ q=>q) (fun C fs G=>G.back g1.st) (qY.mp F)) fun I J v o U g2=>?_
 obtain⟨hs,K⟩:=vN J;obtain⟨V,r,L,f,d,vw,e⟩:=rsvBs_wp (hs:=[D.1,I.1]) (us:=[u,v]) g2.cf ⟨g1.next g2 hs,g2.at_,trivial⟩ (qY.mp K);dsimp only at e;split at e
 ·rename_i x i;obtain⟨ds,M,N⟩:=qB e;obtain⟨O,P⟩:=vN N;obtain⟨g,j⟩:=of_decide_eq_true O;obtain⟨p,s,rfl,R,t⟩:=vw.1.lst qS M;cases vw.2.1.dat qS;refine⟨p,i,s,rfl,rfl,R,by rw[t.len];exact g,j,fun l m=>?_⟩;have y:Same o (upd o l (.lst (List.replicate i.toNat s).flatten)):=.upd m;exact P (.ref l) _ L _ ((Got.lay d m y (k:=.lst) upd_same ((zZn t i.toNat).same (qZs d m y))).back ((g1.st.trans g2.st).trans f))
 ·exact e.elim
end DX
namespace X52
open PySem L2 DX FP LWF PyProof.Rows
noncomputable def qQg:SS:=(sSetI (pOf (oN 2)) (pOf (oN 4)) (owS (oV (oC (.bl true)))))
noncomputable def qJa:SS:=(sIf (asB (oIx (oN 2) (oN 3))) (sFor (iV (oV (oIx (oN 0) (oN 3)))) (gN 4) qQg) sNil)
noncomputable def yC:Fn:=fnS 2 3 (sSeq (sSet 2 (vQu (.v (fzS (eLst [(oV (oC (.bl false)))]))) (oL lenD [(oN 0)])))
  (sSeq (sSetI (pOf (oN 2)) (pOf (oN 1)) (owS (oV (oC (.bl true)))))
  (sSeq (sFor (iL rgV [(oV (oAdd (oN 1) (oC (.int 1))))]) (gN 3) qJa)
  (sRet (eMv 2)))))
noncomputable def wI:Fn:=fnS 4 0 (sSeq (sIf (bOr (bNot (asB (o1 (isoD 1) (oN 0)))) (bOr (asB (o2 neQ (oFld [1] "steps" (oN 0)) (oN 1))) (asB (o2 neQ (oFld [1] "draws" (oN 0)) (oN 2))))) (sRet (owS (oV (oC (.bl false))))) sNil)
  (sRet (owS (oV (oAnd (o1 (isiD "int") (oFld [1] "slots" (oN 0))) (oAnd (oNot (o1 (isiD "bool") (oFld [1] "slots" (oN 0)))) (o2 eqF (oFld [1] "slots" (oN 0)) (oN 3))))))))
noncomputable def vZd:SS:=(sSeq (sSet 8 (qM yC [(.v (oV (oN 5))),(.v (oV (oN 7)))]))
  (sSet 6 (compS 3 [(1,8),(2,6)] [0] (iL rg1 [(oV (oL lenD [(oN 6)]))]) (gN 0) bTrue (oV (oOr (oIx (oN 2) (oN 0)) (oIx (oN 1) (oN 0)))))))
noncomputable def zVo:Fn:=fnS 1 10 (sSeq (sSet 1 (qM wZ [(.v (fzS (eSlL (oN 0) none (some (oV (oC (.int 37))))))),(.v (oV (oC (.int 50))))]))
  (sSeq (sSet 2 (qM qZx [(.v (oV (oN 1)))]))
  (sSeq (sSet 3 (eF listD [(oFld [1] "steps" (oN 2))]))
  (sSeq (sSet 4 (compS 1 [] [0] (iV (oV (oFld [1] "draws" (oN 2)))) (gN 0) bTrue (fzS (eF listD [(oN 0)]))))
  (sSeq (sSet 5 (qM qQr [(.v (oV (oN 1)))]))
  (sSeq (sSet 6 (vQu (.v (fzS (eLst [(oV (oC (.bl false)))]))) (oL lenD [(oN 5)])))
  (sSeq (sFor (iV (fzS (qM qVu [(.v (oV (oN 1)))]))) (gN 7) vZd)
  (sSeq (sIf (asB (o2 neF (oL lenD [(oN 3)]) (oL lenD [(oN 6)]))) (sRet (owS (oV (oC (.bl false))))) sNil)
  (sSeq (sSet 9 (compS 3 [(1,6),(2,3)] [0] (iL rg1 [(oV (oL lenD [(oN 3)]))]) (gN 0) (asB (oIx (oN 1) (oN 0))) (oV (oIx (oN 2) (oN 0)))))
  (sSeq (sSet 10 (qM qZl [(.v (oV (oN 2)))]))
  (sSeq (sIf (bOr (bNot (asB (.v (fzS (qM wI [(.v (oV (oN 10))),(.v (oV (oN 9))),(.v (oV (oN 4))),(.v (oV (oFld [1] "slots" (oN 2))))]))))) (bNot (asB (.v (fzS (qM wI [(.v (fzS (qM qZl [(.v (oV (oN 10)))]))),(.v (oV (oN 9))),(.v (oV (oN 4))),(.v (oV (oFld [1] "slots" (oN 2))))])))))) (sRet (owS (oV (oC (.bl false))))) sNil)
  (sRet (owS (oV (oAnd (o2 eqQ (oFld [1] "steps" (oN 2)) (oN 3)) (o2 eqQ (oFld [1] "draws" (oN 2)) (oN 4)))))))))))))))))
end X52
namespace DX
open PySem L2 PyProof.Rows
variable{γ:Type}{args env e1 e env':Ev}{it:SI}{g:SG}{h1 h0 hk:Hn}{ss:List SV}{xs vs:List D}{XI:Res (List D×Ev)}{C i j n:Nat}{a0:Am}{as:List Am}{cs:List (Nat×Nat)}{T:List Nat}{el:SV}{XV:Res (D×Ev)}{F:Fn}
section
variable{α β:Type}{X:Res β}{x:Res α}{a:α}{f:α->Res β}
theorem xE(h:x=.ok a)(k:f a=X):x.bind f=X:=by subst h;exact k
theorem jE{b:Bool}{x y X:γ}(h:b=true)(k:x=X):cond b x y=X:=by subst h;exact k
theorem v6{b:Bool}{x y X:γ}(h:b=false)(k:y=X):cond b x y=X:=by subst h;exact k
end
section
variable{env e:Ev}{o:O}{d:D}{X:Res Out}{s t s1 s2:SS}{i n m:Nat}{a:SE}{v:SV}{b:ST}{q:Bool}
noncomputable def finO(n:Nat):Out->Res (O×Ev)
 |.nx e=>.ok (.fz .non,outs n e)
 |.rt r e=>.ok (r,outs n e)
 |_=>.no
theorem vW{o:Out}{X:Res (O×Ev)}(h:s (args ++ List.replicate m .un)=.ok o)(k:finO n o=X):fnS n m s args=X:=by
 unfold fnS;rw[h];cases o <;> exact k
theorem qI(k:t env=X):sSeq sNil t env=X:=k
theorem qXe(k:sSeq s1 (sSeq s2 t) env=X):sSeq (sSeq s1 s2) t env=X:=by
 rw[←k];unfold sSeq;cases s1 env with
 |ok o=>cases o <;> rfl
 |er C fs=>rfl
 |no=>rfl
theorem qG(h:b env=.ok (q,e))(k:cond q (sSeq s1 t e) (sSeq s2 t e)=X):sSeq (sIf b s1 s2) t env=X:=by
 unfold sSeq sIf;rw[h];cases q <;> exact k
theorem qJf(h:a env=.ok (o,e))(k: .ok (.rt o e)=X):sSeq (sRet a) t env=X:=by
 unfold sSeq sRet;rw[h];exact k
theorem qJ(h:a env=.ok (o,e))(k:t (e.set i (.s false o))=X):sSeq (sSet i a) t env=X:=by
 unfold sSeq sSet;rw[h];exact k
theorem zX(h:a env=.ok (o,e))(k:t e=X):sSeq (zV a) t env=X:=by
 unfold sSeq zV;rw[h];exact k
theorem jQ(h:s env=.ok (.nx e))(k:t e=X):sSeq s t env=X:=by
 unfold sSeq;rw[h];exact k
theorem v4(h:b env=.ok (q,e))(k:cond q (s1 e) (s2 e)=X):sIf b s1 s2 env=X:=by
 unfold sIf;rw[h];exact k
theorem xR(h:a env=.ok (o,e))(k: .ok (.rt o e)=X):sRet a env=X:=by
 unfold sRet;rw[h];exact k
theorem qWn(h:a env=.ok (o,e))(k: .ok (.nx (e.set i (.s false o)))=X):sSet i a env=X:=by
 unfold sSet;rw[h];exact k
theorem wO(h:a env=.ok (o,e))(k: .ok (.nx e)=X):zV a env=X:=by
 unfold zV;rw[h];exact k
theorem zF{ds:List D}(h:it env=.ok (ds,e))(k:forS g s ds e=X):sFor it g s env=X:=by
 unfold sFor;rw[h];exact k
end
section
variable{env e e1 e2:Ev}{o:O}{d x y z:D}{a a1 a2:SE}{v v1 v2:SV}{b:ST}{q q1:Bool}{XE:Res (O×Ev)}{XV:Res (D×Ev)}{XB:Res (Bool×Ev)}{oa ob:Oe}
theorem wL(h:v env=.ok (d,e))(k: .ok (.fz d,e)=XE):owS v env=XE:=by
 unfold owS;rw[h];exact k
theorem jK(h:a env=.ok (o,e))(k: .ok (fzO o,e)=XV):fzS a env=XV:=by
 unfold fzS;rw[h];exact k
theorem j5(h:oV oa env=.ok (d,e))(h2:blOf d=some q)(k: .ok (q,e)=XB):asB oa env=XB:=by
 unfold asB;rw[h];show(opt (blOf d)).bind _=_;rw[h2];exact k
theorem yR{s t:ST}(h:s env=.ok (q,e))(k:cond q (t e) (.ok (false,e))=XB):bAnd s t env=XB:=by
 unfold bAnd;rw[h];exact k
theorem vQq{s t:ST}(h:s env=.ok (q,e))(k:cond q (.ok (true,e)) (t e)=XB):bOr s t env=XB:=by
 unfold bOr;rw[h];exact k
theorem not_of{s:ST}(h:s env=.ok (q,e))(k: .ok (!q,e)=XB):bNot s env=XB:=by
 unfold bNot;rw[h];exact k
theorem zS{a:Res (Hn×Ev)}(h:v env=.ok (d,e))(k: .ok (.d d,e)=a):evO (.v v) env=a:=by
 show(v env).bind _=_;rw[h];exact k
theorem yF{os:List Oe}{hs:List Hn}{a:Res (List Hn×Ev)}(h:evO oa env=.ok (h1,e))(c:(h1.st || os.all Oe.isP)=true)(h2:evOs os e=.ok (hs,e1))(k: .ok (h1::hs,e1)=a):evOs (oa::os) env=a:=by
 show(evO oa env).bind _=_;rw[h];show cond (h1.st || os.all Oe.isP) ((evOs os e).bind _) _=_;rw[c,h2];exact k
theorem qKo{a:Res (List Hn×Ev)}(k: .ok ([],env)=a):evOs [] env=a:=k
theorem jW{a:Res (List D×Ev)}(k: .ok ([],env)=a):evVs [] env=a:=k
theorem vQ{ds:List D}{a:Res (List D×Ev)}(h:v env=.ok (d,e))(h2:evVs ss e=.ok (ds,e1))(k: .ok (d::ds,e1)=a):evVs (v::ss) env=a:=by
 show(v env).bind _=_;rw[h];show(evVs ss e).bind _=_;rw[h2];exact k
theorem qVd{ds:List D}(h:evVs ss env=.ok (ds,e))(c:decide (ds.length<=1000)=true)(k: .ok (.tup ds,e)=XV):svTup ss env=XV:=by
 unfold svTup;rw[h];show cond (decide (ds.length<=1000)) _ _=_;grind
theorem zV8{ds:List D}(h:evVs ss env=.ok (ds,e))(c:decide (ds.length<=1000)=true)(k: .ok (.ow .lst (ds.map .fz),e)=XE):eLst ss env=XE:=by
 unfold eLst;rw[h];show cond (decide (ds.length<=1000)) _ _=_;grind
theorem zVu{f:D->D->Option D}{h2:Hn}(h:evO oa env=.ok (h1,e))(h' :evO ob e=.ok (h2,e1))(c:(h1.st || ob.isP)=true)(a:rsv e1 h1=some x)(b:rsv e1 h2=some y)(d:f x y=some z)(k: .ok (z,e1)=XV):sv2 f oa ob env=XV:=by
 unfold sv2;rw[h];show(evO ob e).bind _=_;rw[h'];show cond (h1.st || ob.isP) ((opt (rsv e1 h1)).bind _) _=_;rw[c,a];rw[b];show(opt (f x y)).bind _=_;rw[d];exact k
theorem jQo{f:List D->Option D}{os:List Oe}{hs:List Hn}(h:evOs os env=.ok (hs,e))(a:rsvs e hs=some xs)(b:f xs=some z)(k: .ok (z,e)=XV):svN f os env=XV:=by
 unfold svN;rw[h];show(opt (rsvs e hs)).bind _=_;rw[a];show(opt (f xs)).bind _=_;rw[b];exact k
theorem jQp{f:List D->Option D}{os:List Oe}{hs:List Hn}(h:evOs os env=.ok (hs,e))(a:yH hs e=.ok (xs,e1))(b:f xs=some z)(k: .ok (z,e1)=XV):svA f os env=XV:=by
 unfold svA;rw[h];show(yH hs e).bind _=_;rw[a];show(opt (f xs)).bind _=_;rw[b];exact k
theorem vQv{f:List D->Option (List D)}{os:List Oe}{hs:List Hn}{ds:List D}(h:evOs os env=.ok (hs,e))(a:yH hs e=.ok (xs,e1))(b:f xs=some ds)(k: .ok (.ow .lst (ds.map .fz),e1)=XE):eF f os env=XE:=by
 unfold eF;rw[h];show(yH hs e).bind _=_;rw[a];show(opt (f xs)).bind _=_;rw[b];exact k
theorem yI{ds:List D}(h:v env=.ok (d,e))(r:qXu d=some ds)(k: .ok (ds,e)=XI):iV v env=XI:=by
 unfold iV;rw[h];show(opt (qXu d)).bind _=_;rw[r];exact k
theorem qQn{f:List D->Option (List D)}{ds:List D}(h:evVs ss env=.ok (xs,e))(r:f xs=some ds)(k: .ok (ds,e)=XI):iL f ss env=XI:=by
 unfold iL;rw[h];show(opt (f xs)).bind _=_;rw[r];exact k
end
section
variable{env e e1:Ev}{F:Fn}{as:List Am}{hs:List Hn}{XE:Res (O×Ev)}{t0 t:List O×Ev}{args:Ev}{q:O×Ev}{os:List O}
theorem qN(h0:qV4 (wW as hs) env=some t0)(h1:qV4 (qQm as hs) t0.2=some t)(h2:qVi (wW as hs) t0.1 as hs t.1=some args)(a:F args=.ok q)(b:qXv as q.2=some os)(c:qW9 t0.1 q.1 os=true)(k: .ok (q.1,putS env (wW as hs) t0.1 (putS env (qQm as hs) os t.2))=XE):qQ6 F as hs env=XE:=by
 unfold qQ6;rw[h0];show(opt (qV4 (qQm as hs) t0.2)).bind _=_;rw[h1];show(opt (qVi (wW as hs) t0.1 as hs t.1)).bind _=_;rw[h2];show(F args).bind _=_;rw[a];show(opt (qXv as q.2)).bind _=_;rw[b];show cond (qW9 t0.1 q.1 os) _ _=_;grind
theorem vJ(h:evOs (as.map Am.o) env=.ok (hs,e))(k:qQ6 F as hs e=XE):qM F as env=XE:=by
 unfold qM;rw[h];exact k
theorem qVj{m:Str}(h:evO a0.o env=.ok (h0,e))(c:(qWi e h0 C m && (h0.st || (as.map Am.o).all Oe.isP))=true)(h2:evOs (as.map Am.o) e=.ok (hs,e1))(k:qQ6 F (a0::as) (h0::hs) e1=XE):j8 C m F a0 as env=XE:=by
 unfold j8;rw[h];show cond (qWi e h0 C m && (h0.st || (as.map Am.o).all Oe.isP)) ((evOs (as.map Am.o) e).bind _) _=_;rw[c,h2];exact k
theorem zJu{m:Str}(h:evO a0.o env=.ok (h0,e))(c:(qWi e h0 C m && (h0.st || (as.map Am.o).all Oe.isP))=true)(h2:evOs (as.map Am.o) e=.ok (hs,e1))(a:vXr hs=some (i,j))(k:vZ4 F (a0::as) (h0::hs) e1 i j=XE):qXy C m F a0 as env=XE:=by
 unfold qXy;rw[h];show cond (qWi e h0 C m && (h0.st || (as.map Am.o).all Oe.isP)) ((evOs (as.map Am.o) e).bind _) _=_;rw[c,h2];show(opt (vXr hs)).bind _=_;rw[a];exact k
theorem zJw{o:O}{q:O×Ev}(h:getE env i [j]=some o)(h2:qQ6 F as (hs.map (sbH i j (fzO o))) (setE env i [j] (.fz (fzO o)))=.ok q)(c:(stab env q.2 i [j] && ndO q.1 && (setE q.2 i [j] o).all ndS && isFz (getE q.2 i [j]) && dcFz o)=true)(k: .ok (q.1,setE q.2 i [j] o)=XE):vZ4 F as hs env i j=XE:=by
 unfold vZ4;rw[h];show(qQ6 F as (hs.map (sbH i j (fzO o))) (setE env i [j] (.fz (fzO o)))).bind _=_;rw[h2];show cond (stab env q.2 i [j] && ndO q.1 && (setE q.2 i [j] o).all ndS && isFz (getE q.2 i [j]) && dcFz o) _ _=_;rw[c];exact k
theorem vV3{q:O×Ev}{r:O×Ev}(h:evOs (as.map Am.o) env=.ok (hs,e))(h2:qQ6 F (.io e.length::as) (.p e.length []::hs) (e ++ [.s false (.ow (.obj C []) [])])=.ok (.fz .non,e1))(a:popL e1 e.length=some r)(k: .ok r=XE):qWg C F as env=XE:=by
 unfold qWg;rw[h];show(qQ6 F (.io e.length::as) (.p e.length []::hs) (e ++ [.s false (.ow (.obj C []) [])])).bind _=_;rw[h2];show opt (popL e1 e.length)=_;rw[a];exact k
end
section
variable{env e e1:Ev}{s k:SP}{a:SE}{v:SV}{i j:Nat}{π:List Nat}{o x:O}{os:List O}{XE:Res (O×Ev)}{X:Res Out}
theorem yQ{f:List O->O->Option (O×List O)}{os0:List O}{z:O×List O}(h:s env=some (.p i π))(h0:qZd env i π=some os0)(h1:a env=.ok (x,e))(h2:qZd e i π=some os)(c:stab env e i π=true)(b:f os x=some z)(k: .ok (z.1,setE e i π (.ow .lst z.2))=XE):eMu1 s a f env=XE:=by
 unfold eMu1;rw[h];show(opt (qZd env i π)).bind _=_;rw[h0];rw[h1];show(opt (qZd e i π)).bind _=_;rw[h2];show cond (stab env e i π) ((opt (f os x)).bind _) _=_;rw[c,b];exact k
theorem qYd{y:D}{key:Key}{q:List Key×List O}(h1:a env=.ok (x,e))(h:s e=some (.p i π))(h2:k e=some hk)(b:rsv e hk=some y)(d:qV7 y=some key)(f:qYz e i π=some q)(c:decide (q.2.length<=lim)=true)(w: .ok (.nx (setE e i π (putO q.1 q.2 key x)))=X):vQo s k a env=X:=by
 unfold vQo;rw[h1];show(opt (s e)).bind _=_;rw[h];show(opt (k e)).bind _=_;rw[h2];show(opt (rsv e hk)).bind _=_;rw[b];show(opt (qV7 y)).bind _=_;rw[d];show(opt (qYz e i π)).bind _=_;rw[f];show cond (decide (q.2.length<=lim)) _ _=_;rw[c];exact w
theorem vVl{o:Out}(h:vQo s k a env=.ok o)(w: .ok o=X):sPutA s k a env=X:=by
 unfold sPutA;rw[h];exact w
theorem vYb{y:D}{n:Int}(h1:a env=.ok (x,e))(h:s e=some (.p i π))(h2:k e=some hk)(b:rsv e hk=some y)(d:yJ y=some n)(f:qZd e i π=some os)(c:ixN os.length n=some j)(w: .ok (.nx (setE e i π (.ow .lst (os.set j x))))=X):sSetI s k a env=X:=by
 unfold sSetI;rw[h1];show(opt (s e)).bind _=_;rw[h];show(opt (k e)).bind _=_;rw[h2];show(opt (rsv e hk)).bind _=_;rw[b];show(opt (yJ y)).bind _=_;rw[d];show(opt (qZd e i π)).bind _=_;rw[f];show(opt (ixN os.length n)).bind _=_;rw[c];exact w
theorem vYc{cs:List Nat}{f:Str}{q:Nat×List Str×List O}{o' :O}(h1:a env=.ok (x,e))(h:s e=some (.p i π))(h2:qXw e i π=some q)(c:(cs.contains q.1 && decide (q.2.2.length<=999))=true)(b:vQp q.1 q.2.1 q.2.2 f x=some o')(w: .ok (.nx (setE e i π o'))=X):qQ3 cs f s a env=X:=by
 unfold qQ3;rw[h1];show(opt (s e)).bind _=_;rw[h];show(opt (qXw e i π)).bind _=_;rw[h2];show cond (cs.contains q.1 && decide (q.2.2.length<=999)) ((opt (vQp q.1 q.2.1 q.2.2 f x)).bind _) _=_;rw[c,b];exact w
end
theorem vX{a:SS}{d:D}{ds:List D}{e2:Ev}{X:Res Out}(h1:g d env=some e1)(h2:a e1=.ok (.nx e2))(k:forS g a ds e2=X):forS g a (d::ds) env=X:=by
 show(opt (g d env)).bind _=_;rw[h1];show(a e1).bind _=_;rw[h2];exact k
section
variable{env e e1 e2:Ev}{o:O}{d x y z:D}{h1 h2 h3:Hn}{oa ob:Oe}{XV:Res (D×Ev)}{XH:Res (Hn×Ev)}{f:D->D->Option D}{f1:D->Option D}
theorem vT(h:evO oa env=.ok (h1,e))(k:hnV e h1=XV):oV oa env=XV:=by
 cases oa with
 | p s=>
   change (opt (s env)).bind _=_ at h;show(opt (s env)).bind _=_;cases q:s env with
   |none=>rw[q]at h;cases h
   |some a=>rw[q]at h;cases h;exact k
 | v s=>
   change (s env).bind _=_ at h;show s env=_;cases q:s env with
   |no=>rw[q]at h;cases h
   |er C fs=>rw[q]at h;cases h
   |ok a=>rw[q]at h;cases h;exact k
theorem qW0{s:SP}(h:s env=some h1)(k: .ok (h1,env)=XH):evO (.p s) env=XH:=by
 show(opt (s env)).bind _=_;rw[h];exact k
theorem qYl{s:SP}(h:evO (.p s) env=.ok (h1,e)):s env=some h1/\e=env:=by
 change (opt (s env)).bind _=_ at h;cases q:s env with
 |none=>rw[q]at h;cases h
 |some a=>rw[q]at h;cases h;exact⟨rfl,rfl⟩
theorem zQ(h:evO oa env=.ok (h1,e))(h' :evO ob e=.ok (h2,e1))(c:(h1.st || ob.isP)=true)(a:rsv e1 h1=some x)(b:rsv e1 h2=some y)(g:f x y=some z)(k: .ok (.d z,e1)=XH):evO (o2 f oa ob) env=XH:=by
 cases oa with
 |v s=>exact zS (zVu h h' c a b g rfl) k
 | p s=>
   cases ob with
   |v t=>exact zS (zVu h h' c a b g rfl) k
   | p t=>
     obtain⟨i,rfl⟩:=qYl h;obtain⟨j,rfl⟩:=qYl h';refine qW0 (h1:=.d z) ?_ k;show(s _).bind _=_;grind
theorem zI(h:evO oa env=.ok (h1,e))(h' :evO ob e=.ok (h2,e1))(c:(h1.st || (oa.isP && ob.isP))=true)(r:rsv e1 h2=some y)(g:hnIx e1 y h1=some (.d z))(k: .ok (.d z,e1)=XH):evO (oIx oa ob) env=XH:=by
 have b:∀(f:h1.st=true),((evO oa env).bind fun r=>(evO ob r.2).bind fun a =>cond r.1.st ((opt (rsv a.2 a.1)).bind fun y=>(opt (hnIx a.2 y r.1)).bind fun h=>hnV a.2 h) .no)=.ok (z,e1):=fun f=>by
  rw[h];show(evO ob e).bind _=_;rw[h'];show cond h1.st ((opt (rsv e1 h2)).bind _) _=_;rw[f,r];show(opt (hnIx e1 y h1)).bind _=_;rw[g];rfl
 cases oa with
 |v s=>exact zS (b (by simpa[Oe.isP] using c)) k
 | p s=>
   cases ob with
   |v t=>exact zS (b (by simpa[Oe.isP] using c)) k
   | p t=>
     obtain⟨i,rfl⟩:=qYl h;obtain⟨j,rfl⟩:=qYl h';refine qW0 (h1:=.d z) ?_ k;grind
theorem jWc{os:List Oe}{g:List D->Option D}{hs:List Hn}(h:evOs os env=.ok (hs,e))(b:rsvs e hs=some xs)(c:g xs=some z)(k: .ok (.d z,e)=XH):evO (oL g os) env=XH:=by
 have f:=jQo h b c rfl;unfold oL;split
 ·rename_i s;change ((opt (s env)).bind _).bind _=_ at h;cases q:s env with
  |none=>rw[q]at h;cases h
  | some a=>
    rw[q]at h;change cond (a.st || ([]:List Oe).all Oe.isP) (Res.ok ([a],env)) Res.no=_ at h;cases w:(a.st || ([]:List Oe).all Oe.isP) with
    |false=>grind
    | true=>
      rw[w]at h;cases h;refine qW0 (h1:=.d z) ?_ k;rw[q];show(rsv env a).bind _=_;obtain⟨x,i,b⟩:=cU.mp b;cases b;grind
 ·exact zS f k
theorem vU{a:Res (List Hn×Ev)}(k: .ok ([],env)=a):evOs (([]:List Am).map Am.o) env=a:=k
theorem vY{s:SV}{hs:List Hn}{a:Res (List Hn×Ev)}(h:s env=.ok (d,e))(h2:evOs (as.map Am.o) e=.ok (hs,e1))(k: .ok (.d d::hs,e1)=a):evOs ((Am.v s::as).map Am.o) env=a:=yF (zS h rfl) rfl h2 k
theorem jQd{s:SP}{hs:List Hn}{a:Res (List Hn×Ev)}(h:s env=some h1)(c:(h1.st || (as.map Am.o).all Oe.isP)=true)(h2:evOs (as.map Am.o) env=.ok (hs,e1))(k: .ok (h1::hs,e1)=a):evOs ((Am.b s::as).map Am.o) env=a:=yF (qW0 h rfl) c h2 k
end
theorem yU{t:ST}{q:Ev}{ds:List D}{a:Res (O×Ev)}(h:it env=.ok (ds,e))(c:(vXv cs T n e.length && decide (ds.length<=lim))=true)(h2:jP g t el ds (capS cs .un e 0 n)=.ok (vs,q))(k: .ok (.ow .lst (vs.map .fz),putI cs 0 q (qV5 cs 0 n e))=a):compS n cs T it g t el env=a:=by
 unfold compS;rw[h];show cond (vXv cs T n e.length && decide (ds.length<=lim)) ((jP g t el ds (capS cs .un e 0 n)).bind _) _=_;rw[c,h2];exact k
theorem compL_ok{t:ST}(R:Ev->Prop)(p:D->Option D):∀{ds:List D} {env:Ev},(∀d e,d∈ds->R e->∃e1,g d e=some e1/\((∃e2 v b,t e1=.ok (true,e2)/\el e2=.ok (v,b)/\p d=some v/\R b)\/(∃e2,t e1=.ok (false,e2)/\p d=none/\R e2)))->R env->∃a,jP g t el ds env=.ok (ds.filterMap p,a)/\R a
 |[],env,_,r=>⟨env,rfl,r⟩
 | d::ds,env,h,r=>by
   obtain⟨e1,l,n⟩:=h d env (by simp) r;have m:=fun {env:Ev} (r:R env)=>compL_ok R p (fun d e o r=>h d e (aI _ o) r) (env:=env) r
   rcases n with⟨e2,v,b,c,q,f,i⟩|⟨e2,c,f,i⟩
   ·obtain⟨a,j,k⟩:=m i;refine⟨a,?_,k⟩;show(opt (g d env)).bind _=_;rw[l];show((t e1).ne).bind _=_;rw[c];show((el e2).ne).bind _=_;rw[q];show(jP g t el ds b).bind _=_;rw[j,cM,f];rfl
   ·obtain⟨a,j,k⟩:=m i;refine⟨a,?_,k⟩;show(opt (g d env)).bind _=_;rw[l];show((t e1).ne).bind _=_;rw[c];show jP g t el ds e2=_;rw[j,cM,f]
theorem compL_map(R:Ev->Prop)(p:D->D){ds:List D}(h:∀d e,d∈ds->R e->∃e1 c,g d e=some e1/\el e1=.ok (p d,c)/\R c)(r:R env):∃i,jP g bTrue el ds env=.ok (ds.map p,i)/\R i :=by
 obtain⟨i,a,b⟩:=compL_ok (g:=g) (t:=bTrue) (el:=el) R (fun d=>some (p d)) (fun d e j r=>by
  obtain⟨e1,c,k,l,m⟩:=h d e j r;exact⟨e1,k,.inl ⟨e1,p d,c,rfl,l,rfl,m⟩⟩) r
 refine⟨i,?_,b⟩;rw[a];congr 2;rw[List.filterMap_eq_map' (f:=p)]
theorem qVk:∀ds:List D,fzOs (ds.map .fz)=ds
 |[]=>rfl
 |d::ds=>by show fzO (.fz d)::fzOs (ds.map .fz)=_;rw[qVk ds];rfl
theorem vZ{k:Kd}(ds:List D):fzO (.ow k (ds.map .fz))=.nd k ds:=by show D.nd k (fzOs _)=_;rw[qVk]
theorem xC{t:ST}{q:Ev}{ds:List D}(h:it env=.ok (ds,e))(c:(vXv cs T n e.length && decide (ds.length<=lim))=true)(h2:jP g t el ds (capS cs .un e 0 n)=.ok (vs,q))(k: .ok (.nd .lst vs,putI cs 0 q (qV5 cs 0 n e))=XV):fzS (compS n cs T it g t el) env=XV:=jK (yU h c h2 rfl) (by rw[vZ];exact k)
theorem vV6{f:List D->Option (List D)}{os:List Oe}{hs:List Hn}{ds:List D}(h:evOs os env=.ok (hs,e))(a:yH hs e=.ok (xs,e1))(b:f xs=some ds)(k: .ok (.nd .lst ds,e1)=XV):fzS (eF f os) env=XV:=jK (vQv h a b rfl) (by rw[vZ];exact k)
theorem vJu{ds:List D}(h:evVs ss env=.ok (ds,e))(c:decide (ds.length<=1000)=true)(k: .ok (.nd .lst ds,e)=XV):fzS (eLst ss) env=XV:=jK (zV8 h c rfl) (by rw[vZ];exact k)
section
variable{env:Ev}{o:O}{d:D}{X:Res Out}{s t s1 s2:SS}{i:Nat}{a:SE}{b:ST}{q:Bool}
theorem zW6(h:b env=.ok (q,env))(k:cond q (sSeq s1 t env) (sSeq s2 t env)=X):sSeq (sIf b s1 s2) t env=X:=qG h k
theorem zZ3(h:a env=.ok (o,env))(k:t (env.set i (.s false o))=X):sSeq (sSet i a) t env=X:=qJ h k
theorem jZo{x:SV}{hs:List Hn}{a:Res (List Hn×Ev)}(h:x env=.ok (d,env))(h2:evOs (as.map Am.o) env=.ok (hs,e1))(k: .ok (.d d::hs,e1)=a):evOs ((Am.v x::as).map Am.o) env=a:=vY h h2 k
end
theorem jZp{d:D}{a:SE}{hs:List Hn}{b:Res (List Hn×Ev)}(h:fzS a env=.ok (d,e))(h2:evOs (as.map Am.o) e=.ok (hs,e1))(k: .ok (.d d::hs,e1)=b):evOs ((Am.v (fzS a)::as).map Am.o) env=b:=vY h h2 k
theorem fnx{a:Ev}{r:Res (O×Ev)}(h:F a =r)(e:args=a):F args=r:=by rw[e];exact h
theorem qWs{b:SS}{ds a :List D}{c:Ev}{r:Res Out}(h:forS g b a c =r)(h1:ds=a)(h2:e=c):forS g b ds e=r:=by rw[h1,h2];exact h
theorem zQk{o:O}(h:qM F as env=.ok (o,e))(k: .ok (fzO o,e)=XV):fzS (qM F as) env=XV:=jK h k
theorem qWe{s t:SS}{X:Res Out}(h:s env' =.ok (.nx e))(a:env=env')(k:t e=X):sSeq s t env=X:=by rw[a];exact jQ h k
theorem sAt{s:SS}{X:Res Out}(h:s env' =X)(a:env=env'):s env=X:=by rw[a];exact h
end DX
namespace FM
open PySem L2 DX FP PyProof.Rows
variable{α:Type}{q:OT×Sd}{ν:Nm}{env e:Ev}{no:O}{io:Bool}{x5 x7 x8 x9 x10 a:Slot}{f w:Str}{hk:Hn}{o':Os}
local macro_rules | `(tactic|array_get_dec)=>`(tactic|first
 |with_reducible refine' vW ?_ ?_
 |with_reducible refine' qXe ?_
 |((with_reducible refine' zW6 (q:=?q) ?h ?k);(case h=>rfl))
 |with_reducible refine' qG ?_ ?_
 |with_reducible refine' qI ?_
 |with_reducible refine' qJf ?_ ?_
 |((with_reducible refine' zZ3 (o:=?o) ?h ?k);(case h=>rfl))
 |with_reducible refine' qJ ?_ ?_
 |with_reducible refine' zX ?_ ?_
 |with_reducible refine' jQ ?_ ?_
 |with_reducible refine' v4 ?_ ?_
 |with_reducible refine' xR ?_ ?_
 |with_reducible refine' qWn ?_ ?_
 |with_reducible refine' wO ?_ ?_
 |with_reducible refine' zF ?_ ?_
 |((with_reducible refine' jE ?_ ?_);rfl)
 |((with_reducible refine' v6 ?_ ?_);rfl)
 |((with_reducible refine' jE ?_ ?_);assumption)
 |((with_reducible refine' v6 ?_ ?_);assumption)
 |with_reducible refine' jZp ?_ ?_ ?_
 |((with_reducible refine' jZo (d:=?d) ?h ?g ?k);(case h=>rfl))
 |with_reducible refine' vY ?_ ?_ ?_
 |with_reducible refine' jQd ?_ ?_ ?_ ?_
 |with_reducible refine' xC ?_ ?_ ?_ ?_
 |with_reducible refine' vV6 ?_ ?_ ?_ ?_
 |with_reducible refine' vJu ?_ ?_ ?_
 |with_reducible refine' zQk ?_ ?_
 |with_reducible refine' vJ ?_ ?_
 |with_reducible refine' qN ?_ ?_ ?_ ?_ ?_ ?_ ?_
 |with_reducible refine' qVj ?_ ?_ ?_ ?_
 |with_reducible refine' vV3 ?_ ?_ ?_ ?_
 |with_reducible refine' yI ?_ ?_ ?_
 |with_reducible refine' qQn ?_ ?_ ?_
 |rfl
 |with_reducible refine' wL ?_ ?_
 |with_reducible refine' jK ?_ ?_
 |with_reducible refine' j5 ?_ ?_ ?_
 |with_reducible refine' yR ?_ ?_
 |with_reducible refine' vQq ?_ ?_
 |with_reducible refine' not_of ?_ ?_
 |with_reducible refine' qVd ?_ ?_ ?_
 |with_reducible refine' zV8 ?_ ?_ ?_
 |with_reducible refine' vQ ?_ ?_ ?_
 |with_reducible refine' vT ?_ ?_
 |with_reducible refine' zS ?_ ?_
 |with_reducible refine' zQ ?_ ?_ ?_ ?_ ?_ ?_ ?_
 |with_reducible refine' zI ?_ ?_ ?_ ?_ ?_ ?_
 |with_reducible refine' jWc ?_ ?_ ?_ ?_
 |with_reducible refine' yF ?_ ?_ ?_ ?_
 |with_reducible refine' vQv ?_ ?_ ?_ ?_
 |with_reducible refine' jQp ?_ ?_ ?_ ?_
 |with_reducible refine' yQ ?_ ?_ ?_ ?_ ?_ ?_ ?_
 |with_reducible refine' vVl ?_ ?_
 |with_reducible refine' qYd ?_ ?_ ?_ ?_ ?_ ?_ ?_ ?_
 |with_reducible refine' vYc ?_ ?_ ?_ ?_ ?_ ?_
 |with_reducible refine' yU ?_ ?_ ?_ ?_)
inductive Sg where
 |add|sub|mul|eq|lt
def Sg.s:Sg->Str
 |.add =>"+" |.sub =>"-" |.mul =>"*" |.eq =>"=" |.lt =>"<"
noncomputable def okI(n:Int):Prop:=0<=n/\n<1000000000000

inductive OT where
 |num (n:Int)|slot (i:Int)|draw (i:Nat)
 |op (s:Sg) (a b:OT)|rest (a:OT) (n:Int)|field (a:OT) (x:Str)
 |ite (c a b:OT)|rcd (xs:List Str) (as:List OT)|bind (i:Int) (a b:OT)
mutual
def OT.d:OT->D
 |.num n=>.tup [.str "num",.int n]
 |.slot i=>.tup [.str "slot",.int i]
 |.draw i=>.tup [.str "draw",.int (i:Nat)]
 |.op s a b=>.tup [.str "op",.str s.s,a.d,b.d]
 |.rest a n=>.tup [.str "rest",a.d,.int n]
 |.field a x=>.tup [.str "field",a.d,.str x]
 |.ite c a b=>.tup [.str "if",c.d,a.d,b.d]
 |.rcd xs as=>.tup [.str "record",.tup (zipD (xs.map .str) (OT.ds as))]
 |.bind i a b=>.tup [.str "bind",.int i,a.d,b.d]
def OT.ds:List OT->List D
 |[]=> []
 |a::r=>a.d::OT.ds r
end
theorem vVq:∀as:List OT,OT.ds as=as.map OT.d
 |[]=>rfl
 |a::r=>by rw[OT.ds,vVq r];rfl
mutual
def OT.h:OT->Nat
 |.num _=>1
 |.slot _=>1
 |.draw _=>1
 |.op _ a b=>max a.h b.h+1
 |.rest a _=>a.h+1
 |.field a _=>a.h+1
 |.ite c a b=>max c.h (max a.h b.h)+1
 |.rcd _ as=>OT.hs as+1
 |.bind _ a b=>max a.h b.h+1
def OT.hs:List OT->Nat
 |[]=>0
 |a::r=>max a.h (OT.hs r)
end
mutual
noncomputable def OT.ok:OT->Prop
 |.num n=>okI n
 |.slot _=>True
 |.draw _=>True
 |.op _ a b=>a.ok/\b.ok
 |.rest a n=>a.ok/\0<n
 |.field a _=>a.ok
 |.ite c a b=>c.ok/\a.ok/\b.ok
 |.rcd xs as=>xs.length=as.length/\as.length<=6/\OT.oks as
 |.bind _ a b=>a.ok/\b.ok
noncomputable def OT.oks:List OT->Prop
 |[]=>True
 |a::r=>a.ok/\OT.oks r
end
noncomputable def drD(w:List (Int×Int)):D:=.nd .lst (w.map fun p=>.tup [.int p.1,.int p.2])
noncomputable abbrev Dw:=List (List (Int×Int))
noncomputable def drsD(dd:Dw):D:=.nd .lst (dd.map drD)

theorem qVa{lo:List O}{r:O}{os:List O}(h1:qYx r=true)(h2:flatOs os=true):qW9 lo r os=true:=by
 unfold qW9;rw[h1,h2];simp
theorem vKz(xs:List Str)(as:List OT)(hl:xs.length=as.length)(c:as.length<=6):qO [.s false (.fz (OT.rcd xs as).d)]=.ok (.ow .lst ((OT.ds as).map .fz),[.un]):=by
 obtain⟨n,a,b⟩:=compL_map (g:=gT 2 (gCn (gN 0) (gCn (gN 1) gNl))) (el:=oV (oN 1)) (fun e=>∃u v,e=[u,v]) (fun d=>(match d with|.nd .tup [_,y]=>y|_=>.non)) (ds:=zipD (xs.map .str) (OT.ds as)) (env:=[.un,.un]) (fun d e f h=>by
  obtain⟨i,j⟩:=List.mem_iff_getElem?.mp f;obtain⟨x,y,_,_,rfl⟩:=zipD_get j;obtain⟨u,v,rfl⟩:=h;exact⟨_,_,rfl,rfl,_,_,rfl⟩) ⟨_,_,rfl⟩
 obtain⟨u,v,rfl⟩:=b;have k:(zipD (xs.map D.str) (OT.ds as)).map (fun d=>(match d with|.nd .tup [_,y]=>y|_=>D.non))=OT.ds as:=by
  rw[vVq];clear a c;induction xs generalizing as with
  | nil=>cases as with
    |nil=>rfl
    |cons _ _=>cases hl
  | cons x xs ih=>cases as with
    |nil=>cases hl
    | cons a r=>
      show a.d::List.map _ (zipD (xs.map D.str) (r.map OT.d))=_;rw[ih r (by simpa using hl)];rfl
 rw[k]at a;have l:(zipD (xs.map D.str) (OT.ds as)).length <=6:=by
  rw[wF,vVq,aZ,aZ];omega
 have m:decide ((zipD (xs.map D.str) (OT.ds as)).length <=lim)=true:=decide_eq_true (aR l (by decide));show qO [.s false (.fz (.tup [.str "record",.tup (zipD (xs.map .str) (OT.ds as))]))]=_;generalize zipD (xs.map D.str) (OT.ds as)=zs at *;unfold qO;repeat' (first|array_get_dec|exact a|(show(true && decide (zs.length<=lim))=true;rw[m];rfl))

theorem qJ7(x n:D):qO [.s false (.fz (.tup [.str "rest",x,n]))]=.ok (.ow .lst [.fz x],[.un]):=by kernel_rfl
theorem qZ5(x n:D):qO [.s false (.fz (.tup [.str "field",x,n]))]=.ok (.ow .lst [.fz x],[.un]):=by kernel_rfl
theorem qKi(g x y:D):qO [.s false (.fz (.tup [.str "op",g,x,y]))]=.ok (.ow .lst [.fz x,.fz y],[.un]):=by kernel_rfl
section
variable{hl:List (Nat×Fn)}{dd:Dw}
noncomputable abbrev fz(d:D):Slot:=.s false (.fz d)
end

section
variable{κ α:Type}[DecidableEq κ]
def getA:List (κ×α)->κ->Option α
 |[],_=>none
 |p::r,k=>if p.1=k then some p.2 else getA r k
noncomputable def putA:List (κ×α)->κ->α->List (κ×α)
 |[],k,v=> [(k,v)]
 |p::r,k,v=>if p.1=k then(k,v)::r else p::putA r k v
theorem zY:∀{l:List (κ×α)} {i j:κ} {v:α},getA (putA l i v) j=if i=j then some v else getA l j
 |[],i,j,v=>rfl
 | p::r,i,j,v=>by
   unfold putA;by_cases h:p.1=i
   ·rw [if_pos h];show(if i=j then some v else getA r j)=if i=j then some v else(if p.1=j then some p.2 else getA r j)
    grind
   ·rw [if_neg h];show(if p.1=j then some p.2 else getA (putA r i v) j)=if i=j then some v else(if p.1=j then some p.2 else getA r j)
    rw[zY];grind
theorem j9:∀{l:List (κ×α)} {i:κ} {v:α},(putA l i v).length <=l.length+1
 |[],i,v=>by show 1<=0+1;omega
 | p::r,i,v=>by
   unfold putA;by_cases h:p.1=i
   ·rw[if_pos h];simp
   ·rw [if_neg h];have:=j9 (l:=r) (i:=i) (v:=v);simp only[aU];omega
noncomputable def qD(a:κ->Key)(l:List (κ×α)):List Key:=l.map fun p=>a p.1
variable{kx:κ->Key}(inj:∀a b,kx a=kx b->a=b)(dv:κ×α->D)
include inj in
theorem qWh:∀{l:List (κ×α)} {i:κ} {v:α},getA l i=some v->∃j,kidx (kx i) (qD kx l)=some j/\(l.map dv)[j]?=some (dv (i,v))/\(l.map fun p=>O.fz (dv p))[j]?=some (.fz (dv (i,v)))
 |[],i,v,e=>by cases e
 | p::r,i,v,e=>by
   unfold getA at e;by_cases z:p.1=i
   ·rw [if_pos z] at e;cases e;subst z;refine⟨0,?_,rfl,rfl⟩;show(if kx p.1=kx p.1 then some 0 else _)=_;rw[if_pos rfl]
   ·rw [if_neg z] at e;obtain⟨j,a,b,c⟩:=qWh e;refine⟨j+1,?_,b,c⟩;show(if kx p.1=kx i then some 0 else(kidx (kx i) (qD kx r)).map (· + 1))=_;rw[if_neg (fun q=>z (inj _ _ q)),a];rfl
include inj in
theorem qVr:∀{l:List (κ×α)} {i:κ},getA l i=none->kidx (kx i) (qD kx l)=none
 |[],i,e=>rfl
 | p::r,i,e=>by
   unfold getA at e;by_cases z:p.1=i
   ·rw[if_pos z]at e;cases e
   ·rw [if_neg z] at e;show(if kx p.1=kx i then some 0 else(kidx (kx i) (qD kx r)).map (· + 1))=_;rw[if_neg (fun q=>z (inj _ _ q)),qVr e];rfl
include inj in
theorem qY0{l:List (κ×α)}{i:κ}{v:α}:putO (qD kx l) (l.map fun p=>.fz (dv p)) (kx i) (.fz (dv (i,v)))=.ow (.dct (qD kx (putA l i v))) ((putA l i v).map fun p=>.fz (dv p)):=by
 have g:∀l:List (κ×α),(∀j,kidx (kx i) (qD kx l)=some j->qD kx (putA l i v)=qD kx l/\((putA l i v).map fun p=>O.fz (dv p))=(l.map fun p=>O.fz (dv p)).set j (.fz (dv (i,v))))/\(kidx (kx i) (qD kx l)=none->qD kx (putA l i v)=qD kx l ++ [kx i]/\((putA l i v).map fun p=>O.fz (dv p))=(l.map fun p=>O.fz (dv p)) ++ [.fz (dv (i,v))]):=by
  intro l;induction l with
  |nil=>exact⟨fun j h=>(by cases h),fun _=>⟨rfl,rfl⟩⟩
  | cons p r ih=>
    have e:kidx (kx i) (qD kx (p::r))=if kx p.1=kx i then some 0 else(kidx (kx i) (qD kx r)).map (· + 1):=rfl
    unfold putA;by_cases z:p.1=i
    ·have c :kx p.1=kx i:=by rw [z]
     rw[if_pos z,e,if_pos c];refine⟨fun j h=>?_,fun h=>(by cases h)⟩;cases h;exact⟨by show kx i::_=kx p.1::_;rw[z],rfl⟩
    ·have c :¬kx p.1=kx i:=fun q=>z (inj _ _ q)
     rw[if_neg z,e,if_neg c];refine⟨fun j h=>?_,fun h=>?_⟩
     ·cases q:kidx (kx i) (qD kx r) with
      |none=>rw[q]at h;cases h
      | some k=>
        rw[q]at h;cases h;obtain⟨a,b⟩:=ih.1 k q;exact⟨by show _::qD kx (putA r i v)=_;rw[a];rfl,by show _::((putA r i v).map fun p=>O.fz (dv p))=_;rw[b];rfl⟩
     ·cases q:kidx (kx i) (qD kx r) with
      |some k=>rw[q]at h;cases h
      | none=>
        obtain⟨a,b⟩:=ih.2 q;exact⟨by show _::qD kx (putA r i v)=_;rw[a];rfl,by show _::((putA r i v).map fun p=>O.fz (dv p))=_;rw[b];rfl⟩
 unfold putO;cases q:kidx (kx i) (qD kx l) with
 |some j=>obtain⟨a,b⟩:=(g l).1 j q;dsimp only;rw[a,b]
 |none=>obtain⟨a,b⟩:=(g l).2 q;dsimp only;rw[a,b]
end
theorem inr_inj:∀a b:Str,(Sum.inr a:Key)=Sum.inr b->a=b:=fun _ _ h=>Sum.inr.inj h
inductive Tm where
 |num (n:Int)|name (x:Str)|flip (a b:Int)|pick (ps:List (Int×Int))
 |op (s:Sg) (a b:Tm)|rest (a:Tm) (n:Int)|field (a:Tm) (x:Str)
 |ite (c a b:Tm)|rcd (xs:List Str) (as:List Tm)|call (f:Str) (as:List Tm)
abbrev prI(p:Int×Int):D:=.tup [.int p.1,.int p.2]
mutual
def Tm.d:Tm->D
 |.num n=>.tup [.str "num",.int n]
 |.name x=>.tup [.str "name",.str x]
 |.flip a b=>.tup [.str "flip",.int a,.int b]
 |.pick ps=>.tup [.str "pick",.tup (ps.map prI)]
 |.op s a b=>.tup [.str "op",.str s.s,a.d,b.d]
 |.rest a n=>.tup [.str "rest",a.d,.int n]
 |.field a x=>.tup [.str "field",a.d,.str x]
 |.ite c a b=>.tup [.str "if",c.d,a.d,b.d]
 |.rcd xs as=>.tup [.str "record",.tup (zipD (xs.map .str) (Tm.ds as))]
 |.call f as=>.tup [.str "call",.str f,.tup (Tm.ds as)]
def Tm.ds:List Tm->List D
 |[]=> []
 |a::r=>a.d::Tm.ds r
end
theorem qJd:∀as:List Tm,Tm.ds as=as.map Tm.d
 |[]=>rfl
 |a::r=>by rw[Tm.ds,qJd r];rfl
mutual
noncomputable def Tm.wf:Tm->Prop
 |.num _=>True
 |.name _=>True
 |.flip _ _=>True
 |.pick _=>True
 |.op _ a b=>a.wf/\b.wf
 |.rest a _=>a.wf
 |.field a _=>a.wf
 |.ite c a b=>c.wf/\a.wf/\b.wf
 |.rcd xs as=>xs.length=as.length/\as.length<=6/\Tm.wfs as
 |.call _ as=>as.length<=100/\Tm.wfs as
noncomputable def Tm.wfs:List Tm->Prop
 |[]=>True
 |a::r=>a.wf/\Tm.wfs r
end
structure Sd where
 dr:Dw
 sl:Int
 tm:Int
noncomputable abbrev Nm:=List (Str×Int)
noncomputable abbrev Hs:=List (Str×(List Str×Tm))
noncomputable abbrev nmv:Str×Int->D:=fun p=>.int p.2
noncomputable def rowD(p:Str×(List Str×Tm)):D:=.tup [.str "def",.str p.1,.tup (p.2.1.map .str),p.2.2.d]
noncomputable def nmD(ν:Nm):D:=.nd (.dct (qD Sum.inr ν)) (ν.map nmv)
noncomputable def opO(hs:Hs)(no:O)(st:List O)(s:Sd):O:=.ow (.obj 2 ["helpers","names","steps","draws","slots","terms"]) [.ow (.dct (qD Sum.inr hs)) (hs.map fun p=>.fz (rowD p)),no,.ow .lst st,.ow .lst (s.dr.map fun w=>.fz (drD w)),.fz (.int s.sl),.fz (.int s.tm)]
noncomputable def count(s:Sd):Res Sd:=if s.tm<600 then .ok {s with tm:=s.tm+1} else .er 25 []
noncomputable def qJg(w:List (Int×Int))(s:Sd):Res (OT×Sd):=if s.dr.length<60 then .ok (.draw s.dr.length,{s with dr:=s.dr ++ [w]}) else .er 25 []
noncomputable def qV6(R:Tm->Sd->Res (OT×Sd)):List Tm->Sd->Res (List OT×Sd)
 |[],s=>.ok ([],s)
 |t::r,s=>(R t s).bind fun q=>(qV6 R r q.2).bind fun z=>.ok (q.1::z.1,z.2)
noncomputable def zO(R:Tm->Sd->Res (OT×Sd)):List Str->List Tm->Sd->Nm->List (Int×OT)->Res (Nm×List (Int×OT)×Sd)
 |x::xs,t::ts,s,own,bs=>(count s).bind fun s=>(R t s).bind fun q=>zO R xs ts {q.2 with sl:=q.2.sl+1} (putA own x q.2.sl) (bs ++ [(q.2.sl,q.1)])
 |_,_,s,own,bs=>.ok (own,bs,s)
noncomputable def vQl(bs:List (Int×OT))(w:OT):OT:=bs.foldr (fun b w=>.bind b.1 b.2 w) w
noncomputable def qU(hs:Hs):Nat->Nm->Tm->Sd->Res (OT×Sd)
 | 0,_,_,_=>.no
 | h + 1,ν,t,s=>match t with
   | .call f as=>match getA hs f with
     |none=>.no
     |some p=>(zO (qU hs h ν) p.1 as s [] []).bind fun q=>(qU hs h q.1 p.2 q.2.2).bind fun w=>.ok (vQl q.2.1 w.1,w.2)
   |.num n=>(count s).bind fun s=>.ok (.num n,s)
   | .name x=>(count s).bind fun s=>match getA ν x with
     |none=>.no
     |some i=>.ok (.slot i,s)
   |.flip a b=>(count s).bind fun s=>qJg [(0,b - a),(1,a)] s
   |.pick ps=>(count s).bind fun s=>qJg ps s
   |.op g a b=>(count s).bind fun s=>(qU hs h ν a s).bind fun q=>(qU hs h ν b q.2).bind fun r=>.ok (.op g q.1 r.1,r.2)
   |.rest a n=>(count s).bind fun s=>(qU hs h ν a s).bind fun q=>.ok (.rest q.1 n,q.2)
   |.field a x=>(count s).bind fun s=>(qU hs h ν a s).bind fun q=>.ok (.field q.1 x,q.2)
   |.ite c a b=>(count s).bind fun s=>(qU hs h ν c s).bind fun p=>(qU hs h ν a p.2).bind fun q=>(qU hs h ν b q.2).bind fun r=>.ok (.ite p.1 q.1 r.1,r.2)
   |.rcd xs as=>(count s).bind fun s=>(qV6 (qU hs h ν) as s).bind fun q=>.ok (.rcd xs q.1,q.2)
section
variable{hs:Hs}{no:O}{st:List O}{s:Sd}
theorem zQw:vZ1 [2] "terms" (i2 fun i j=>i+j) (pOf (oN 0)) (oV (oC (.int 1))) [.s true (opO hs no st s)]=.ok (.nx [.s true (opO hs no st {s with tm:=s.tm+1})]):=by kernel_rfl
theorem zQv:oV (oGt (oFld [2] "terms" (oN 0)) (oC (.int 600))) [.s true (opO hs no st {s with tm:=s.tm+1})]=.ok (.bl (decide (600<s.tm+1)),[.s true (opO hs no st {s with tm:=s.tm+1})]):=by kernel_rfl
theorem wV(h:s.tm<600):zM [.s true (opO hs no st s)]=.ok (.fz .non,[.s true (opO hs no st {s with tm:=s.tm+1})]):=by
 have a :decide (600<s.tm+1)=false:=decide_eq_false (by omega);refine vW (qWe zQw rfl (v4 (j5 zQv rfl rfl) (v6 a rfl))) rfl
theorem vVt:vL [.s true (opO hs no st s)]=.ok (.fz (.int s.sl),[.s true (opO hs no st {s with sl:=s.sl+1})]):=by
 have:vL [.s true (opO hs no st s)]=.ok (.fz (.int (s.sl+1 - 1)),[.s true (opO hs no st {s with sl:=s.sl+1})]):=by kernel_rfl
 grind
theorem zWn(w:List (Int×Int))(h:s.dr.length<=1000):eMu1 (pOf (oFld [2] "draws" (oN 0))) (owS (oV (oN 1))) apF [.s true (opO hs no st s),.s false (.fz (drD w))]=.ok (.fz .non,[.s true (opO hs no st {s with dr:=s.dr ++ [w]}),.s false (.fz (drD w))]):=by
 have a:apF (s.dr.map fun w=>.fz (drD w)) (.fz (drD w))=some (.fz .non,(s.dr ++ [w]).map fun w=>.fz (drD w)):=by
  unfold apF;grind
 refine yQ (i:=0) (π:=[3]) (os0:=s.dr.map fun w=>.fz (drD w)) (x:=.fz (drD w)) (e:=[.s true (opO hs no st s),.s false (.fz (drD w))]) (os:=s.dr.map fun w=>.fz (drD w)) (by kernel_rfl) (by kernel_rfl) (by kernel_rfl) (by kernel_rfl) (by kernel_rfl) a rfl
theorem zWm(w:Dw)(x:D)(s:Sd)(e:s.dr=w):oV (oSub (oL lenD [(oFld [2] "draws" (oN 0))]) (oC (.int 1))) [.s true (opO hs no st s),.s false (.fz x)]=.ok (.int ((w.map fun w=>O.fz (drD w)).length - 1),[.s true (opO hs no st s),.s false (.fz x)]):=by
 subst e;have:(fzOs (s.dr.map fun w=>O.fz (drD w))).length =(s.dr.map fun w=>O.fz (drD w)).length :=by rw[qWz,aZ]
 have q:oV (oSub (oL lenD [(oFld [2] "draws" (oN 0))]) (oC (.int 1))) [.s true (opO hs no st s),.s false (.fz x)]=.ok (.int ((fzOs (s.dr.map fun w=>O.fz (drD w))).length - 1),[.s true (opO hs no st s),.s false (.fz x)]):=by kernel_rfl
 rw[q,this]
theorem zY9(x:D)(s:Sd):oV (oGt (oL lenD [(oFld [2] "draws" (oN 0))]) (oC (.int 60))) [.s true (opO hs no st s),.s false (.fz x)]=.ok (.bl (decide (60<(s.dr.length:Int))),[.s true (opO hs no st s),.s false (.fz x)]):=by
 have:(fzOs (s.dr.map fun w=>O.fz (drD w))).length =s.dr.length:=by rw[qWz,aZ,aZ]
 have q:oV (oGt (oL lenD [(oFld [2] "draws" (oN 0))]) (oC (.int 60))) [.s true (opO hs no st s),.s false (.fz x)]=.ok (.bl (decide (60<((fzOs (s.dr.map fun w=>O.fz (drD w))).length :Int))),[.s true (opO hs no st s),.s false (.fz x)]):=by kernel_rfl
 rw[q,this]
theorem vY7(w:List (Int×Int))(h:s.dr.length<60):xK [.s true (opO hs no st s),.s false (.fz (drD w))]=.ok (.fz (.int (s.dr.length:Nat)),[.s true (opO hs no st {s with dr:=s.dr ++ [w]}),.un]):=by
 have a :decide (60<((s.dr ++ [w]).length :Int))=false:=decide_eq_false (by simp;omega);have e:((((s.dr ++ [w]).map fun w=>O.fz (drD w)).length :Nat):Int) - 1=(s.dr.length:Nat):=by simp
 refine vW (zX (zWn w (by omega)) (qG (j5 (zY9 (drD w) {s with dr:=s.dr ++ [w]}) rfl rfl) (v6 a (qI (xR (wL (zWm (s.dr ++ [w]) (drD w) {s with dr:=s.dr ++ [w]} rfl) rfl) rfl))))) ?_
 rw[e];rfl
end

theorem qR{β:Type}{x:Res α}{f:α->Res β}{b:β}(h:x.bind f=.ok b):∃a,x=.ok a/\f a=.ok b:=by
 cases x with
 |ok a=>exact⟨a,rfl,h⟩
 |er C fs=>cases h
 |no=>cases h
theorem jY{s a :Sd}(h:count s=.ok a):s.tm<600/\a ={s with tm:=s.tm+1}:=by
 unfold count at h;grind
theorem qX2{w:List (Int×Int)}{s:Sd}(h:qJg w s=.ok q):s.dr.length<60/\q=(.draw s.dr.length,{s with dr:=s.dr ++ [w]}):=by
 unfold qJg at h;grind
theorem qXi(c x y:D):qO [.s false (.fz (.tup [.str "if",c,x,y]))]=.ok (.ow .lst [.fz c,.fz x,.fz y],[.un]):=by kernel_rfl
theorem zW0(g x y a b:D):v5 [.s false (.fz (.tup [.str "op",g,x,y])),.s false (.fz (.nd .lst [a,b]))]=.ok (.fz (.tup [.str "op",g,a,b]),[.un,.un]):=by kernel_rfl
theorem zZw(x y z a b c:D):v5 [.s false (.fz (.tup [.str "if",x,y,z])),.s false (.fz (.nd .lst [a,b,c]))]=.ok (.fz (.tup [.str "if",a,b,c]),[.un,.un]):=by kernel_rfl
theorem vKh(x n a:D):v5 [.s false (.fz (.tup [.str "rest",x,n])),.s false (.fz (.nd .lst [a]))]=.ok (.fz (.tup [.str "rest",a,n]),[.un,.un]):=by kernel_rfl
theorem vWv(x n a:D):v5 [.s false (.fz (.tup [.str "field",x,n])),.s false (.fz (.nd .lst [a]))]=.ok (.fz (.tup [.str "field",a,n]),[.un,.un]):=by kernel_rfl
theorem qKx(xs:List Str)(as:List Tm)(hl:xs.length=as.length)(c:as.length<=6):qO [.s false (.fz (Tm.rcd xs as).d)]=.ok (.ow .lst ((Tm.ds as).map .fz),[.un]):=by
 obtain⟨n,a,b⟩:=compL_map (g:=gT 2 (gCn (gN 0) (gCn (gN 1) gNl))) (el:=oV (oN 1)) (fun e=>∃u v,e=[u,v]) (fun d=>(match d with|.nd .tup [_,y]=>y|_=>.non)) (ds:=zipD (xs.map .str) (Tm.ds as)) (env:=[.un,.un]) (fun d e f h=>by
  obtain⟨i,j⟩:=List.mem_iff_getElem?.mp f;obtain⟨x,y,_,_,rfl⟩:=zipD_get j;obtain⟨u,v,rfl⟩:=h;exact⟨_,_,rfl,rfl,_,_,rfl⟩) ⟨_,_,rfl⟩
 obtain⟨u,v,rfl⟩:=b;have k:(zipD (xs.map D.str) (Tm.ds as)).map (fun d=>(match d with|.nd .tup [_,y]=>y|_=>D.non))=Tm.ds as:=by
  rw[qJd];clear a c;induction xs generalizing as with
  | nil=>cases as with
    |nil=>rfl
    |cons _ _=>cases hl
  | cons x xs ih=>cases as with
    |nil=>cases hl
    | cons a r=>
      show a.d::List.map _ (zipD (xs.map D.str) (r.map Tm.d))=_;rw[ih r (by simpa using hl)];rfl
 rw[k]at a;have l:(zipD (xs.map D.str) (Tm.ds as)).length <=6:=by
  rw[wF,qJd,aZ,aZ];omega
 have m:decide ((zipD (xs.map D.str) (Tm.ds as)).length <=lim)=true:=decide_eq_true (aR l (by decide));show qO [.s false (.fz (.tup [.str "record",.tup (zipD (xs.map .str) (Tm.ds as))]))]=_;generalize zipD (xs.map D.str) (Tm.ds as)=zs at *;unfold qO;repeat' (first|array_get_dec|exact a|(show(true && decide (zs.length<=lim))=true;rw[m];rfl))
theorem zZv(xs:List Str)(as:List Tm)(os:List OT)(hl:xs.length=as.length)(f:as.length<=6)(c:os.length=as.length):v5 [.s false (.fz (Tm.rcd xs as).d),.s false (.fz (.nd .lst (os.map OT.d)))]=.ok (.fz (OT.rcd xs os).d,[.un,.un]):=by
 obtain⟨w,a,b⟩:=compL_map (g:=gT 2 (gCn (gN 0) (gCn (gN 1) gNl))) (el:=svTup [(oV (oIx (oN 0) (oC (.int 0)))),(oV (oN 1))]) (fun e=>∃u v,e=[u,v]) (fun d=>(match d with|.nd .tup [.nd .tup (x::_),y]=>.tup [x,y]|_=>.non)) (ds:=zipD (zipD (xs.map .str) (Tm.ds as)) (os.map OT.d)) (env:=[.un,.un]) (fun d e h j=>by
  obtain⟨i,k⟩:=List.mem_iff_getElem?.mp h;obtain⟨p,y,m,_,rfl⟩:=zipD_get k;obtain⟨x,z,_,_,rfl⟩:=zipD_get m;obtain⟨u,v,rfl⟩:=j;exact⟨_,_,rfl,rfl,_,_,rfl⟩) ⟨_,_,rfl⟩
 obtain⟨u,v,rfl⟩:=b;have n:(zipD (zipD (xs.map D.str) (Tm.ds as)) (os.map OT.d)).map (fun d=>(match d with|.nd .tup [.nd .tup (x::_),y]=>D.tup [x,y]|_=>D.non))=zipD (xs.map .str) (OT.ds os):=by
  rw[qJd,vVq];clear a f;induction xs generalizing as os with
  |nil=>rfl
  | cons x xs ih=>cases as with
    |nil=>cases hl
    | cons a r=>cases os with
      |nil=>cases c
      | cons o os=>
        show D.tup [.str x,o.d]::List.map _ (zipD (zipD (xs.map D.str) (r.map Tm.d)) (os.map OT.d))=_;rw[ih r os (by simpa using hl) (by simpa using c)];rfl
 rw[n]at a;have l:(zipD (zipD (xs.map D.str) (Tm.ds as)) (os.map OT.d)).length <=6:=by
  rw[wF,wF,qJd,aZ,aZ];omega
 have q:decide ((zipD (zipD (xs.map D.str) (Tm.ds as)) (os.map OT.d)).length <=lim)=true:=decide_eq_true (aR l (by decide));have t:zpA [.tup (zipD (xs.map .str) (Tm.ds as)),.nd .lst (os.map OT.d)]=some (zipD (zipD (xs.map D.str) (Tm.ds as)) (os.map OT.d)):=rfl;show v5 [.s false (.fz (.tup [.str "record",.tup (zipD (xs.map .str) (Tm.ds as))])),.s false (.fz (.nd .lst (os.map OT.d)))]=.ok (.fz (.tup [.str "record",.tup (zipD (xs.map .str) (OT.ds os))]),[.un,.un]);generalize zipD (xs.map D.str) (Tm.ds as)=zs at *;unfold v5;repeat' (first|exact t|array_get_dec|exact a|(show(true && decide (_<=lim))=true;rw[q];rfl))
mutual
theorem jN:∀t:OT,vF t.d=true
 |.num n=>by rw[OT.d];rfl
 |.slot i=>by rw[OT.d];rfl
 |.draw i=>by rw[OT.d];rfl
 |.op g a b=>by rw[OT.d];show(true && (true && (vF a.d && (vF b.d && true))))=true;rw[jN a,jN b];rfl
 |.rest a n=>by rw[OT.d];show(true && (vF a.d && (true && true)))=true;rw[jN a];rfl
 |.field a x=>by rw[OT.d];show(true && (vF a.d && (true && true)))=true;rw[jN a];rfl
 |.ite c a b=>by rw[OT.d];show(true && (vF c.d && (vF a.d && (vF b.d && true))))=true;rw[jN c,jN a,jN b];rfl
 |.rcd xs as=>by rw[OT.d];show(true && (flatDs (zipD (xs.map .str) (OT.ds as)) && true))=true;rw[flat_ots xs as];rfl
 |.bind i a b=>by rw[OT.d];show(true && (true && (vF a.d && (vF b.d && true))))=true;rw[jN a,jN b];rfl
theorem flat_ots:∀(xs:List Str) (as:List OT),flatDs (zipD (xs.map .str) (OT.ds as))=true
 |[],_=>rfl
 |x::xs,[]=>by rw[OT.ds];rfl
 | x::xs,a::as=>by
   rw[OT.ds];show((true && (vF a.d && true)) && flatDs (zipD (xs.map .str) (OT.ds as)))=true;rw[jN a,flat_ots xs as];rfl
end
theorem qZv(t:OT):qYx (.fz t.d)=true:=jN t
theorem jZe{x:Str}{i:Int}(e:getA ν x=some i):ixD (nmD ν) (.str x)=some (.int i):=by
 obtain⟨j,a,b,_⟩:=qWh inr_inj nmv e;show(((some (Sum.inr x:Key)).bind fun k=>kidx k (qD Sum.inr ν)).bind fun j=>(ν.map nmv)[j]?)=_;rw[cW,a];exact b
theorem zYy{x:Str}{i:Int}(e:getA ν x=some i):hnIx env (.str x) (.d (nmD ν))=some (.d (.int i)):=by
 show(ixD (nmD ν) (.str x)).map Hn.d=_;rw[jZe e];rfl
theorem vJ7(a b:Int):qJn [.s false (.fz (.tup [.str "flip",.int a,.int b]))]=.ok (.ow .lst [.fz (prI (0,b - a)),.fz (prI (1,a))],[.un]):=by kernel_rfl
theorem vJ6(ps:List (Int×Int)):qJn [.s false (.fz (Tm.pick ps).d)]=.ok (.ow .lst ((ps.map prI).map .fz),[.un]):=by kernel_rfl
section
variable{hs:Hs}
noncomputable def qQw(hs:Hs)(h:Nat):Prop:=∀(ν:Nm) (t:Tm) (s:Sd) (no:O) (st:List O) (q:OT×Sd),t.wf->qU hs h ν t s=.ok q->
 F_Opener_open_term h [.s true (opO hs no st s),.s false (.fz t.d),.s false (.fz (nmD ν))]=.ok (.fz q.1.d,[.s true (opO hs no st q.2),.un,.un])
theorem open_loop{h:Nat}(b:qQw hs h){st:List O}:∀(ts:List Tm) (s:Sd) (q:List OT×Sd) (a k x5:Slot) (acc:List O),Tm.wfs ts->acc.length+ts.length<=1000->qV6 (qU hs h ν) ts s=.ok q->
  ∃y,forS (gN 5) (jM (F_Opener_open_term h)) (Tm.ds ts) [.s true (opO hs no st s),a,.s false (.fz (nmD ν)),k,.s false (.ow .lst acc),x5]=
   .ok (.nx [.s true (opO hs no st q.2),a,.s false (.fz (nmD ν)),k,.s false (.ow .lst (acc ++ q.1.map fun t=>.fz t.d)),y])
 | [],s,q,a,k,x5,acc,_,_,e=>by
   cases e;exact⟨x5,by rw[List.map_nil,cY];rfl⟩
 | t::ts,s,q,a,k,x5,acc,hw,hl,e=>by
   rw[Tm.wfs]at hw;obtain⟨v,c,e⟩:=qR e;obtain⟨r,f,e⟩:=qR e;cases e;rw[aU]at hl;have g:=b ν t s no st v hw.1 c;have i:apF acc (.fz v.1.d)=some (.fz .non,acc ++ [.fz v.1.d]):=by
    unfold apF;rw[decide_eq_true (show acc.length<=lim from aR (by omega) (show 1000<=1000000 by decide))];rfl
   obtain⟨y,j⟩:=open_loop b ts v.2 r a k (.s false (.fz t.d)) (acc ++ [.fz v.1.d]) hw.2 (by rw[aB];simp;omega) f;refine⟨y,?_⟩;rw[Tm.ds];refine vX rfl ?_ (j.trans ?_)
   ·unfold jM;repeat' (first|((with_reducible refine' fnx g ?_);rfl)|array_get_dec|exact i)
   ·rw[List.append_assoc];rfl
theorem vQ4{R:Tm->Sd->Res (OT×Sd)}:∀{ts:List Tm} {s:Sd} {q:List OT×Sd},qV6 R ts s=.ok q->q.1.length=ts.length
 |[],s,q,e=>by cases e;rfl
 | t::ts,s,q,e=>by
   obtain⟨v,b,e⟩:=qR e;obtain⟨r,a,e⟩:=qR e;cases e;simp[vQ4 a]
end

section
variable{hs:Hs}{h:Nat}
theorem zKa(ps:List (Int×Int)):fzO (.ow .lst ((ps.map prI).map .fz))=drD ps:=vZ _
set_option maxHeartbeats 400000 in
theorem qJk(ν:Nm)(t:Tm)(s:Sd)(no:O)(st:List O)(q:OT×Sd)(o:(∃n,t=.num n)\/(∃x,t=.name x)\/(∃a b,t=.flip a b)\/∃ps,t=.pick ps)(e:qU hs (h+1) ν t s=.ok q):
  F_Opener_open_term (h+1) [.s true (opO hs no st s),.s false (.fz t.d),.s false (.fz (nmD ν))]=.ok (.fz q.1.d,[.s true (opO hs no st q.2),.un,.un]):=by
 rcases o with⟨n,rfl⟩|⟨x,rfl⟩|⟨a,b,rfl⟩|⟨ps,rfl⟩
 ·obtain⟨j,f,e⟩:=qR (show(count s).bind _=_ from e);obtain⟨g,rfl⟩:=jY f;cases e;have c:=wV (hs:=hs) (no:=no) (st:=st) g;unfold F_Opener_open_term;repeat' (first|((with_reducible refine' fnx c ?_);rfl)|array_get_dec)
 ·obtain⟨j,f,e⟩:=qR (show(count s).bind _=_ from e);obtain⟨g,rfl⟩:=jY f;cases e2:getA ν x with
  |none=>rw[e2]at e;cases e
  | some i=>
    rw[e2]at e;cases e;have c:=wV (hs:=hs) (no:=no) (st:=st) g;unfold F_Opener_open_term;repeat' (first|((with_reducible refine' fnx c ?_);rfl)|array_get_dec|exact zYy e2)
 ·obtain⟨j,f,e⟩:=qR (show(count s).bind _=_ from e);obtain⟨g,rfl⟩:=jY f;obtain⟨k,rfl⟩:=qX2 e;have c:=wV (hs:=hs) (no:=no) (st:=st) g;have d:=vY7 (hs:=hs) (no:=no) (st:=st) (s:={s with tm:=s.tm+1}) [(0,b - a),(1,a)] k;have l:=vJ7 a b;unfold F_Opener_open_term;repeat' (first|((with_reducible refine' fnx c ?_);rfl)|((with_reducible refine' fnx d ?_);rfl)|((with_reducible refine' fnx l ?_);rfl)|array_get_dec)
 ·obtain⟨j,f,e⟩:=qR (show(count s).bind _=_ from e);obtain⟨g,rfl⟩:=jY f;obtain⟨k,rfl⟩:=qX2 e;have c:=wV (hs:=hs) (no:=no) (st:=st) g;have d:=vY7 (hs:=hs) (no:=no) (st:=st) (s:={s with tm:=s.tm+1}) ps k;have m :=d;rw[←zKa ps]at m;have l:=vJ6 ps;unfold F_Opener_open_term;repeat' (first|((with_reducible refine' fnx c ?_);rfl)|((with_reducible refine' fnx m ?_);rfl)|((with_reducible refine' fnx l ?_);rfl)|array_get_dec)
set_option maxHeartbeats 400000 in
theorem zYd(b:qQw hs h)(ν:Nm)(g:Sg)(x y:Tm)(s:Sd)(no:O)(st:List O)(q:OT×Sd)(a:(Tm.op g x y).wf)(e:qU hs (h+1) ν (.op g x y) s=.ok q):
  F_Opener_open_term (h+1) [.s true (opO hs no st s),.s false (.fz (Tm.op g x y).d),.s false (.fz (nmD ν))]=.ok (.fz q.1.d,[.s true (opO hs no st q.2),.un,.un]):=by
 rw[Tm.wf]at a;obtain⟨n,f,e⟩:=qR (show(count s).bind _=_ from e);obtain⟨i,rfl⟩:=jY f;obtain⟨v,j,e⟩:=qR e;obtain⟨r,k,e⟩:=qR e;cases e;have c:=wV (hs:=hs) (no:=no) (st:=st) i;have l:qV6 (qU hs h ν) [x,y] {s with tm:=s.tm+1}=.ok ([v.1,r.1],r.2):=by
  show(qU hs h ν x _).bind _=_;rw[j];show((qU hs h ν y v.2).bind _).bind _=_;rw[k];rfl
 obtain⟨z,m⟩:=open_loop b [x,y] _ _ (fz (Tm.op g x y).d) (fz (.str "op")) .un [] (by simp only[Tm.wfs];exact⟨a.1,a.2,trivial⟩) (by simp) l (no:=no) (st:=st);unfold F_Opener_open_term;repeat' (first|((with_reducible refine' fnx c ?_);rfl)|((with_reducible refine' fnx (qKi (.str g.s) x.d y.d) ?_);rfl)|((with_reducible refine' fnx (zW0 (.str g.s) x.d y.d v.1.d r.1.d) ?_);rfl)|(with_reducible refine' qWs m ?_ ?_)|array_get_dec|exact qVa (qZv (.op g v.1 r.1)) rfl)
set_option maxHeartbeats 400000 in
theorem zJo(b:qQw hs h)(ν:Nm)(c x y:Tm)(s:Sd)(no:O)(st:List O)(q:OT×Sd)(a:(Tm.ite c x y).wf)(e:qU hs (h+1) ν (.ite c x y) s=.ok q):
  F_Opener_open_term (h+1) [.s true (opO hs no st s),.s false (.fz (Tm.ite c x y).d),.s false (.fz (nmD ν))]=.ok (.fz q.1.d,[.s true (opO hs no st q.2),.un,.un]):=by
 rw[Tm.wf]at a;obtain⟨o,f,e⟩:=qR (show(count s).bind _=_ from e);obtain⟨g,rfl⟩:=jY f;obtain⟨u,i,e⟩:=qR e;obtain⟨v,j,e⟩:=qR e;obtain⟨r,k,e⟩:=qR e;cases e;have l:=wV (hs:=hs) (no:=no) (st:=st) g;have m:qV6 (qU hs h ν) [c,x,y] {s with tm:=s.tm+1}=.ok ([u.1,v.1,r.1],r.2):=by
  show(qU hs h ν c _).bind _=_;rw[i];show((qU hs h ν x u.2).bind _).bind _=_;rw[j];show(((qU hs h ν y v.2).bind _).bind _).bind _=_;rw[k];rfl
 obtain⟨z,n⟩:=open_loop b [c,x,y] _ _ (fz (Tm.ite c x y).d) (fz (.str "if")) .un [] (by simp only[Tm.wfs];exact⟨a.1,a.2.1,a.2.2,trivial⟩) (by simp) m (no:=no) (st:=st);unfold F_Opener_open_term;repeat' (first|((with_reducible refine' fnx l ?_);rfl)|((with_reducible refine' fnx (qXi c.d x.d y.d) ?_);rfl)|((with_reducible refine' fnx (zZw c.d x.d y.d u.1.d v.1.d r.1.d) ?_);rfl)|(with_reducible refine' qWs n ?_ ?_)|array_get_dec|exact qVa (qZv (.ite u.1 v.1 r.1)) rfl)
set_option maxHeartbeats 400000 in
theorem vK1(b:qQw hs h)(ν:Nm)(x:Tm)(n:Int)(s:Sd)(no:O)(st:List O)(q:OT×Sd)(a:(Tm.rest x n).wf)(e:qU hs (h+1) ν (.rest x n) s=.ok q):
  F_Opener_open_term (h+1) [.s true (opO hs no st s),.s false (.fz (Tm.rest x n).d),.s false (.fz (nmD ν))]=.ok (.fz q.1.d,[.s true (opO hs no st q.2),.un,.un]):=by
 rw[Tm.wf]at a;obtain⟨l,f,e⟩:=qR (show(count s).bind _=_ from e);obtain⟨g,rfl⟩:=jY f;obtain⟨v,i,e⟩:=qR e;cases e;have c:=wV (hs:=hs) (no:=no) (st:=st) g;have j:qV6 (qU hs h ν) [x] {s with tm:=s.tm+1}=.ok ([v.1],v.2):=by
  show(qU hs h ν x _).bind _=_;rw[i];rfl
 obtain⟨z,k⟩:=open_loop b [x] _ _ (fz (Tm.rest x n).d) (fz (.str "rest")) .un [] (by simp only[Tm.wfs];exact⟨a,trivial⟩) (by simp) j (no:=no) (st:=st);unfold F_Opener_open_term;repeat' (first|((with_reducible refine' fnx c ?_);rfl)|((with_reducible refine' fnx (qJ7 x.d (.int n)) ?_);rfl)|((with_reducible refine' fnx (vKh x.d (.int n) v.1.d) ?_);rfl)|(with_reducible refine' qWs k ?_ ?_)|array_get_dec|exact qVa (qZv (.rest v.1 n)) rfl)
set_option maxHeartbeats 400000 in
theorem vW8(b:qQw hs h)(ν:Nm)(x:Tm)(n:Str)(s:Sd)(no:O)(st:List O)(q:OT×Sd)(a:(Tm.field x n).wf)(e:qU hs (h+1) ν (.field x n) s=.ok q):
  F_Opener_open_term (h+1) [.s true (opO hs no st s),.s false (.fz (Tm.field x n).d),.s false (.fz (nmD ν))]=.ok (.fz q.1.d,[.s true (opO hs no st q.2),.un,.un]):=by
 rw[Tm.wf]at a;obtain⟨l,f,e⟩:=qR (show(count s).bind _=_ from e);obtain⟨g,rfl⟩:=jY f;obtain⟨v,i,e⟩:=qR e;cases e;have c:=wV (hs:=hs) (no:=no) (st:=st) g;have j:qV6 (qU hs h ν) [x] {s with tm:=s.tm+1}=.ok ([v.1],v.2):=by
  show(qU hs h ν x _).bind _=_;rw[i];rfl
 obtain⟨z,k⟩:=open_loop b [x] _ _ (fz (Tm.field x n).d) (fz (.str "field")) .un [] (by simp only[Tm.wfs];exact⟨a,trivial⟩) (by simp) j (no:=no) (st:=st);unfold F_Opener_open_term;repeat' (first|((with_reducible refine' fnx c ?_);rfl)|((with_reducible refine' fnx (qZ5 x.d (.str n)) ?_);rfl)|((with_reducible refine' fnx (vWv x.d (.str n) v.1.d) ?_);rfl)|(with_reducible refine' qWs k ?_ ?_)|array_get_dec|exact qVa (qZv (.field v.1 n)) rfl)
set_option maxHeartbeats 400000 in
theorem zJn(f:qQw hs h)(ν:Nm)(xs:List Str)(as:List Tm)(s:Sd)(no:O)(st:List O)(q:OT×Sd)(a:(Tm.rcd xs as).wf)(e:qU hs (h+1) ν (.rcd xs as) s=.ok q):
  F_Opener_open_term (h+1) [.s true (opO hs no st s),.s false (.fz (Tm.rcd xs as).d),.s false (.fz (nmD ν))]=.ok (.fz q.1.d,[.s true (opO hs no st q.2),.un,.un]):=by
 rw[Tm.wf]at a;obtain⟨p,g,e⟩:=qR (show(count s).bind _=_ from e);obtain⟨i,rfl⟩:=jY g;obtain⟨v,b,e⟩:=qR e;cases e;have c:=wV (hs:=hs) (no:=no) (st:=st) i;have j:=vQ4 b;obtain⟨z,l⟩:=open_loop f as _ v (fz (Tm.rcd xs as).d) (fz (.str "record")) .un [] a.2.2 (by simp;omega) b (no:=no) (st:=st);have m:=qKx xs as a.1 a.2.1;have n:fzO (.ow .lst ([] ++ v.1.map fun t=>.fz t.d))=.nd .lst (v.1.map OT.d):=by
  have:=vZ (k:=.lst) (v.1.map OT.d);rw[bL]at this;exact this
 have o:v5 [.s false (.fz (Tm.rcd xs as).d),.s false (.fz (fzO (.ow .lst ([] ++ v.1.map fun t=>.fz t.d))))]=.ok (.fz (OT.rcd xs v.1).d,[.un,.un]):=by rw[n];exact zZv xs as v.1 a.1 a.2.1 j
 unfold F_Opener_open_term;repeat' (first|((with_reducible refine' fnx c ?_);rfl)|((with_reducible refine' fnx m ?_);rfl)|((with_reducible refine' fnx o ?_);rfl)|(with_reducible refine' qWs l ?_ ?_)|array_get_dec|exact qVk _|exact qVa (qZv (.rcd xs v.1)) rfl)
end

section
variable{hs:Hs}{h:Nat}
noncomputable def bindO(bs:List (Int×OT)):List O:=bs.map fun b=>.fz (.tup [.int b.1,b.2.d])
theorem zK1(own:Nm):fzO (.ow (.dct (qD Sum.inr own)) (own.map fun p=>.fz (nmv p)))=nmD own:=by
 have:=vZ (k:=.dct (qD Sum.inr own)) (own.map nmv);rw[bL]at this;exact this
theorem jZc{own:Nm}{x:Str}{i:Int}{a:O}{x1 x2 x3:Slot}(e:getA own x=some i):oV (oIx (oN 4) (oN 6)) [.s io a,x1,x2,x3,.s false (.ow (.dct (qD Sum.inr own)) (own.map fun p=>.fz (nmv p))),x5,.s false (.fz (.str x)),x7,x8,x9,x10]=.ok (.int i,[.s io a,x1,x2,x3,.s false (.ow (.dct (qD Sum.inr own)) (own.map fun p=>.fz (nmv p))),x5,.s false (.fz (.str x)),x7,x8,x9,x10]):=by
 obtain⟨j,h1,_,b⟩:=qWh inr_inj nmv e;refine vT (h1:=.d (.int i)) (e:=[.s io a,x1,x2,x3,.s false (.ow (.dct (qD Sum.inr own)) (own.map fun p=>.fz (nmv p))),x5,.s false (.fz (.str x)),x7,x8,x9,x10]) ?_ rfl;refine zI (h1:=.p 4 []) (h2:=.d (.str x)) rfl rfl rfl (y:=.str x) rfl ?_ rfl;show(((some (Sum.inr x:Key)).bind fun k=>kidx k (qD Sum.inr own)).bind fun j=>((own.map fun p=>O.fz (nmv p))[j]?).bind fun o=>some (hnO o 4 ([] ++ [j])))=_;rw[cW,h1,cW,b];rfl
set_option maxHeartbeats 400000 in
theorem zQz(f:qQw hs h){own:Nm}{x:Str}{t:Tm}{s b:Sd}{st:List O}{bs:List (Int×OT)}{k3:Slot}(g:t.wf)(j:own.length<=1000)(hb:bs.length<=1000)(e1:count s=.ok b)(e2:qU hs h ν t b=.ok q):
  zE (F_Opener_open_term h) [.s true (opO hs no st s),a,.s false (.fz (nmD ν)),k3,.s false (.ow (.dct (qD Sum.inr own)) (own.map fun p=>.fz (nmv p))),.s false (.ow .lst (bindO bs)),.s false (.fz (.str x)),.s false (.fz t.d),x8,x9,x10]=
   .ok (.nx [.s true (opO hs no st {q.2 with sl:=q.2.sl+1}),a,.s false (.fz (nmD ν)),k3,.s false (.ow (.dct (qD Sum.inr (putA own x q.2.sl))) ((putA own x q.2.sl).map fun p=>.fz (nmv p))),.s false (.ow .lst (bindO (bs ++ [(q.2.sl,q.1)]))),.s false (.fz (.str x)),.s false (.fz t.d),.s false (.fz q.1.d),x9,x10]):=by
 obtain⟨k,rfl⟩:=jY e1;have c:=wV (hs:=hs) (no:=no) (st:=st) k;have l:=f ν t _ no st q g e2;have sl:=vVt (hs:=hs) (no:=no) (st:=st) (s:=q.2);have m:apF (bindO bs) (.fz (.tup [.int q.2.sl,q.1.d]))=some (.fz .non,bindO (bs ++ [(q.2.sl,q.1)])):=by
  unfold apF;rw[decide_eq_true (show(bindO bs).length <=lim by unfold bindO;rw[aZ];exact aR hb (show 1000<=1000000 by decide))];unfold bindO;rw[bF];rfl
 have n:decide ((own.map fun p=>O.fz (nmv p)).length <=lim)=true:=decide_eq_true (by rw[aZ];exact aR j (show 1000<=1000000 by decide))
 have put:sPutA (pOf (oN 4)) (pOf (oN 6)) (j8 2 "new_slot" vL (.io 0) []) [.s true (opO hs no st q.2),a,.s false (.fz (nmD ν)),k3,.s false (.ow (.dct (qD Sum.inr own)) (own.map fun p=>.fz (nmv p))),.s false (.ow .lst (bindO bs)),.s false (.fz (.str x)),.s false (.fz t.d),.s false (.fz q.1.d),x9,x10]=
   .ok (.nx [.s true (opO hs no st {q.2 with sl:=q.2.sl+1}),a,.s false (.fz (nmD ν)),k3,.s false (.ow (.dct (qD Sum.inr (putA own x q.2.sl))) ((putA own x q.2.sl).map fun p=>.fz (nmv p))),.s false (.ow .lst (bindO bs)),.s false (.fz (.str x)),.s false (.fz t.d),.s false (.fz q.1.d),x9,x10]):=by
  rw[←qY0 inr_inj nmv];repeat' (first|((with_reducible refine' fnx sl ?_);rfl)|array_get_dec|exact n)
 have r:getA (putA own x q.2.sl) x=some q.2.sl:=by rw[zY,if_pos rfl]
 unfold zE;refine zX (o:=.fz .non) (e:=[.s true (opO hs no st {s with tm:=s.tm+1}),a,.s false (.fz (nmD ν)),k3,.s false (.ow (.dct (qD Sum.inr own)) (own.map fun p=>.fz (nmv p))),.s false (.ow .lst (bindO bs)),.s false (.fz (.str x)),.s false (.fz t.d),x8,x9,x10]) ?_ ?_
 ·repeat' (first|((with_reducible refine' fnx c ?_);rfl)|array_get_dec)
 refine qJ (o:=.fz q.1.d) (e:=[.s true (opO hs no st q.2),a,.s false (.fz (nmD ν)),k3,.s false (.ow (.dct (qD Sum.inr own)) (own.map fun p=>.fz (nmv p))),.s false (.ow .lst (bindO bs)),.s false (.fz (.str x)),.s false (.fz t.d),x8,x9,x10]) ?_ ?_
 ·repeat' (first|((with_reducible refine' fnx l ?_);rfl)|array_get_dec)
 refine qWe put rfl ?_
 refine wO (yQ (i:=5) (π:=[]) (x:=.fz (.tup [.int q.2.sl,q.1.d])) rfl rfl (wL (qVd (vQ (jZc r) (vQ rfl (jW rfl) rfl) rfl) rfl rfl) rfl) rfl rfl m rfl) rfl
theorem call_loop(g:qQw hs h){no:O}{st:List O}{a k3 x9 x10:Slot}:∀(xs:List Str) (ts:List Tm) (s:Sd) (own:Nm) (bs:List (Int×OT)) (q:Nm×List (Int×OT)×Sd) (x6 x7 x8:Slot),Tm.wfs ts->own.length+ts.length<=1000->bs.length+ts.length<=1000->zO (qU hs h ν) xs ts s own bs=.ok q->
  ∃b c f,forS (gT 2 (gCn (gN 6) (gCn (gN 7) gNl))) (zE (F_Opener_open_term h)) (zipD (xs.map .str) (Tm.ds ts)) [.s true (opO hs no st s),a,.s false (.fz (nmD ν)),k3,.s false (.ow (.dct (qD Sum.inr own)) (own.map fun p=>.fz (nmv p))),.s false (.ow .lst (bindO bs)),x6,x7,x8,x9,x10]=
   .ok (.nx [.s true (opO hs no st q.2.2),a,.s false (.fz (nmD ν)),k3,.s false (.ow (.dct (qD Sum.inr q.1)) (q.1.map fun p=>.fz (nmv p))),.s false (.ow .lst (bindO q.2.1)),b,c,f,x9,x10])
 |[],ts,s,own,bs,q,x6,x7,x8,_,_,_,e=>by cases e;exact⟨x6,x7,x8,rfl⟩
 |x::xs,[],s,own,bs,q,x6,x7,x8,_,_,_,e=>by cases e;exact⟨x6,x7,x8,rfl⟩
 | x::xs,t::ts,s,own,bs,q,x6,x7,x8,hw,ho,hb,e=>by
   rw[aU]at ho hb;obtain⟨n,j,e⟩:=qR (show(count s).bind _=_ from e);obtain⟨v,k,e⟩:=qR e;have o:=j9 (l:=own) (i:=x) (v:=v.2.sl);obtain⟨b,c,f,m⟩:=call_loop g (x9:=x9) (x10:=x10) (a:=a) (k3:=k3) (no:=no) (st:=st) xs ts _ _ _ q (.s false (.fz (.str x))) (.s false (.fz t.d)) (.s false (.fz v.1.d)) hw.2 (by omega) (by rw[aB];simp;omega) e;refine⟨b,c,f,?_⟩;exact vX rfl (zQz g hw.1 (by omega) (by omega) j k) m
theorem wrap_loop{R:Fn}{a0 a1 a2 a3 a4 a5 a6 a7:Slot}:∀(bs:List (Int×OT)) (w:OT) (x8 x10:Slot),∃c a,forS (gT 2 (gCn (gN 10) (gCn (gN 8) gNl))) (xO R) (bs.map fun b=>.tup [.int b.1,b.2.d]) [a0,a1,a2,a3,a4,a5,a6,a7,x8,.s false (.fz w.d),x10]=
   .ok (.nx [a0,a1,a2,a3,a4,a5,a6,a7,c,.s false (.fz (bs.foldl (fun w b=>OT.bind b.1 b.2 w) w).d),a])
 |[],w,x8,x10=>⟨x8,x10,rfl⟩
 | b::bs,w,x8,x10=>by
   obtain⟨c,a,f⟩:=wrap_loop (R:=R) (a0:=a0) (a1:=a1) (a2:=a2) (a3:=a3) (a4:=a4) (a5:=a5) (a6:=a6) (a7:=a7) bs (.bind b.1 b.2 w) (.s false (.fz b.2.d)) (.s false (.fz (.int b.1)));refine⟨c,a,?_⟩;refine vX rfl ?_ f;exact qWn (o:=.fz (OT.bind b.1 b.2 w).d) (e:=[a0,a1,a2,a3,a4,a5,a6,a7,.s false (.fz b.2.d),.s false (.fz w.d),.s false (.fz (.int b.1))]) rfl rfl
noncomputable def okHs(hs:Hs):Prop:=∀p∈hs,p.2.2.wf
theorem okHs.get{p:List Str×Tm}(a:okHs hs)(e:getA hs f=some p):p.2.wf:=by
 induction hs with
 |nil=>cases e
 | cons q r ih=>
   unfold getA at e;by_cases z:q.1=f
   ·rw[if_pos z]at e;cases e;exact a q (by simp)
   ·rw[if_neg z]at e;exact ih (fun p b=>a p (aI _ b)) e
end

section
variable{hs:Hs}{h:Nat}
theorem zQf{p:List Str×Tm}{st:List O}{s:Sd}{as:List Tm}{x2 x3 x4 x6:Slot}(e:getA hs f=some p):oV (oIx (oFld [2] "helpers" (oN 0)) (oIx (oN 1) (oC (.int 1)))) [.s true (opO hs no st s),.s false (.fz (Tm.call f as).d),x2,x3,x4,x5,x6,x7,x8,x9,x10]=.ok (rowD (f,p),[.s true (opO hs no st s),.s false (.fz (Tm.call f as).d),x2,x3,x4,x5,x6,x7,x8,x9,x10]):=by
 obtain⟨j,h1,_,a⟩:=qWh inr_inj rowD e;refine vT (h1:=.d (rowD (f,p))) (e:=[.s true (opO hs no st s),.s false (.fz (Tm.call f as).d),x2,x3,x4,x5,x6,x7,x8,x9,x10]) ?_ rfl;refine zI (h1:=.p 0 [0]) (h2:=.d (.str f)) (e:=[.s true (opO hs no st s),.s false (.fz (Tm.call f as).d),x2,x3,x4,x5,x6,x7,x8,x9,x10]) (e1:=[.s true (opO hs no st s),.s false (.fz (Tm.call f as).d),x2,x3,x4,x5,x6,x7,x8,x9,x10]) (by kernel_rfl) (by kernel_rfl) rfl (y:=.str f) rfl ?_ rfl;show(((some (Sum.inr f:Key)).bind fun k=>kidx k (qD Sum.inr hs)).bind fun j=>((hs.map fun p=>O.fz (rowD p))[j]?).bind fun o=>some (hnO o 0 ([0] ++ [j])))=_;rw[cW,h1,cW,a];rfl
theorem vZk(u:okHs hs)(m:qQw hs h)(ν:Nm)(f:Str)(as:List Tm)(s:Sd)(no:O)(st:List O)(p:List Str×Tm)(q:Nm×List (Int×OT)×Sd)(w:OT×Sd)(n:(Tm.call f as).wf)(r:getA hs f=some p)(e1:zO (qU hs h ν) p.1 as s [] []=.ok q)(e2:qU hs h q.1 p.2 q.2.2=.ok w):
  wC (F_Opener_open_term h) [.s true (opO hs no st s),.s false (.fz (Tm.call f as).d),.s false (.fz (nmD ν))]=.ok (.fz (vQl q.2.1 w.1).d,[.s true (opO hs no st w.2),.un,.un]):=by
 rw[Tm.wf]at n;obtain⟨c,i,j,v⟩:=call_loop m (x9:=.un) (x10:=.un) (a:=.s false (.fz (Tm.call f as).d)) (k3:=.s false (.fz (rowD (f,p)))) (no:=no) (st:=st) p.1 as s [] [] q .un .un .un n.2 (by simp;omega) (by simp;omega) e1;have c2:=m q.1 p.2 q.2.2 no st w (u.get r) e2;have x :=c2;obtain⟨y,l,t⟩:=wrap_loop (R:=F_Opener_open_term h) (a0:=.s true (opO hs no st w.2)) (a1:=.s false (.fz (Tm.call f as).d)) (a2:=.s false (.fz (nmD ν))) (a3:=.s false (.fz (rowD (f,p)))) (a4:=.s false (.fz (nmD q.1))) (a5:=.s false (.fz (fzO (.ow .lst (bindO q.2.1))))) (a6:=c) (a7:=i) q.2.1.reverse w.1 j .un;have z:fzO (.ow .lst (bindO q.2.1))=.nd .lst (q.2.1.map fun b=>.tup [.int b.1,b.2.d]):=by
  have:=vZ (k:=.lst) (q.2.1.map fun b=>D.tup [.int b.1,b.2.d]);rw[bL]at this;exact this
 have A:(q.2.1.reverse.foldl (fun w b=>OT.bind b.1 b.2 w) w.1)=vQl q.2.1 w.1:=by
  unfold vQl;grind
 rw[A]at t;refine vW (o:=.rt (.fz (vQl q.2.1 w.1).d) [.s true (opO hs no st w.2),.s false (.fz (Tm.call f as).d),.s false (.fz (nmD ν)),.s false (.fz (rowD (f,p))),.s false (.fz (nmD q.1)),.s false (.fz (fzO (.ow .lst (bindO q.2.1)))),c,i,y,.un,l]) ?_ rfl;refine qJ (o:=.fz (rowD (f,p))) (wL (zQf r) rfl) ?_
 refine qJ (o:=.ow (.dct []) []) rfl ?_
 refine qJ (o:=.ow .lst []) rfl ?_
 refine jQ (zF (ds:=zipD (p.1.map .str) (Tm.ds as)) (qQn (xs:=[.tup (p.1.map .str),.tup (Tm.ds as)]) (vQ rfl (vQ rfl (jW rfl) rfl) rfl) rfl rfl) v) ?_
 refine qJ (o:=.fz w.1.d) (e:=[.s true (opO hs no st w.2),.s false (.fz (Tm.call f as).d),.s false (.fz (nmD ν)),.s false (.fz (rowD (f,p))),.s false (.fz (nmD q.1)),.s false (.ow .lst (bindO q.2.1)),c,i,j,.un,.un]) ?_ ?_
 ·refine qVj (h0:= .p 0 []) rfl (by kernel_rfl) (hs:=[.d p.2.d, .d (nmD q.1)]) (e1:=[.s true (opO hs no st q.2.2), .s false (.fz (Tm.call f as).d), .s false (.fz (nmD ν)), .s false (.fz (rowD (f,p))), .s false (.fz (nmD q.1)), .s false (.ow .lst (bindO q.2.1)),c,i,j, .un, .un]) ?_ ?_
  ·refine vY (d:=p.2.d) rfl (vY (d:=nmD q.1) (e:=[.s true (opO hs no st q.2.2), .s false (.fz (Tm.call f as).d), .s false (.fz (nmD ν)), .s false (.fz (rowD (f,p))), .s false (.fz (nmD q.1)), .s false (.ow .lst (bindO q.2.1)),c,i,j, .un, .un]) ?_ (vU rfl) rfl) rfl;have g:∀e:Ev,e=[.s true (opO hs no st q.2.2),.s false (.fz (Tm.call f as).d),.s false (.fz (nmD ν)),.s false (.fz (rowD (f,p))),.s false (.ow (.dct (qD Sum.inr q.1)) (q.1.map fun p=>.fz (nmv p))),.s false (.ow .lst (bindO q.2.1)),c,i,j,.un,.un]->oV (oN 4) e=.ok (nmD q.1,[.s true (opO hs no st q.2.2),.s false (.fz (Tm.call f as).d),.s false (.fz (nmD ν)),.s false (.fz (rowD (f,p))),.s false (.fz (nmD q.1)),.s false (.ow .lst (bindO q.2.1)),c,i,j,.un,.un]):=fun e B=>by
    rw[←zK1,B];rfl
   exact g _ rfl
  ·exact qN rfl rfl rfl c2 rfl rfl rfl
 have C:rvL [.nd .lst (q.2.1.map fun b=>.tup [.int b.1,b.2.d])]=some (q.2.1.reverse.map fun b=>D.tup [.int b.1,b.2.d]):=by
  show some (List.reverse _)=_;simp_all
 refine jQ (zF (ds:=q.2.1.reverse.map fun b=>D.tup [.int b.1,b.2.d]) (e:=[.s true (opO hs no st w.2),.s false (.fz (Tm.call f as).d),.s false (.fz (nmD ν)),.s false (.fz (rowD (f,p))),.s false (.fz (nmD q.1)),.s false (.fz (fzO (.ow .lst (bindO q.2.1)))),c,i,j,.s false (.fz w.1.d),.un]) (qQn (xs:=[.nd .lst (q.2.1.map fun b=>.tup [.int b.1,b.2.d])]) ?_ C rfl) t) ?_
 ·rw[←z];exact vQ rfl (jW rfl) rfl
 ·exact xR rfl rfl
theorem vYl(l:okHs hs):∀h:Nat,qQw hs h
 | 0=>fun ν t s d st q _ e=>by cases e
 | h + 1=>fun ν t s d st q j e=>by
   have k:=vYl l h;cases t with
   |num n=>exact qJk ν _ s d st q (.inl ⟨n,rfl⟩) e
   |name x=>exact qJk ν _ s d st q (.inr (.inl ⟨x,rfl⟩)) e
   |flip a b=>exact qJk ν _ s d st q (.inr (.inr (.inl ⟨a,b,rfl⟩))) e
   |pick ps=>exact qJk ν _ s d st q (.inr (.inr (.inr ⟨ps,rfl⟩))) e
   |op g x y=>exact zYd k ν g x y s d st q j e
   |rest x n=>exact vK1 k ν x n s d st q j e
   |field x n=>exact vW8 k ν x n s d st q j e
   |ite c x y=>exact zJo k ν c x y s d st q j e
   |rcd xs as=>exact zJn k ν xs as s d st q j e
   | call f as=>
     have i :(match getA hs f with|none=>Res.no|some p=>(zO (qU hs h ν) p.1 as s [] []).bind fun q=>(qU hs h q.1 p.2 q.2.2).bind fun w=>.ok (vQl q.2.1 w.1,w.2))=.ok q:=e;cases e0:getA hs f with
     |none=>rw[e0]at i;cases i
     | some p=>
       rw[e0]at i;obtain⟨r,m,i⟩:=qR i;obtain⟨w,o,i⟩:=qR i;cases i;have c:=vZk l k ν f as s d st p r w j e0 m o;unfold F_Opener_open_term;repeat' (first|((with_reducible refine' fnx c ?_);rfl)|array_get_dec)
end

noncomputable def Tm.parts:Tm->List Tm
 |.op _ a b=> [a,b]
 |.rest a _=> [a]
 |.field a _=> [a]
 |.ite c a b=> [c,a,b]
 |.rcd _ as=>as
 |.call _ as=>as
 |_=> []
theorem vQ2(n:D):qO [.s false (.fz (.tup [.str "num",n]))]=.ok (.ow .lst [],[.un]):=by kernel_rfl
theorem vW4(n:D):qO [.s false (.fz (.tup [.str "name",n]))]=.ok (.ow .lst [],[.un]):=by kernel_rfl
theorem vW5(a b:D):qO [.s false (.fz (.tup [.str "flip",a,b]))]=.ok (.ow .lst [],[.un]):=by kernel_rfl
theorem vW3(a:D):qO [.s false (.fz (.tup [.str "pick",a]))]=.ok (.ow .lst [],[.un]):=by kernel_rfl
theorem vW7(f:D)(ds:List D):qO [.s false (.fz (.tup [.str "call",f,.tup ds]))]=.ok (.ow .lst (ds.map .fz),[.un]):=by kernel_rfl
theorem zJm(t:Tm)(e:t.wf):qO [.s false (.fz t.d)]=.ok (.ow .lst ((Tm.ds t.parts).map .fz),[.un]):=by
 cases t with
 |num n=>exact vQ2 _
 |name x=>exact vW4 _
 |flip a b=>exact vW5 _ _
 |pick ps=>exact vW3 _
 |op g a b=>exact qKi _ _ _
 |rest a n=>exact qJ7 _ _
 |field a x=>exact qZ5 _ _
 |ite c a b=>exact qXi _ _ _
 |rcd xs as=>rw[Tm.wf]at e;exact qKx xs as e.1 e.2.1
 |call f as=>exact vW7 _ _
mutual
def Tm.h:Tm->Nat
 |.num _=>1
 |.name _=>1
 |.flip _ _=>1
 |.pick _=>1
 |.op _ a b=>max a.h b.h+1
 |.rest a _=>a.h+1
 |.field a _=>a.h+1
 |.ite c a b=>max c.h (max a.h b.h)+1
 |.rcd _ as=>Tm.hs as+1
 |.call _ as=>Tm.hs as+1
def Tm.hs:List Tm->Nat
 |[]=>0
 |a::r=>max a.h (Tm.hs r)
end
theorem zYb(t:Tm):Tm.hs t.parts+1<=t.h:=by
 cases t <;> simp only[Tm.parts,Tm.h,Tm.hs] <;> omega
theorem zJl(t:Tm)(h:t.wf):Tm.wfs t.parts:=by
 cases t <;> simp only[Tm.wf]at h⊢ <;> first|trivial|exact⟨h,trivial⟩|exact⟨h.1,h.2,trivial⟩|exact⟨h.1,h.2.1,h.2.2,trivial⟩|exact h.2.2|exact h.2
mutual
def chkT(kn:Str->Bool)(hl:Nm):Tm->Bool
 |.num _=>true
 |.name x=>kn x
 |.flip _ _=>true
 |.pick _=>true
 |.op _ a b=>chkT kn hl a && chkT kn hl b
 |.rest a _=>chkT kn hl a
 |.field a _=>chkT kn hl a
 |.ite c a b=>chkT kn hl c && (chkT kn hl a && chkT kn hl b)
 |.rcd _ as=>chkTs kn hl as
 |.call f as=>decide (getA hl f=some (as.length:Int)) && chkTs kn hl as
def chkTs(kn:Str->Bool)(hl:Nm):List Tm->Bool
 |[]=>true
 |a::r=>chkT kn hl a && chkTs kn hl r
end
theorem zQy{kn:Str->Bool}{hl:Nm}(t:Tm)(h:chkT kn hl t=true):chkTs kn hl t.parts=true:=by
 cases t <;> simp_all[Tm.parts,chkT,chkTs]
theorem jZn{hl:Nm}{n:Int}(h:getA hl f=some n):vXs e (Sum.inr f) (.d (nmD hl))=some (some (.int n)):=by
 obtain⟨j,a,b,_⟩:=qWh inr_inj nmv h;show(match kidx (Sum.inr f:Key) (qD Sum.inr hl) with|some j=>((hl.map nmv)[j]?).bind fun d=>some (some d)|none=>some none)=_;rw[a];show((hl.map nmv)[j]?).bind _=_;rw[b];rfl
section
variable{kn:Str->Bool}{hl:Nm}{nd r:D}
noncomputable def jQi(kn:Str->Bool)(hl:Nm)(nd r:D)(h:Nat):Prop:=∀t:Tm,t.h<=h->t.wf->chkT kn hl t=true->vI h [.s false (.fz r),.s false (.fz t.d),.s false (.fz nd),.s false (.fz (nmD hl))]=.ok (.fz .non,[.un,.un,.un,.un])
theorem chk_loop{h:Nat}(b:jQi kn hl nd r h){a k:Slot}:∀(ts:List Tm) (x5:Slot),Tm.hs ts<=h->Tm.wfs ts->chkTs kn hl ts=true->
  ∃y,forS (gN 5) (jL (vI h)) (Tm.ds ts) [.s false (.fz r),a,.s false (.fz nd),.s false (.fz (nmD hl)),k,x5]=.ok (.nx [.s false (.fz r),a,.s false (.fz nd),.s false (.fz (nmD hl)),k,y])
 |[],x5,_,_,_=>⟨x5,rfl⟩
 | t::ts,x5,lh,hw,hc=>by
   rw[Tm.hs]at lh;rw[Tm.wfs]at hw;rw[chkTs,aF]at hc;have c:=b t (by omega) hw.1 hc.1;obtain⟨y,e⟩:=chk_loop b (a:=a) (k:=k) ts (.s false (.fz t.d)) (by omega) hw.2 hc.2;refine⟨y,?_⟩;rw[Tm.ds];refine vX rfl ?_ e;unfold jL;repeat' (first|((with_reducible refine' fnx c ?_);rfl)|array_get_dec)
set_option maxHeartbeats 400000 in
theorem vWs(w:∀x,kn x=true->inB (.str x) nd=some true):∀h:Nat,jQi kn hl nd r h
 | 0=>fun t z _ _=>by
   exfalso
   cases t <;> simp only[Tm.h]at z <;> omega
 | h + 1=>fun t z A m=>by
   have B:=vWs w h
   have C:=zJm t A
   have J:=zYb t
   have p:∀a k u,∃y,forS (gN 5) (jL (vI h)) (Tm.ds t.parts) [.s false (.fz r),a,.s false (.fz nd),.s false (.fz (nmD hl)),k,u]=.ok (.nx [.s false (.fz r),a,.s false (.fz nd),.s false (.fz (nmD hl)),k,y]):=fun a k u=>chk_loop B t.parts u (by omega) (zJl t A) (zQy t m)
   have j:∀l:Str,(sIf (bAnd (asB (o2 eqF (oN 4) (oC (.str "name")))) (asB (o2 niD (oIx (oN 1) (oC (.int 1))) (oN 2)))) sNo sNil) [fz r,fz t.d,fz nd,fz (nmD hl),fz (.str l),.un]=.ok (.nx [fz r,fz t.d,fz nd,fz (nmD hl),fz (.str l),.un])->
     (sIf (bAnd (asB (o2 eqF (oN 4) (oC (.str "call")))) (asB (o2 neF (.v (vVj (pOf (oN 3)) (pOf (oIx (oN 1) (oC (.int 1)))))) (oL lenD [(oIx (oN 1) (oC (.int 2)))])))) sNo sNil) [fz r,fz t.d,fz nd,fz (nmD hl),fz (.str l),.un]=.ok (.nx [fz r,fz t.d,fz nd,fz (nmD hl),fz (.str l),.un])->
     oV (oIx (oN 0 |> fun _=>oN 1) (oC (.int 0))) [fz r,fz t.d,fz nd,fz (nmD hl),.un,.un]=.ok (.str l,[fz r,fz t.d,fz nd,fz (nmD hl),.un,.un])->vI (h+1) [.s false (.fz r),.s false (.fz t.d),.s false (.fz nd),.s false (.fz (nmD hl))]=.ok (.fz .non,[.un,.un,.un,.un]):=fun l D E F=>by
    obtain⟨y,G⟩:=p (fz t.d) (fz (.str l)) .un
    have b:sFor (iV (fzS (qM qO [(.v (oV (oN 1)))]))) (gN 5) (jL (vI h)) [fz r,fz t.d,fz nd,fz (nmD hl),fz (.str l),.un]=.ok (.nx [fz r,fz t.d,fz nd,fz (nmD hl),fz (.str l),y]):=by
     refine zF (ds:=Tm.ds t.parts) (e:=[fz r,fz t.d,fz nd,fz (nmD hl),fz (.str l),.un]) (yI (d:=.nd .lst (Tm.ds t.parts)) (jK (o:=.ow .lst ((Tm.ds t.parts).map .fz)) (vJ (vY rfl (vU rfl) rfl) (qN rfl rfl rfl C rfl rfl rfl)) (by rw[vZ];rfl)) rfl rfl) G
    unfold vI
    exact vW (qJ (wL F rfl) (qWe D rfl (qWe E rfl (sAt b rfl)))) rfl
   cases t with
   |num n=>exact j "num" rfl rfl rfl
   |flip a b=>exact j "flip" rfl rfl rfl
   |pick ps=>exact j "pick" rfl rfl rfl
   |op g a b=>exact j "op" rfl rfl rfl
   |rest a n=>exact j "rest" rfl rfl rfl
   |field a x=>exact j "field" rfl rfl rfl
   |ite c a b=>exact j "if" rfl rfl rfl
   |rcd xs as=>exact j "record" rfl rfl rfl
   | name x=>
     rw[chkT]at m
     have i:=w x m
     have H:niD (.str x) nd=some (.bl false):=by unfold niD;rw[i];rfl
     refine j "name" ?_ rfl rfl
     repeat' (first|array_get_dec|exact H)
   | call f as=>
     rw[chkT,aF]at m
     have g:=of_decide_eq_true m.1
     have ne:(!(((as.length:Nat):Int) == ((Tm.ds as).length :Nat)))=false:=by rw[qJd,aZ];simp
     refine j "call" rfl ?_ rfl
     have I:vVj (pOf (oN 3)) (pOf (oIx (oN 1) (oC (.int 1)))) [fz r,fz (Tm.call f as).d,fz nd,fz (nmD hl),fz (.str "call"),.un]=.ok (.int (as.length:Nat),[fz r,fz (Tm.call f as).d,fz nd,fz (nmD hl),fz (.str "call"),.un]):=by
      have:=jZn (e:=[fz r,fz (Tm.call f as).d,fz nd,fz (nmD hl),fz (.str "call"),.un]) g
      show(opt (vXs _ (Sum.inr f) (.d (nmD hl)))).bind _=_
      rw[this];rfl
     refine v4 (q:=false) (e:=[fz r,fz (Tm.call f as).d,fz nd,fz (nmD hl),fz (.str "call"),.un]) (yR (q:=true) (e:=[fz r,fz (Tm.call f as).d,fz nd,fz (nmD hl),fz (.str "call"),.un]) rfl ?_) rfl
     refine j5 (d:=.bl (!(((as.length:Nat):Int) == ((Tm.ds as).length :Nat)))) (vT (zQ (zS I rfl) rfl rfl rfl rfl rfl rfl) rfl) rfl ?_
     rw[ne]
end

inductive Rw where
 |df (f:Str) (ps:List Str) (b:Tm)|lt (x:Str) (t:Tm)|ag (n:Int) (x:Str) (t:Tm)|see (t:Tm)|ask (t:Tm)
noncomputable def Rw.d:Rw->D
 |.df f ps b=>rowD (f,(ps,b))
 |.lt x t=>.tup [.str "let",.str x,t.d]
 |.ag n x t=>.tup [.str "again",.int n,.str x,t.d]
 |.see t=>.tup [.str "see",t.d]
 |.ask t=>.tup [.str "ask",t.d]
noncomputable def Rw.t:Rw->Tm
 |.df _ _ b=>b
 |.lt _ t=>t
 |.ag _ _ t=>t
 |.see t=>t
 |.ask t=>t
noncomputable abbrev Kn:=List (Str×Unit)
noncomputable abbrev knv:Str×Unit->D:=fun _=>.bl true
noncomputable def knD(kn:Kn):D:=.nd (.dct (qD Sum.inr kn)) (kn.map knv)
noncomputable def knO(kn:Kn):O:=.ow (.dct (qD Sum.inr kn)) (kn.map fun p=>.fz (knv p))
noncomputable def nmO(ν:Nm):O:=.ow (.dct (qD Sum.inr ν)) (ν.map fun p=>.fz (nmv p))
theorem jJ1(kn:Kn):fzO (knO kn)=knD kn:=by
 have:=vZ (k:=.dct (qD Sum.inr kn)) (kn.map knv);rw[bL]at this;exact this
theorem vWk(ν:Nm):fzO (nmO ν)=nmD ν:=zK1 ν
noncomputable def qQ5(kn:Kn)(x:Str):Bool:=(getA kn x).isSome
theorem jZj{l:List (Str×α)}{ds:List D}{x:Str}:inB (.str x) (.nd (.dct (qD Sum.inr l)) ds)=some (getA l x).isSome :=by
 show some (kidx (Sum.inr x:Key) (qD Sum.inr l)).isSome =_;cases e:getA l x with
 |none=>rw[qVr inr_inj e];rfl
 | some v=>
   obtain⟨j,a,_⟩:=qWh inr_inj (fun _=>D.non) e;rw[a];rfl
theorem qKs:∀ps:List Str,allV (ps.map .str)=some (ps.map V.str)
 |[]=>rfl
 | p::ps=>by
   show((some (V.str p)).bind fun v=>(allV (ps.map .str)).bind fun a=>some (v::a))=_;rw[qKs ps];rfl
theorem vYs(x:Str):∀ps:List Str,x∈ps->inV (.str x) (ps.map V.str)=true
 |[],h=>by cases h
 | p::ps,h=>by
   unfold inV;simp only[aL,eY,Bool.or_eq_true];rcases aG.mp h with rfl|h
   ·left;show(x == x)=true;simp
   ·right;have:=vYs x ps h;unfold inV at this;exact this
theorem zYx{x:Str}{ps:List Str}(h:x∈ps):inB (.str x) (.tup (ps.map .str))=some true:=by
 show((some (V.str x)).bind fun v=>(allV (ps.map .str)).bind fun a=>some (inV v a))=_;rw[qKs];show some (inV (.str x) (ps.map V.str))=_;rw[vYs x ps h]
theorem putG{κ:Type}[DecidableEq κ]{c:κ->Key}(inj:∀a b,c a=c b->a=b){i:Nat}{k:SP}{a:SE}{x:κ}{y:D}{l:List (κ×α)}{v:α}{dv:κ×α->D}(h1:a env=.ok (.fz (dv (x,v)),e))(hs:e[i]?=some (.s io (.ow (.dct (qD c l)) (l.map fun p=>.fz (dv p)))))(h2:k e=some hk)(d:rsv e hk=some y)(f:qV7 y=some (c x))(hl:l.length<=1000):
  sPutA (pOf (oN i)) k a env=.ok (.nx (e.set i (.s io (.ow (.dct (qD c (putA l x v))) ((putA l x v).map fun p=>.fz (dv p)))))):=by
 have h:decide ((l.map fun p=>O.fz (dv p)).length <=lim)=true:=decide_eq_true (by rw[aZ];exact aR hl (show 1000<=1000000 by decide));have g:getE e i []=some (.ow (.dct (qD c l)) (l.map fun p=>.fz (dv p))):=by unfold getE;rw[hs];rfl
 refine vVl (o:=.nx (setE e i [] (putO (qD c l) (l.map fun p=>.fz (dv p)) (c x) (.fz (dv (x,v)))))) (qYd (i:=i) (π:=[]) (q:=(qD c l,l.map fun p=>.fz (dv p))) (key:=c x) h1 ?_ h2 d f ?_ h rfl) ?_
 ·show vXp i e=_;unfold vXp;rw[hs];rfl
 ·unfold qYz;rw[g]
 ·rw [qY0 inj dv];unfold setE;rw[hs];rfl
theorem vQ1{i:Nat}{k:SP}{a:SE}{x:Str}{l:List (Str×α)}{v:α}{dv:Str×α->D}(h1:a env=.ok (.fz (dv (x,v)),e))(hs:e[i]?=some (.s io (.ow (.dct (qD Sum.inr l)) (l.map fun p=>.fz (dv p)))))(h2:k e=some hk)(b:rsv e hk=some (.str x))(hl:l.length<=1000):
  sPutA (pOf (oN i)) k a env=.ok (.nx (e.set i (.s io (.ow (.dct (qD Sum.inr (putA l x v))) ((putA l x v).map fun p=>.fz (dv p)))))):=putG inr_inj h1 hs h2 b rfl hl
noncomputable def qY6(kn:Kn)(hl:Nm):Rw->Bool
 |.df f ps b=>(getA hl f).isNone && chkT (fun x=>decide (x∈ps)) hl b
 |.ag _ x t=>qQ5 kn x && chkT (qQ5 kn) hl t
 |.lt _ t=>chkT (qQ5 kn) hl t
 |.see t=>chkT (qQ5 kn) hl t
 |.ask t=>chkT (qQ5 kn) hl t
noncomputable def yL(kn:Kn):Rw->Kn
 |.lt x _=>putA kn x ()
 |_=>kn
noncomputable def qQu(hl:Nm):Rw->Nm
 |.df f ps _=>putA hl f ((ps.map D.str).length :Nat)
 |_=>hl
noncomputable def wR:List Rw->Kn->Nm->Bool
 |[],_,_=>true
 |r::rs,kn,hl=>qY6 kn hl r && wR rs (yL kn r) (qQu hl r)
section
variable{kn:Kn}{hl:Nm}{p:Slot}{i:Nat}
theorem zK2(x:Str)(h:qQ5 kn x=true):inB (.str x) (knD kn)=some true:=by
 unfold knD;rw[jZj];unfold qQ5 at h;rw[h]
noncomputable abbrev cE(p:Slot)(kn:Kn)(hl:Nm)(i:Nat)(d:D)(x5:Slot):Ev:=[p,.s false (knO kn),.s false (nmO hl),fz (.int (i:Nat)),fz d,x5]
end
theorem names_loop{p:Slot}:∀(rows:List Rw) (kn:Kn) (hl:Nm) (i:Nat) (x3 x4 x5:Slot),(∀r∈rows,r.t.wf/\r.t.h<=30)->kn.length+rows.length<=1000->hl.length+rows.length<=1000->wR rows kn hl=true->
  ∃e,forS (gT 2 (gCn (gN 3) (gCn (gN 4) gNl))) yV (j3 i (rows.map Rw.d)) [p,.s false (knO kn),.s false (nmO hl),x3,x4,x5]=.ok (.nx (p::e))/\e.length=5
 |[],kn,hl,i,x3,x4,x5,_,_,_,_=>⟨_,rfl,rfl⟩
 | r::rs,kn,hl,i,x3,x4,x5,k,h1,h2,a=>by
   change (qY6 kn hl r && wR rs (yL kn r) (qQu hl r))=true at a;rw[aF]at a;rw[aU]at h1 h2;obtain⟨g,j⟩:=k r (by simp);have E:(yL kn r).length <=kn.length+1:=by cases r <;> first|exact j9|(show kn.length<=_;omega)
   have G:(qQu hl r).length <=hl.length+1:=by cases r <;> first|exact j9|(show hl.length<=_;omega)
   have m:=fun {t:Tm} {d:D} {u:Str} (k:t.wf) (hb:t.h<=30) (a:chkT (qQ5 kn) hl t=true) (y:oV (oIx (oN 4) (o1 negD (oC (.int 1)))) (cE p kn hl i d (fz (.str u)))=.ok (t.d,cE p kn hl i d (fz (.str u))))=>by
    have c:=vWs (kn:=qQ5 kn) (hl:=hl) (nd:=knD kn) (r:=.int (i:Nat)) zK2 30 t hb k a;rw[←vWk,←jJ1]at c;exact vJ (F:=vI 30) (env:=cE p kn hl i d (fz (.str u))) (as:=[(.v (oV (oN 3))),(.v (oV (oIx (oN 4) (o1 negD (oC (.int 1)))))),(.b (pOf (oN 1))),(.b (pOf (oN 2)))]) (hs:=[.d (.int (i:Nat)),.d t.d,.p 1 [],.p 2 []]) (vY (d:=.int (i:Nat)) rfl (vY y rfl rfl) rfl) (qN rfl rfl rfl c rfl rfl rfl)
   have step:∃w,yV (cE p kn hl i r.d x5)=.ok (.nx (cE p (yL kn r) (qQu hl r) i r.d w)):=by
    cases r with
    | df f ps b=>
      have h:=a.1;change ((getA hl f).isNone && chkT (fun x=>decide (x∈ps)) hl b)=true at h;rw[aF]at h;have z:getA hl f=none:=by simpa using h.1
      have hk:(kidx (Sum.inr f:Key) (qD Sum.inr hl)).isSome =false:=by rw[qVr inr_inj z];rfl
      have c:=vWs (kn:=fun x=>decide (x∈ps)) (hl:=hl) (nd:=.tup (ps.map .str)) (r:=.int (i:Nat)) (fun x A=>zYx (of_decide_eq_true A)) 30 b j g h.2;rw[←vWk]at c;exact⟨fz (.str "def"),qJ (o:=.fz (.str "def")) rfl (v4 (q:=true) rfl (qG (q:=(kidx (Sum.inr f:Key) (qD Sum.inr hl)).isSome) rfl (v6 hk (qI (zX (e:=cE p kn hl i (Rw.df f ps b).d (fz (.str "def"))) (vJ (hs:=[.d (.int (i:Nat)),.d b.d,.d (.tup (ps.map .str)),.p 2 []]) rfl (qN rfl rfl rfl c rfl rfl rfl)) (vQ1 (α:=Int) (i:=2) (io:=false) (e:=cE p kn hl i (Rw.df f ps b).d (fz (.str "def"))) (l:=hl) (v:=((ps.map D.str).length :Nat)) (dv:=nmv) (hk:=.d (.str f)) rfl rfl rfl rfl (by omega)))))))⟩
    |lt x t=>exact⟨fz (.str "let"),qJ (o:=.fz (.str "let")) rfl (v4 (q:=false) rfl (qG (q:=false) rfl (qI (zX (m g j a.1 rfl) (v4 (q:=true) rfl (jE rfl (vQ1 (α:=Unit) (i:=1) (io:=false) (e:=cE p kn hl i (Rw.lt x t).d (fz (.str "let"))) (l:=kn) (v:=()) (dv:=knv) (hk:=.d (.str x)) rfl rfl rfl rfl (by omega))))))))⟩
    | ag n x t=>
      have h:=a.1;change (qQ5 kn x && chkT (qQ5 kn) hl t)=true at h;rw[aF]at h;have hk:(!(kidx (Sum.inr x:Key) (qD Sum.inr kn)).isSome)=false:=by
       have:=zK2 x h.1;change some (kidx (Sum.inr x:Key) (qD Sum.inr kn)).isSome =some true at this;rw[Option.some.inj this];rfl
      exact⟨_,qJ (o:=.fz (.str "again")) rfl (v4 (q:=false) rfl (qG (q:= !(kidx (Sum.inr x:Key) (qD Sum.inr kn)).isSome) rfl (v6 hk (qI (zX (m g j h.2 rfl) rfl)))))⟩
    |see t=>exact⟨_,qJ (o:=.fz (.str "see")) rfl (v4 (q:=false) rfl (qG (q:=false) rfl (qI (zX (m g j a.1 rfl) rfl))))⟩
    |ask t=>exact⟨_,qJ (o:=.fz (.str "ask")) rfl (v4 (q:=false) rfl (qG (q:=false) rfl (qI (zX (m g j a.1 rfl) rfl))))⟩
   obtain⟨w,hs⟩:=step;obtain⟨e,B,le⟩:=names_loop (p:=p) rs (yL kn r) (qQu hl r) (i+1) (fz (.int (i:Nat))) (fz r.d) w (fun q C=>k q (aI _ C)) (by omega) (by omega) a.2;exact⟨e,vX rfl hs B,le⟩
theorem zJs(a:List Rw)(b:∀r∈a,r.t.wf/\r.t.h<=30)(hl:a.length<=1000)(c:wR a [] []=true):xG [fz (.nd .lst (a.map Rw.d))]=.ok (.fz .non,[.un]):=by
 obtain⟨e,f,le⟩:=names_loop (p:=fz (.nd .lst (a.map Rw.d))) a [] [] 0 .un .un .un b (by simpa using hl) (by simpa using hl) c;unfold xG;refine vW (o:=.nx (fz (.nd .lst (a.map Rw.d))::e)) (qJ (o:=.ow (.dct []) []) rfl (qJ (o:=.ow (.dct []) []) rfl (zF (ds:=j3 0 (a.map Rw.d)) (qQn (xs:=[.nd .lst (a.map Rw.d)]) (vQ rfl (jW rfl) rfl) rfl rfl) f))) rfl
noncomputable def isDf:Rw->Bool
 |.df _ _ _=>true
 |_=>false
noncomputable def dfP:D->Option D
 |.nd .tup (.str k::r)=>if k="def" then some (.nd .tup (.str k::r)) else none
 |_=>none
theorem jWf(r:Rw):dfP r.d=if isDf r=true then some r.d else none:=by cases r <;> kernel_rfl
theorem zKb(c:List Rw)(hl:c.length<=1000)(h:(c.filter isDf).length <=3):yD [fz (.nd .lst (c.map Rw.d))]=.ok (.fz .non,[.un]):=by
 obtain⟨l,a,b⟩:=compL_ok (g:=gN 0) (t:=asB (o2 eqF (oIx (oN 0) (oC (.int 0))) (oC (.str "def")))) (el:=oV (oN 0)) (fun e=>∃u,e=[u]) dfP (ds:=c.map Rw.d) (env:=[.un]) (fun d e i j=>by
  obtain⟨u,rfl⟩:=j;obtain⟨r,_,rfl⟩:=cJ.mp i;refine⟨[fz r.d],rfl,?_⟩;cases r with
  |df f ps b=>exact .inl ⟨[fz (Rw.df f ps b).d],_,[fz (Rw.df f ps b).d],by kernel_rfl,rfl,rfl,_,rfl⟩
  |lt x t=>exact .inr ⟨[fz (Rw.lt x t).d],by kernel_rfl,rfl,_,rfl⟩
  |ag n x t=>exact .inr ⟨[fz (Rw.ag n x t).d],by kernel_rfl,rfl,_,rfl⟩
  |see t=>exact .inr ⟨[fz (Rw.see t).d],by kernel_rfl,rfl,_,rfl⟩
  |ask t=>exact .inr ⟨[fz (Rw.ask t).d],by kernel_rfl,rfl,_,rfl⟩) ⟨_,rfl⟩
 obtain⟨u,rfl⟩:=b;have m:((c.map Rw.d).filterMap dfP).length =(c.filter isDf).length :=by
  clear a h hl;induction c with
  |nil=>rfl
  | cons r rs ih=>
    rw[aL,cM,jWf,List.filter_cons];cases q:isDf r with
    |true=>rw[if_pos rfl,if_pos rfl];show _+1=_+1;rw[ih]
    |false=>rw[if_neg (by simp),if_neg (by simp)];exact ih
 have k:decide ((c.map Rw.d).length <=lim)=true:=decide_eq_true (by rw[aZ];exact aR hl (show 1000<=1000000 by decide));generalize ((c.map Rw.d).filterMap dfP)=fs at *;have o :decide ((3:Int)<(fs.length:Nat))=false:=decide_eq_false (by omega);unfold yD;generalize c.map Rw.d=ds at *;repeat' (first|array_get_dec|exact a|(show(true && decide (ds.length<=lim))=true;rw[k];rfl))

mutual
theorem qVl:∀{d:D},vF d=true->ndD d=true
 |.non,_=>rfl
 |.int _,_=>rfl
 |.str _,_=>rfl
 |.bl _,_=>rfl
 |.fn _,_=>rfl
 | .nd .tup ds,h=>by
   rw[ndD]
   ·exact flats_nd h
   ·intro _ z;cases z
   ·intro _ z;cases z
 |.nd .lst ds,h=>by cases h
 |.nd (.dct _) ds,h=>by cases h
 |.nd (.dcT _) ds,h=>by cases h
 |.nd (.obj _ _) ds,h=>by cases h
 |.nd (.exc _ _) ds,h=>by cases h
theorem flats_nd:∀{ds:List D},flatDs ds=true->ndDs ds=true
 |[],_=>rfl
 | d::ds,h=>by
   change (vF d && flatDs ds)=true at h;rw[aF]at h;show(ndD d && ndDs ds)=true;rw[qVl h.1,flats_nd h.2];rfl
end
theorem qXp:∀ps:List (Int×Int),flatDs (ps.map prI)=true
 |[]=>rfl
 |p::ps=>by show(vF (prI p) && flatDs (ps.map prI))=true;rw[qXp ps];rfl
theorem vQ8:∀ps:List Str,flatDs (ps.map .str)=true
 |[]=>rfl
 |p::ps=>by show(true && flatDs (ps.map .str))=true;rw[vQ8 ps];rfl
mutual
theorem jZ:∀t:Tm,vF t.d=true
 |.num n=>by rw[Tm.d];rfl
 |.name x=>by rw[Tm.d];rfl
 |.flip a b=>by rw[Tm.d];rfl
 |.pick ps=>by rw[Tm.d];show(true && (flatDs (ps.map prI) && true))=true;rw[qXp];rfl
 |.op g a b=>by rw[Tm.d];show(true && (true && (vF a.d && (vF b.d && true))))=true;rw[jZ a,jZ b];rfl
 |.rest a n=>by rw[Tm.d];show(true && (vF a.d && (true && true)))=true;rw[jZ a];rfl
 |.field a x=>by rw[Tm.d];show(true && (vF a.d && (true && true)))=true;rw[jZ a];rfl
 |.ite c a b=>by rw[Tm.d];show(true && (vF c.d && (vF a.d && (vF b.d && true))))=true;rw[jZ c,jZ a,jZ b];rfl
 |.rcd xs as=>by rw[Tm.d];show(true && (flatDs (zipD (xs.map .str) (Tm.ds as)) && true))=true;rw[flat_tmz xs as];rfl
 |.call f as=>by rw[Tm.d];show(true && (true && (flatDs (Tm.ds as) && true)))=true;rw[flat_tms as];rfl
theorem flat_tms:∀as:List Tm,flatDs (Tm.ds as)=true
 |[]=>by rw[Tm.ds];rfl
 |a::as=>by rw[Tm.ds];show(vF a.d && flatDs (Tm.ds as))=true;rw[jZ a,flat_tms as];rfl
theorem flat_tmz:∀(xs:List Str) (as:List Tm),flatDs (zipD (xs.map .str) (Tm.ds as))=true
 |[],_=>rfl
 |x::xs,[]=>by rw[Tm.ds];rfl
 | x::xs,a::as=>by
   rw[Tm.ds];show((true && (vF a.d && true)) && flatDs (zipD (xs.map .str) (Tm.ds as)))=true;rw[jZ a,flat_tmz xs as];rfl
end
theorem vJw(p:Str×(List Str×Tm)):vF (rowD p)=true:=by
 show(true && (true && (flatDs (p.2.1.map .str) && (vF p.2.2.d && true))))=true;rw[vQ8,jZ];rfl
theorem qZq{f:α->D}(h:∀a,ndD (f a)=true):∀l:List α,ndOs (l.map fun a=>.fz (f a))=true
 |[]=>rfl
 | a::l=>by
   show(ndD (f a) && ndOs (l.map fun a=>.fz (f a)))=true;rw[h,qZq h l];rfl
theorem jJz(w:List (Int×Int)):ndD (drD w)=true:=by
 unfold drD;rw[ndD]
 ·exact flats_nd (qXp w)
 ·grind
 ·grind
theorem jJy{hs:Hs}{st:List (Int×OT)}{s:Sd}:ndO (opO hs (nmO ν) (bindO st) s)=true:=by
 show(ndOs (hs.map fun p=>.fz (rowD p)) && (ndOs (ν.map fun p=>.fz (nmv p)) && (ndOs (bindO st) && (ndOs (s.dr.map fun w=>.fz (drD w)) && (true && (true && true))))))=true;rw[qZq (f:=rowD) fun p=>qVl (vJw p),qZq (f:=nmv) fun _=>rfl,qZq (f:=drD) jJz];unfold bindO;rw[qZq (f:=fun b:Int×OT=>D.tup [.int b.1,b.2.d]) fun b=>qVl (by show(true && (vF b.2.d && true))=true;rw[jN];rfl)];rfl
theorem jWg(ν:Nm):dcFz (nmO ν)=true:=by
 unfold nmO dcFz;grind
structure Os where
 hs:Hs
 ν:Nm
 st:List (Int×OT)
 s:Sd
noncomputable def Os.o(o:Os):O:=opO o.hs (nmO o.ν) (bindO o.st) o.s
noncomputable def yK(o:Os)(x:Str)(t:Tm):Res Os:=(qU o.hs 30 o.ν t o.s).bind fun q=>.ok {o with ν:=putA o.ν x q.2.sl,st:=o.st ++ [(q.2.sl,q.1)],s:={q.2 with sl:=q.2.sl+1}}
noncomputable def jO(x:Str)(t:Tm):Nat->Os->Res Os
 | 0,o=>.ok o
 |n+1,o=>(yK o x t).bind (jO x t n)
noncomputable def wN(o:Os):Rw->Res Os
 |.df f ps b=>.ok {o with hs:=putA o.hs f (ps,b)}
 |.lt x t=>yK o x t
 |.ag n x t=>jO x t n.toNat o
 |.see t=>(qU o.hs 30 o.ν t o.s).bind fun q=>.ok {o with st:=o.st ++ [(-1,q.1)],s:=q.2}
 |.ask t=>(qU o.hs 30 o.ν t o.s).bind fun q=>.ok {o with st:=o.st ++ [(q.2.sl,q.1)],s:={q.2 with sl:=q.2.sl+1}}
noncomputable def v8:List Rw->Os->Res Os
 |[],o=>.ok o
 |r::rs,o=>(wN o r).bind (v8 rs)
theorem qKr{st:List (Int×OT)}{i:Int}{t:OT}(h:st.length<=1000):apF (bindO st) (.fz (.tup [.int i,t.d]))=some (.fz .non,bindO (st ++ [(i,t)])):=by
 unfold apF;rw[decide_eq_true (show(bindO st).length <=lim by unfold bindO;rw[aZ];exact aR h (show 1000<=1000000 by decide))];unfold bindO;rw[bF];rfl
section
variable{o:Os}
theorem qKj(f:okHs o.hs){t:Tm}(g:t.wf)(e:qU o.hs 30 o.ν t o.s=.ok q){as:List Am}{rest:Ev}(h:rest.all ndS=true){a:SV}(ha:a (.s true o.o::rest)=.ok (t.d,.s true o.o::rest)):
  qXy 2 "open_term" (F_Opener_open_term 30) (.io 0) [.v a,(.b (pOf (oFld [2] "names" (oN 0))))] (.s true o.o::rest)=.ok (.fz q.1.d,.s true (opO o.hs (nmO o.ν) (bindO o.st) q.2)::rest):=by
 have c:=vYl f 30 o.ν t o.s (.fz (fzO (nmO o.ν))) (bindO o.st) q g e;rw[←vWk]at c;refine zJu (h0:=.p 0 []) (e:=.s true o.o::rest) (by kernel_rfl) (by kernel_rfl) (hs:=[.d t.d,.p 0 [1]]) (e1:=.s true o.o::rest) ?_ (i:=0) (j:=1) (by kernel_rfl) ?_
 ·exact vY ha (jQd (h1:=.p 0 [1]) (by kernel_rfl) (by kernel_rfl) (vU rfl) rfl) rfl
 ·refine zJw (o:=nmO o.ν) (q:=(.fz q.1.d, .s true (opO o.hs (.fz (fzO (nmO o.ν))) (bindO o.st) q.2)::rest)) (by kernel_rfl) ?_ ?_ (by kernel_rfl)
  ·exact qN rfl rfl rfl c rfl rfl rfl
  ·have k:stab (.s true o.o::rest) (.s true (opO o.hs (.fz (fzO (nmO o.ν))) (bindO o.st) q.2)::rest) 0 [1]=true:=by kernel_rfl
   have l:ndO (.fz q.1.d)=true:=qVl (jN q.1);have m:setE (.s true (opO o.hs (.fz (fzO (nmO o.ν))) (bindO o.st) q.2)::rest) 0 [1] (nmO o.ν)=.s true (opO o.hs (nmO o.ν) (bindO o.st) q.2)::rest:=by kernel_rfl
   have n:isFz (getE (.s true (opO o.hs (.fz (fzO (nmO o.ν))) (bindO o.st) q.2)::rest) 0 [1])=true:=by kernel_rfl
   dsimp only;rw[k,l,m,n,jWg,eB,h];show(true && true && (ndO (opO o.hs (nmO o.ν) (bindO o.st) q.2) && true) && true && true)=true;rw[jJy];rfl
theorem zJ1{hs:Hs}{st:List O}{s:Sd}{x:Str}{i:Int}{x2 x3:Slot}(e:getA ν x=some i):oV (oIx (oFld [2] "names" (oN 0)) (oN 1)) [.s true (opO hs (nmO ν) st s),fz (.str x),x2,x3]=.ok (.int i,[.s true (opO hs (nmO ν) st s),fz (.str x),x2,x3]):=by
 obtain⟨j,h1,_,a⟩:=qWh inr_inj nmv e;refine vT (h1:=.d (.int i)) (e:=[.s true (opO hs (nmO ν) st s),fz (.str x),x2,x3]) ?_ rfl;refine zI (h1:=.p 0 [1]) (h2:=.d (.str x)) (e:=[.s true (opO hs (nmO ν) st s),fz (.str x),x2,x3]) (e1:=[.s true (opO hs (nmO ν) st s),fz (.str x),x2,x3]) (by kernel_rfl) (by kernel_rfl) rfl (y:=.str x) rfl ?_ rfl;show(((some (Sum.inr x:Key)).bind fun k=>kidx k (qD Sum.inr ν)).bind fun j=>((ν.map fun p=>O.fz (nmv p))[j]?).bind fun o=>some (hnO o 0 ([1] ++ [j])))=_;rw[cW,h1,cW,a];rfl
theorem zZa(a:okHs o.hs){x:Str}{t:Tm}(b:t.wf)(c:o.ν.length<=1000)(hs:o.st.length<=1000)(e:yK o x t=.ok o'):jD [.s true o.o,fz (.str x),fz t.d]=.ok (.fz .non,[.s true o'.o,.un,.un]):=by
 obtain⟨q,e1,e⟩:=qR e;cases e;have f:decide ((o.ν.map fun p=>O.fz (nmv p)).length <=lim)=true:=decide_eq_true (by rw[aZ];exact aR c (show 1000<=1000000 by decide));have sl:=vVt (hs:=o.hs) (no:=nmO o.ν) (st:=bindO o.st) (s:=q.2);refine vW (o:=.nx [.s true (opO o.hs (nmO (putA o.ν x q.2.sl)) (bindO (o.st ++ [(q.2.sl,q.1)])) {q.2 with sl:=q.2.sl+1}),fz (.str x),fz t.d,fz q.1.d]) ?_ rfl;refine qJ (qKj a b e1 (rest:=[fz (.str x),fz t.d,.un]) (as:=[]) (by show(true && (ndD t.d && (true && true)))=true;rw[qVl (jZ t)];rfl) rfl) ?_
 refine jQ (e:=[.s true (opO o.hs (nmO (putA o.ν x q.2.sl)) (bindO o.st) {q.2 with sl:=q.2.sl+1}),fz (.str x),fz t.d,fz q.1.d]) ?_ ?_
 ·refine vVl (qYd (x:= .fz (.int q.2.sl)) (e:=[.s true (opO o.hs (nmO o.ν) (bindO o.st) {q.2 with sl:=q.2.sl + 1}),fz (.str x),fz t.d,fz q.1.d]) (i:=0) (π:=[1]) (hk:= .d (.str x)) (y:= .str x) (key:=Sum.inr x) (q:=(qD Sum.inr o.ν,o.ν.map fun p=> .fz (nmv p))) ?_ (by kernel_rfl) (by kernel_rfl) rfl rfl (by kernel_rfl) f rfl) ?_
  ·refine qVj (h0:= .p 0 []) (e:=[.s true (opO o.hs (nmO o.ν) (bindO o.st) q.2),fz (.str x),fz t.d,fz q.1.d]) (by kernel_rfl) (by kernel_rfl) (hs:=[]) (e1:=[.s true (opO o.hs (nmO o.ν) (bindO o.st) q.2),fz (.str x),fz t.d,fz q.1.d]) rfl ?_
   exact qN rfl rfl rfl sl rfl rfl rfl
  ·dsimp only;rw[qY0 inr_inj nmv (v:=q.2.sl)];rfl
 ·refine wO (yQ (i:=0) (π:=[2]) (os0:=bindO o.st) (os:=bindO o.st) (x:= .fz (.tup [.int q.2.sl,q.1.d])) (e:=[.s true (opO o.hs (nmO (putA o.ν x q.2.sl)) (bindO o.st) {q.2 with sl:=q.2.sl + 1}),fz (.str x),fz t.d,fz q.1.d]) (by kernel_rfl) (by kernel_rfl) ?_ (by kernel_rfl) (by kernel_rfl) (qKr hs) rfl) rfl;exact wL (qVd (vQ (zJ1 (by rw[zY,if_pos rfl])) (vQ rfl (jW rfl) rfl) rfl) rfl rfl) rfl
end

theorem vY2(r:Rw):vF r.d=true:=by
 cases r with
 |df f ps b=>exact vJw _
 |lt x t=>show(true && (true && (vF t.d && true)))=true;rw[jZ];rfl
 |ag n x t=>show(true && (true && (true && (vF t.d && true))))=true;rw[jZ];rfl
 |see t=>show(true && (vF t.d && true))=true;rw[jZ];rfl
 |ask t=>show(true && (vF t.d && true))=true;rw[jZ];rfl
section
variable{o:Os}
theorem xN{x:Str}{t:Tm}(e:yK o x t=.ok o'):o'.hs=o.hs/\o'.ν.length<=o.ν.length+1/\o'.st.length=o.st.length+1:=by
 obtain⟨q,a,e⟩:=qR e;cases e;exact⟨rfl,j9,by simp⟩
theorem times_ok{x:Str}{t:Tm}{n:Int}{k:Slot}(b:t.wf):∀(ds:List D) (o o' :Os) (x3 x4:Slot),okHs o.hs->o.ν.length+ds.length<=1000->o.st.length+ds.length<=1000->jO x t ds.length o=.ok o' ->
  ∃a,forS (gN 3) yX ds [.s true o.o,fz (Rw.ag n x t).d,k,x3,x4]=.ok (.nx [.s true o'.o,fz (Rw.ag n x t).d,k,a,x4])
 |[],o,o',x3,x4,_,_,_,e=>by cases e;exact⟨x3,rfl⟩
 | d::ds,o,o',x3,x4,hh,h1,h2,e=>by
   obtain⟨o1,e1,e⟩:=qR (show(yK o x t).bind _=_ from e);obtain⟨f,i2,h⟩:=xN e1;rw[aU]at h1 h2;have c:=zZa hh b (by omega) (by omega) e1;obtain⟨a,g⟩:=times_ok (n:=n) (k:=k) b ds o1 o' (fz d) x4 (by rw[f];exact hh) (by omega) (by omega) e;refine⟨a,vX (e1:=[.s true o.o,fz (Rw.ag n x t).d,k,fz d,x4]) (e2:=[.s true o1.o,fz (Rw.ag n x t).d,k,fz d,x4]) rfl ?_ g⟩;refine wO (o:=.fz .non) (qVj (h0:=.p 0 []) (e:=[.s true o.o,fz (Rw.ag n x t).d,k,fz d,x4]) (by kernel_rfl) (by kernel_rfl) (hs:=[.d (.str x),.d t.d]) (e1:=[.s true o.o,fz (Rw.ag n x t).d,k,fz d,x4]) (by kernel_rfl) ?_) rfl;exact qN rfl rfl rfl c rfl rfl rfl
noncomputable def vQr(r:Rw):Prop:=r.t.wf/\r.t.h<=30/\∀n x t,r=.ag n x t->0<=n/\n<=100
theorem qZt(r:Rw)(b:Str)(x2 x3 x4:Slot)(a:O)(hk:∃l,r.d=.tup (.str b::l)):(sSet 2 (owS (oV (oIx (oN 1) (oC (.int 0)))))) [.s true a,fz r.d,x2,x3,x4]=.ok (.nx [.s true a,fz r.d,fz (.str b),x3,x4]):=by
 obtain⟨l,e⟩:=hk;rw[e];have i:ixN ((.str b::l:List D).length) 0=some 0:=by unfold ixN;simp
 refine qWn (o:=.fz (.str b)) (wL (vT (zI (h1:=.d (.tup (.str b::l))) (h2:=.d (.int 0)) rfl rfl rfl rfl ?_ rfl) rfl) rfl) rfl;show((ixN ((.str b::l:List D).length) 0).bind fun j=>(.str b::l:List D)[j]?).map Hn.d=_;rw[i];rfl
noncomputable abbrev wE(o:Os)(r:Rw)(k:Str):Ev:=[.s true o.o,fz r.d,fz (.str k),.un,.un]
theorem jQx(a:okHs o.hs)(r:Rw)(j:vQr r)(C:o.ν.length<=900)(hs:o.st.length<=900)(l:o.hs.length<=900)(e:wN o r=.ok o'):jC [.s true o.o,fz r.d]=.ok (.fz .non,[.s true o'.o,.un]):=by
 obtain⟨g,D,m⟩:=j;unfold jC;cases r with
 | df f ps b=>
   cases e;have u:decide ((o.hs.map fun p=>O.fz (rowD p)).length <=lim)=true:=decide_eq_true (by rw[aZ];exact aR l (show 900<=1000000 by decide));refine vW (o:=.nx [.s true (opO (putA o.hs f (ps,b)) (nmO o.ν) (bindO o.st) o.s),fz (Rw.df f ps b).d,fz (.str "def"),.un,.un]) (qWe (qZt (.df f ps b) "def" .un .un .un o.o ⟨_,rfl⟩) rfl ?_) rfl;refine v4 (q:=true) (e:=(wE o (.df f ps b) "def")) (by kernel_rfl) (jE rfl ?_);refine vVl (qYd (x:=.fz (rowD (f,(ps,b)))) (e:=(wE o (.df f ps b) "def")) (i:=0) (π:=[0]) (hk:=.d (.str f)) (y:=.str f) (key:=Sum.inr f) (q:=(qD Sum.inr o.hs,o.hs.map fun p=>.fz (rowD p))) (by kernel_rfl) (by kernel_rfl) (by kernel_rfl) rfl rfl (by kernel_rfl) u rfl) ?_
   dsimp only;rw[qY0 inr_inj rowD (v:=(ps,b))];rfl
 | lt x t=>
   have c:=zZa a g (by omega) (by omega) e;refine vW (o:=.nx [.s true o'.o,fz (Rw.lt x t).d,fz (.str "let"),.un,.un]) (qWe (qZt (.lt x t) "let" .un .un .un o.o ⟨_,rfl⟩) rfl ?_) rfl;refine v4 (q:=false) (e:=(wE o (.lt x t) "let")) (by kernel_rfl) (v6 rfl ?_);refine v4 (q:=true) (e:=(wE o (.lt x t) "let")) (by kernel_rfl) (jE rfl ?_);refine wO (o:=.fz .non) (qVj (h0:=.p 0 []) (e:=(wE o (.lt x t) "let")) (by kernel_rfl) (by kernel_rfl) (hs:=[.d (.str x),.d t.d]) (e1:=(wE o (.lt x t) "let")) (by kernel_rfl) ?_) rfl;exact qN rfl rfl rfl c rfl rfl rfl
 | ag n x t=>
   obtain⟨E,F⟩:=m n x t rfl;have w:rg1 [.int n]=some (rngD 0 n.toNat):=by
    show cond (in62 n) _ _=_;have:in62 n=true:=by
     unfold in62;rw[decide_eq_true (by omega),decide_eq_true (by omega)];rfl
    rw[this];rfl
   have h:(rngD 0 n.toNat).length =n.toNat:=by unfold rngD;simp
   have z :jO x t (rngD 0 n.toNat).length o=.ok o' :=by rw[h];exact e
   obtain⟨A,B⟩:=times_ok (n:=n) (k:=fz (.str "again")) g (rngD 0 n.toNat) o o' .un .un a (by rw[h];omega) (by rw[h];omega) z;refine vW (o:=.nx [.s true o'.o,fz (Rw.ag n x t).d,fz (.str "again"),A,.un]) (qWe (qZt (.ag n x t) "again" .un .un .un o.o ⟨_,rfl⟩) rfl ?_) rfl;refine v4 (q:=false) (e:=(wE o (.ag n x t) "again")) (by kernel_rfl) (v6 rfl ?_);refine v4 (q:=false) (e:=(wE o (.ag n x t) "again")) (by kernel_rfl) (v6 rfl ?_);refine v4 (q:=true) (e:=(wE o (.ag n x t) "again")) (by kernel_rfl) (jE rfl ?_);exact zF (qQn (xs:=[.int n]) (e:=(wE o (.ag n x t) "again")) (by kernel_rfl) w rfl) B
 | see t=>
   obtain⟨q,e1,e⟩:=qR (show(qU o.hs 30 o.ν t o.s).bind _=_ from e);cases e;refine vW (o:=.nx [.s true (opO o.hs (nmO o.ν) (bindO (o.st ++ [(-1,q.1)])) q.2),fz (Rw.see t).d,fz (.str "see"),.un,.un]) (qWe (qZt (.see t) "see" .un .un .un o.o ⟨_,rfl⟩) rfl ?_) rfl;refine v4 (q:=false) (e:=(wE o (.see t) "see")) (by kernel_rfl) (v6 rfl ?_);refine v4 (q:=false) (e:=(wE o (.see t) "see")) (by kernel_rfl) (v6 rfl ?_);refine v4 (q:=false) (e:=(wE o (.see t) "see")) (by kernel_rfl) (v6 rfl ?_);refine v4 (q:=true) (e:=(wE o (.see t) "see")) (by kernel_rfl) (jE rfl ?_);refine wO (yQ (i:=0) (π:=[2]) (os0:=bindO o.st) (os:=bindO o.st) (x:=.fz (.tup [.int (-1),q.1.d])) (e:=[.s true (opO o.hs (nmO o.ν) (bindO o.st) q.2),fz (Rw.see t).d,fz (.str "see"),.un,.un]) (by kernel_rfl) (by kernel_rfl) ?_ (by kernel_rfl) (by kernel_rfl) (qKr (by omega)) rfl) rfl;exact wL (qVd (vQ (d:=.int (-1)) (e:=(wE o (.see t) "see")) (by kernel_rfl) (vQ (jK (qKj a g e1 (as:=[]) (rest:=[fz (Rw.see t).d,fz (.str "see"),.un,.un]) (by show(ndD (Rw.see t).d && (true && (true && (true && true))))=true;rw[qVl (vY2 (.see t))];rfl) (by kernel_rfl)) rfl) (jW rfl) rfl) rfl) rfl rfl) rfl
 | ask t=>
   obtain⟨q,e1,e⟩:=qR (show(qU o.hs 30 o.ν t o.s).bind _=_ from e);cases e;have sl:=vVt (hs:=o.hs) (no:=nmO o.ν) (st:=bindO o.st) (s:=q.2);refine vW (o:=.nx [.s true (opO o.hs (nmO o.ν) (bindO (o.st ++ [(q.2.sl,q.1)])) {q.2 with sl:=q.2.sl+1}),fz (Rw.ask t).d,fz (.str "ask"),.un,fz q.1.d]) (qWe (qZt (.ask t) "ask" .un .un .un o.o ⟨_,rfl⟩) rfl ?_) rfl;refine v4 (q:=false) (e:=(wE o (.ask t) "ask")) (by kernel_rfl) (v6 rfl ?_);refine v4 (q:=false) (e:=(wE o (.ask t) "ask")) (by kernel_rfl) (v6 rfl ?_);refine v4 (q:=false) (e:=(wE o (.ask t) "ask")) (by kernel_rfl) (v6 rfl ?_);refine v4 (q:=false) (e:=(wE o (.ask t) "ask")) (by kernel_rfl) (v6 rfl ?_);refine qJ (qKj a g e1 (as:=[]) (rest:=[fz (Rw.ask t).d,fz (.str "ask"),.un,.un]) (by show(ndD (Rw.ask t).d && (true && (true && (true && true))))=true;rw[qVl (vY2 (.ask t))];rfl) (by kernel_rfl)) ?_
   refine wO (yQ (i:=0) (π:=[2]) (os0:=bindO o.st) (os:=bindO o.st) (x:=.fz (.tup [.int q.2.sl,q.1.d])) (e:=[.s true (opO o.hs (nmO o.ν) (bindO o.st) {q.2 with sl:=q.2.sl+1}),fz (Rw.ask t).d,fz (.str "ask"),.un,fz q.1.d]) (by kernel_rfl) (by kernel_rfl) ?_ (by kernel_rfl) (by kernel_rfl) (qKr (by omega)) rfl) rfl;refine wL (qVd (vQ (d:=.int q.2.sl) (e:=[.s true (opO o.hs (nmO o.ν) (bindO o.st) {q.2 with sl:=q.2.sl+1}),fz (Rw.ask t).d,fz (.str "ask"),.un,fz q.1.d]) (jK (o:=.fz (.int q.2.sl)) (e:=[.s true (opO o.hs (nmO o.ν) (bindO o.st) {q.2 with sl:=q.2.sl+1}),fz (Rw.ask t).d,fz (.str "ask"),.un,fz q.1.d]) (qVj (h0:=.p 0 []) (e:=[.s true (opO o.hs (nmO o.ν) (bindO o.st) q.2),fz (Rw.ask t).d,fz (.str "ask"),.un,fz q.1.d]) (by kernel_rfl) (by kernel_rfl) (hs:=[]) (e1:=[.s true (opO o.hs (nmO o.ν) (bindO o.st) q.2),fz (Rw.ask t).d,fz (.str "ask"),.un,fz q.1.d]) rfl ?_) rfl) (vQ rfl (jW rfl) rfl) rfl) rfl rfl) rfl;exact qN rfl rfl rfl sl rfl rfl rfl
end

noncomputable def qK(st:List (Int×OT)):List D:=st.map fun b=>.tup [.int b.1,b.2.d]
theorem zWy(st:List (Int×OT)):bindO st=(qK st).map .fz :=by unfold bindO qK;rw[bL];rfl
noncomputable def oneO(st:List (Int×OT))(dd:Dw)(n:Int):O:=.ow (.obj 1 ["steps","draws","slots"]) [.ow .lst ((qK st).map .fz),.ow .lst ((dd.map drD).map .fz),.fz (.int n)]
noncomputable def oneD(st:List (Int×OT))(dd:Dw)(n:Int):D:=.nd (.obj 1 ["steps","draws","slots"]) [.nd .lst (qK st),drsD dd,.int n]
theorem vYm(st:List (Int×OT))(dd:Dw)(n:Int):fzO (oneO st dd n)=oneD st dd n:=by
 show D.nd _ [fzO (.ow .lst ((qK st).map .fz)),fzO (.ow .lst ((dd.map drD).map .fz)),.int n]=_;rw[vZ,vZ];rfl
theorem vYr(st:List (Int×OT))(dd:Dw)(n:Int)(c:dd.length<=1000):xV [.s true (.ow (.obj 1 []) []),fz (.nd .lst (qK st)),fz (drsD dd),fz (.int n)]=.ok (.fz .non,[.s true (oneO st dd n),.un,.un,.un]):=by
 obtain⟨j,a,b⟩:=compL_map (g:=gN 0) (el:=fzS (eF listD [oN 0])) (fun e=>∃u,e=[u]) (fun d=>d) (ds:=dd.map drD) (env:=[.un]) (fun d e c f=>by
  obtain⟨u,rfl⟩:=f;obtain⟨w,_,rfl⟩:=cJ.mp c;refine⟨[fz (drD w)],[fz (drD w)],rfl,?_,_,rfl⟩;exact vV6 (hs:=[.d (drD w)]) (e:=[fz (drD w)]) rfl (xs:=[drD w]) rfl (ds:=w.map prI) rfl rfl) ⟨_,rfl⟩
 obtain⟨u,rfl⟩:=b;rw[List.map_id']at a;have h:decide ((dd.map drD).length <=lim)=true:=decide_eq_true (by rw[aZ];exact aR c (show 1000<=1000000 by decide));refine vW (o:=.nx [.s true (oneO st dd n),fz (.nd .lst (qK st)),fz (drsD dd),fz (.int n)]) ?_ rfl;refine jQ (e:=[.s true (.ow (.obj 1 ["steps"]) [.ow .lst ((qK st).map .fz)]),fz (.nd .lst (qK st)),fz (drsD dd),fz (.int n)]) (by kernel_rfl) ?_
 refine jQ (e:=[.s true (.ow (.obj 1 ["steps","draws"]) [.ow .lst ((qK st).map .fz),.ow .lst ((dd.map drD).map .fz)]),fz (.nd .lst (qK st)),fz (drsD dd),fz (.int n)]) ?_ (by kernel_rfl)
 refine vYc (x:=.ow .lst ((dd.map drD).map .fz)) (e:=[.s true (.ow (.obj 1 ["steps"]) [.ow .lst ((qK st).map .fz)]),fz (.nd .lst (qK st)),fz (drsD dd),fz (.int n)]) ?_ (i:=0) (π:=[]) (by kernel_rfl) (q:=(1,["steps"],[.ow .lst ((qK st).map .fz)])) (by kernel_rfl) (by kernel_rfl) (o' :=.ow (.obj 1 ["steps","draws"]) [.ow .lst ((qK st).map .fz),.ow .lst ((dd.map drD).map .fz)]) (by kernel_rfl) (by kernel_rfl)
 refine yU (ds:=dd.map drD) (vs:=dd.map drD) (e:=[.s true (.ow (.obj 1 ["steps"]) [.ow .lst ((qK st).map .fz)]),fz (.nd .lst (qK st)),fz (drsD dd),fz (.int n)]) (by kernel_rfl) ?_ a (by kernel_rfl);rw[h];rfl
theorem vJ2{o:Os}{r:Rw}(h:vQr r)(e:wN o r=.ok o')(i:okHs o.hs):okHs o'.hs/\o'.ν.length<=o.ν.length+101/\o'.st.length<=o.st.length+101/\o'.hs.length<=o.hs.length+1:=by
 have j:∀(x:Str) (t:Tm) (n:Nat) (o o' :Os),jO x t n o=.ok o' ->o'.hs=o.hs/\o'.ν.length<=o.ν.length+n/\o'.st.length<=o.st.length+n:=fun x t n=>by
  induction n with
  |zero=>intro o o' e;cases e;exact⟨rfl,by omega,by omega⟩
  | succ n ih=>
    intro o o' e;obtain⟨o1,d,e⟩:=qR (show(yK o x t).bind _=_ from e);obtain⟨a,b,c⟩:=xN d;grind
 cases r with
 | df f ps b=>
   cases e;refine⟨?_,by show o.ν.length<=_;omega,by show o.st.length<=_;omega,j9⟩;have hb:b.wf:=h.1;have:∀l:Hs,okHs l->okHs (putA l f (ps,b)):=fun l=>by
    induction l with
    |nil=>intro _ p hp;cases bV.mp hp;exact hb
    | cons q r ih=>
      intro g;unfold putA;by_cases z:q.1=f
      ·rw [if_pos z];intro p hp;rcases aG.mp hp with rfl|hp
       ·exact hb
       ·exact g p (aI _ hp)
      ·rw [if_neg z];intro p hp;rcases aG.mp hp with rfl|hp
       ·exact g _ (by simp)
       ·exact ih (fun p hp=>g p (aI _ hp)) p hp
   grind
 |lt x t=>obtain⟨a,b,c⟩:=xN e;exact⟨by rw[a];exact i,by omega,by omega,by rw[a];omega⟩
 | ag n x t=>
   obtain⟨k,m⟩:=h.2.2 n x t rfl;obtain⟨a,b,c⟩:=j x t n.toNat o o' e;grind
 | see t=>
   obtain⟨q,d,e⟩:=qR (show(qU o.hs 30 o.ν t o.s).bind _=_ from e);grind
 | ask t=>
   obtain⟨q,d,e⟩:=qR (show(qU o.hs 30 o.ν t o.s).bind _=_ from e);grind
noncomputable def room(o:Os)(a:List Rw):Prop:=(∀b c o1,a=b ++ c->v8 b o=.ok o1->o1.ν.length<=900/\o1.st.length<=900/\o1.hs.length<=900)
theorem rows_ok{p:Slot}:∀(rows:List Rw) (o o' :Os) (x2:Slot),okHs o.hs->(∀r∈rows,vQr r)->room o rows->v8 rows o=.ok o' ->
  ∃a,forS (gN 2) qK6 (rows.map Rw.d) [p,.s false o.o,x2]=.ok (.nx [p,.s false o'.o,a])
 |[],o,o',x2,_,_,_,e=>by cases e;exact⟨x2,rfl⟩
 | r::rs,o,o',x2,hh,hw,hm,e=>by
   obtain⟨o1,e1,e⟩:=qR (show(wN o r).bind _=_ from e);obtain⟨h,i,j⟩:=hm [] (r::rs) o rfl rfl;have g:=hw r (by simp);obtain⟨k,_⟩:=vJ2 g e1 hh;have c:=jQx hh r g h i j e1;obtain⟨a,l⟩:=rows_ok (p:=p) rs o1 o' (fz r.d) k (fun q m=>hw q (aI _ m)) (fun b f o2 n t=>hm (r::b) f o2 (by rw[n];rfl) (by show(wN o r).bind _=_;rw[e1];exact t)) e;refine⟨a,vX (e1:=[p,.s false o.o,fz r.d]) (e2:=[p,.s false o1.o,fz r.d]) rfl ?_ l⟩;refine wO (o:=.fz .non) (qVj (h0:=.p 1 []) (e:=[p,.s false o.o,fz r.d]) (by kernel_rfl) (by kernel_rfl) (hs:=[.d r.d]) (e1:=[p,.s false o.o,fz r.d]) (by kernel_rfl) ?_) rfl;exact qN rfl rfl rfl c rfl rfl rfl
noncomputable def os0:Os:=⟨[],[],[],⟨[],0,0⟩⟩
theorem zYc:qWg 2 qQe [] [p,.un,.un]=.ok (os0.o,[p,.un,.un]):=by kernel_rfl
theorem vK0(a:List Rw)(o:Os)(b:∀r∈a,vQr r)(hl:a.length<=1000)(g:wR a [] []=true)(h:(a.filter isDf).length <=3)(i:room os0 a)(j:o.s.dr.length<=1000)(e:v8 a os0=.ok o):qZx [fz (.nd .lst (a.map Rw.d))]=.ok (oneO o.st o.s.dr o.s.sl,[.un]):=by
 have l:=zJs a (fun r c=>⟨(b r c).1,(b r c).2.1⟩) hl g;have c2:=zKb a hl h;obtain⟨f,m⟩:=rows_ok (p:=fz (.nd .lst (a.map Rw.d))) a os0 o .un (fun p n=>nomatch n) b i e;have t:=vYr o.st o.s.dr o.s.sl j;have u:fzO (.ow .lst (bindO o.st))=.nd .lst (qK o.st):=by rw[zWy,vZ]
 have v:fzO (.ow .lst (o.s.dr.map fun w=>.fz (drD w)))=drsD o.s.dr:=by
  have:=vZ (k:=.lst) (o.s.dr.map drD);rw[bL]at this;exact this
 refine vW (o:=.rt (oneO o.st o.s.dr o.s.sl) [fz (.nd .lst (a.map Rw.d)),.s false (.ow (.obj 2 ["helpers","names","steps","draws","slots","terms"]) [.ow (.dct (qD Sum.inr o.hs)) (o.hs.map fun p=>.fz (rowD p)),nmO o.ν,.fz (.nd .lst (qK o.st)),.fz (drsD o.s.dr),.fz (.int o.s.sl),.fz (.int o.s.tm)]),f]) ?_ rfl;refine zX (o:=.fz .non) (e:=[fz (.nd .lst (a.map Rw.d)),.un,.un]) (vJ (vY rfl (vU rfl) rfl) (qN rfl rfl rfl l rfl rfl rfl)) ?_
 refine zX (o:=.fz .non) (e:=[fz (.nd .lst (a.map Rw.d)),.un,.un]) (vJ (vY rfl (vU rfl) rfl) (qN rfl rfl rfl c2 rfl rfl rfl)) ?_
 refine qJ zYc ?_
 refine jQ (zF (ds:=a.map Rw.d) (e:=[fz (.nd .lst (a.map Rw.d)),.s false os0.o,.un]) rfl m) ?_
 refine xR (vV3 (q:=(.fz .non,[])) (hs:=[.d (.nd .lst (qK o.st)),.d (drsD o.s.dr),.d (.int o.s.sl)]) (e:=[fz (.nd .lst (a.map Rw.d)),.s false (.ow (.obj 2 ["helpers","names","steps","draws","slots","terms"]) [.ow (.dct (qD Sum.inr o.hs)) (o.hs.map fun p=>.fz (rowD p)),nmO o.ν,.fz (.nd .lst (qK o.st)),.fz (drsD o.s.dr),.fz (.int o.s.sl),.fz (.int o.s.tm)]),f]) ?_ (qN rfl rfl rfl t rfl rfl rfl) rfl rfl) rfl;rw[←u,←v];kernel_rfl
mutual
def OT.sl:OT->List Int
 |.slot i=> [i]
 |.num _=> []
 |.draw _=> []
 |.op _ a b=>a.sl ++ (b.sl ++ [])
 |.rest a _=>a.sl ++ []
 |.field a _=>a.sl ++ []
 |.ite c a b=>c.sl ++ (a.sl ++ (b.sl ++ []))
 |.rcd _ as=>OT.sls as
 |.bind i a b=>a.sl ++ b.sl.filter fun j=>!(j == i)
def OT.sls:List OT->List Int
 |[]=> []
 |a::r=>a.sl ++ OT.sls r
end
mutual
def OT.sc:OT->Nat
 |.slot _=>1
 |.num _=>0
 |.draw _=>0
 |.op _ a b=>a.sc+(b.sc+0)
 |.rest a _=>a.sc+0
 |.field a _=>a.sc+0
 |.ite c a b=>c.sc+(a.sc+(b.sc+0))
 |.rcd _ as=>OT.scs as
 |.bind _ a b=>a.sc+b.sc
def OT.scs:List OT->Nat
 |[]=>0
 |a::r=>a.sc+OT.scs r
end
mutual
theorem qQi:∀t:OT,t.sl.length<=t.sc
 |.slot _=>by rw[OT.sl,OT.sc];exact aC 1
 |.num _=>by rw[OT.sl];exact cF _
 |.draw _=>by rw[OT.sl];exact cF _
 |.op _ a b=>by have:=qQi a;have:=qQi b;rw[OT.sl,OT.sc];simp only[aB,List.length_nil];omega
 |.rest a _=>by have:=qQi a;rw[OT.sl,OT.sc];simp only[aB,List.length_nil];omega
 |.field a _=>by have:=qQi a;rw[OT.sl,OT.sc];simp only[aB,List.length_nil];omega
 |.ite c a b=>by have:=qQi c;have:=qQi a;have:=qQi b;rw[OT.sl,OT.sc];simp only[aB,List.length_nil];omega
 |.rcd _ as=>by rw[OT.sl,OT.sc];exact sls_le as
 |.bind i a b=>by have:=qQi a;have:=qQi b;have:=List.length_filter_le (fun j=>!(j == i)) b.sl;rw[OT.sl,OT.sc,aB];omega
theorem sls_le:∀as:List OT,(OT.sls as).length <=OT.scs as
 |[]=>by rw[OT.sls];exact cF _
 |a::r=>by have:=qQi a;have:=sls_le r;rw[OT.sls,OT.scs,aB];omega
end
section
variable{F:Fn}{x y:Slot}
noncomputable abbrev flI(l:List Int):Slot:=.s false (.ow .lst ((l.map D.int).map .fz))
theorem sr_loop:∀(as:List OT) (acc:List Int) (z:Slot),(∀a∈as,F [.s false (.fz a.d)]=.ok (.ow .lst ((a.sl.map .int).map .fz),[.un]))->acc.length+OT.scs as<=1000->∃c,forS (gN 3) (qQf F) (OT.ds as) [x,y,flI acc,z]=.ok (.nx [x,y,flI (acc ++ OT.sls as),c])
 |[],acc,z,_,_=>⟨z,by rw[OT.sls,cY];rfl⟩
 | a::as,acc,z,h,hl=>by
   rw[OT.scs]at hl;have g:=qQi a;have e:qM F [(.v (oV (oN 3)))] [x,y,flI acc,.s false (.fz a.d)]=.ok (.ow .lst ((a.sl.map .int).map .fz),[x,y,flI acc,.s false (.fz a.d)]):=by
    show(F [.s false (.fz a.d)]).bind _=_;rw[h a (by simp)];rfl
   have hb:qQf F [x,y,flI acc,.s false (.fz a.d)]=.ok (.nx [x,y,flI (acc ++ a.sl),.s false (.fz a.d)]):=by
    refine wO (yQ (i:=2) (π:=[]) (os0:=(acc.map D.int).map .fz) (os:=(acc.map D.int).map .fz) rfl rfl e rfl rfl (z:=(.fz .non,((acc ++ a.sl).map D.int).map .fz)) ?_ rfl) rfl;show cond (decide (((acc.map D.int).map O.fz).length+((a.sl.map D.int).map O.fz).length <=lim)) (some (O.fz .non,(acc.map D.int).map O.fz ++ (a.sl.map D.int).map O.fz)) none=_;grind
   obtain⟨c,f⟩:=sr_loop as (acc ++ a.sl) (.s false (.fz a.d)) (fun b hb=>h b (aI _ hb)) (by rw[aB];omega);exact⟨c,vX (e1:=[x,y,flI acc,.s false (.fz a.d)]) rfl hb (by rw[f,OT.sls,List.append_assoc])⟩
theorem i0{t:OT}{r:List D}(e:t.d=.tup (.str w::r)){b c:Slot}:oV (oIx (oN 0) (oC (.int 0))) [.s false (.fz t.d),a,b,c]=.ok (.str w,[.s false (.fz t.d),a,b,c]):=by
 rw[e];refine vT (h1:=.d (.str w)) (zI (h1:=.d (.tup (.str w::r))) (h2:=.d (.int ((0:Nat):Int))) rfl rfl rfl rfl ?_ rfl) rfl;show(atI (.str w::r) ((0:Nat):Int)).map Hn.d=_;rw[qWt (show(D.str w::r)[0]?=some (.str w) from rfl)];rfl
end
theorem cat2{oa a:Oe}{e1:Ev}{xs ys:List D}(h1:evO oa env=.ok (.d (.nd .lst xs),e))(h2:evO a e=.ok (.d (.nd .lst ys),e1))(c:xs.length+ys.length<=1000):eCat oa a env=.ok (.ow .lst ((xs ++ ys).map .fz),e1):=by
 show(evO oa env).bind _=_;rw[h1];show(evO a e).bind _=_;rw[h2];show cond (decide (xs.length+ys.length<=lim)) (Res.ok (O.ow .lst ((xs ++ ys).map O.fz),e1)) Res.no=_;rw[decide_eq_true (aR c (by decide))];rfl
section
variable{g:SG}{t:ST}{el:SV}{d v:D}{ds:List D}{env e1 e2 e3:Ev}
theorem qYm(h1:g d env=some e1)(h2:t e1=.ok (false,e2)):jP g t el (d::ds) env=jP g t el ds e2:=by
 show(opt (g d env)).bind _=_;rw[h1];show((t e1).ne).bind _=_;rw[h2];rfl
theorem qQp(h1:g d env=some e1)(h2:t e1=.ok (true,e2))(a:el e2=.ok (v,e3)):jP g t el (d::ds) env=(jP g t el ds e3).bind fun q=>.ok (v::q.1,q.2):=by
 show(opt (g d env)).bind _=_;rw[h1];show((t e1).ne).bind _=_;rw[h2];show((el e2).ne).bind _=_;rw[a];rfl
end
noncomputable abbrev sF(d:D):Slot:=.s false (.fz d)
theorem fl_comp{i:Int}{w:Str}{d2 d3:D}:∀(l:List Int) (y:Slot),∃a,jP (gN 0) (asB (o2 neF (oN 0) (oIx (oN 1) (oC (.int 1))))) (oV (oN 0)) (l.map D.int) [y,sF (.tup [.str w,.int i,d2,d3])]=.ok ((l.filter fun j=>!(j == i)).map D.int,[a,sF (.tup [.str w,.int i,d2,d3])])
 |[],y=>⟨y,rfl⟩
 | j::l,y=>by
   have t:asB (o2 neF (oN 0) (oIx (oN 1) (oC (.int 1)))) [sF (.int j),sF (.tup [.str w,.int i,d2,d3])]=.ok (!(j == i),[sF (.int j),sF (.tup [.str w,.int i,d2,d3])]):=rfl;obtain⟨a,b⟩:=fl_comp (i:=i) (w:=w) (d2:=d2) (d3:=d3) l (sF (.int j));refine⟨a,?_⟩;rw[aL];cases q:(!(j == i)) with
   | true=>
     rw[q]at t;rw[qQp (e1:=[sF (.int j),sF (.tup [.str w,.int i,d2,d3])]) (v:=.int j) rfl t rfl,b,List.filter_cons_of_pos (by simpa using q)];rfl
   | false=>
     rw[q]at t;rw[qYm (e1:=[sF (.int j),sF (.tup [.str w,.int i,d2,d3])]) rfl t,b,List.filter_cons_of_neg (by simpa using q)]
section
variable{h:Nat}
theorem yS{t:OT}{r:List D}{ps:List OT}(e:t.d=.tup (.str w::r))(h1:decide (w="slot")=false)(h2:decide (w="bind")=false)(g:qO [sF t.d]=.ok (.ow .lst ((OT.ds ps).map .fz),[.un]))(i:∀a∈ps,F_slots_read h [sF a.d]=.ok (.ow .lst ((a.sl.map .int).map .fz),[.un]))(hl:OT.scs ps<=1000):F_slots_read (h+1) [sF t.d]=.ok (.ow .lst (((OT.sls ps).map .int).map .fz),[.un]):=by
 have c:∀{x:Str} {b:Bool} {p q:Slot},decide (w=x)=b->asB (o2 eqF (oN 1) (oC (.str x))) [sF t.d,sF (.str w),p,q]=.ok (b,[sF t.d,sF (.str w),p,q]):=fun {x b p q} e=>by
  rw[←e];exact j5 (d:=.bl (decide (w=x))) (vT (h1:=.d (.bl (decide (w=x)))) (zQ (h1:=.d (.str w)) (h2:=.d (.str x)) rfl rfl rfl rfl rfl rfl rfl) rfl) rfl rfl
 obtain⟨k,f⟩:=sr_loop (F:=F_slots_read h) (x:=sF t.d) (y:=sF (.str w)) ps [] .un i (by show 0+_<=_;omega);rw[List.nil_append]at f;have j:iV (fzS (qM qO [(.v (oV (oN 0)))])) [sF t.d,sF (.str w),flI [],.un]=.ok (OT.ds ps,[sF t.d,sF (.str w),flI [],.un]):=by
  refine yI (d:=.nd .lst (OT.ds ps)) (jK (o:=.ow .lst ((OT.ds ps).map .fz)) ?_ (by rw[vZ])) rfl rfl;unfold qM;show(qO [sF t.d]).bind _=_;rw[g];rfl
 show fnS 1 3 _ _=_;exact vW (qJ (wL (i0 e) rfl) (qG (c h1) (qI (qG (c h2) (qI (qJ (o:=.ow .lst []) (e:=[sF t.d,sF (.str w),.un,.un]) rfl (jQ (zF j f) rfl))))))) rfl
end
theorem zW3{h:Nat}{i:Int}{a b:OT}(g:F_slots_read h [sF a.d]=.ok (.ow .lst ((a.sl.map .int).map .fz),[.un]))(m:F_slots_read h [sF b.d]=.ok (.ow .lst ((b.sl.map .int).map .fz),[.un]))(hl:a.sc+b.sc<=1000):F_slots_read (h+1) [sF (OT.bind i a b).d]=.ok (.ow .lst (((OT.bind i a b).sl.map .int).map .fz),[.un]):=by
 have e:(OT.bind i a b).d =.tup [.str "bind",.int i,a.d,b.d]:=by rw[OT.d]
 rw[e,OT.sl];have x:=qQi a;have y:=qQi b;have A:=List.length_filter_le (fun j=>!(j == i)) b.sl;generalize ha:a.d=da at *;generalize hb:b.d=db at *;have c:∀{k:Int} {z:D} {d:D} {l:List Int},F_slots_read h [sF z]=.ok (.ow .lst ((l.map .int).map .fz),[.un])->oV (oIx (oN 0) (oC (.int k))) [sF (.tup [.str "bind",.int i,da,db]),sF (.str "bind"),.un,.un]=.ok (z,[sF (.tup [.str "bind",.int i,da,db]),sF (.str "bind"),.un,.un])->fzS (qM (F_slots_read h) [(.v (oV (oIx (oN 0) (oC (.int k)))))]) [sF (.tup [.str "bind",.int i,da,db]),sF (.str "bind"),.un,.un]=.ok (.nd .lst (l.map .int),[sF (.tup [.str "bind",.int i,da,db]),sF (.str "bind"),.un,.un]):=fun {k z d l} n p=>by
  refine jK (o:=.ow .lst ((l.map .int).map .fz)) (vJ (vY p (vU rfl) rfl) ?_) (by rw[vZ]);show(F_slots_read h [sF z]).bind _=_;rw[n];rfl
 have r:=c (k:=2) (d:=.non) g rfl;have s:=c (k:=3) (d:=.non) m rfl;obtain⟨B,t⟩:=fl_comp (i:=i) (w:="bind") (d2:=da) (d3:=db) b.sl .un;have u:fzS (compS 2 [(1,0)] [0] (iV (fzS (qM (F_slots_read h) [(.v (oV (oIx (oN 0) (oC (.int 3)))))]))) (gN 0) (asB (o2 neF (oN 0) (oIx (oN 1) (oC (.int 1))))) (oV (oN 0))) [sF (.tup [.str "bind",.int i,da,db]),sF (.str "bind"),.un,.un]=.ok (.nd .lst ((b.sl.filter fun j=>!(j == i)).map .int),[sF (.tup [.str "bind",.int i,da,db]),sF (.str "bind"),.un,.un]):=by
  refine xC (yI s rfl rfl) ?_ t rfl;rw[aZ,decide_eq_true (aR (show b.sl.length<=1000 by omega) (by decide))];rfl
 have f:=cat2 (zS r rfl) (zS u rfl) (by rw[aZ,aZ];omega);rw[←bF]at f;show fnS 1 3 _ _=_;exact vW (qJ (o:=.fz (.str "bind")) (e:=[sF (.tup [.str "bind",.int i,da,db]),.un,.un,.un]) rfl (qG (q:=false) (e:=[sF (.tup [.str "bind",.int i,da,db]),sF (.str "bind"),.un,.un]) rfl (qI (qG (q:=true) (e:=[sF (.tup [.str "bind",.int i,da,db]),sF (.str "bind"),.un,.un]) rfl (qJf f rfl))))) rfl
theorem vW6(n:D):qO [sF (.tup [.str "draw",n])]=.ok (.ow .lst [],[.un]):=by kernel_rfl
theorem zVy:∀{as:List OT} {a:OT},a∈as->a.sc<=OT.scs as
 |[],_,h=>by cases h
 | b::as,a,h=>by
   rw[OT.scs];rcases aG.mp h with q|q
   ·rw[q];omega
   ·have:=zVy q;omega
theorem jQa:∀{as:List OT} {a:OT},a∈as->a.h<=OT.hs as
 |[],_,h=>by cases h
 | b::as,a,h=>by
   rw[OT.hs];rcases aG.mp h with q|q
   ·rw[q];omega
   ·have:=jQa q;omega
theorem zV5:∀{as:List OT} {a:OT},OT.oks as->a∈as->a.ok
 |[],_,_,h=>by cases h
 | b::as,a,o,h=>by
   rcases aG.mp h with q|q
   ·rw[q];exact o.1
   ·exact zV5 o.2 q
theorem jH:∀(h:Nat) (t:OT),t.ok->t.h<=h->t.sc<=1000->F_slots_read h [sF t.d]=.ok (.ow .lst ((t.sl.map .int).map .fz),[.un])
 | 0,t,_,hh,_=>by cases t <;> rw[OT.h]at hh <;> omega
 |h+1,.slot i,_,_,_=>by rw[OT.d,OT.sl];kernel_rfl
 | h + 1, .num n,_,_,_=>by
   have:=yS (h:=h) (t:=.num n) (ps:=[]) (by rw[OT.d]) (by decide +kernel) (by decide +kernel) (by rw[OT.d];exact vQ2 _) (fun a ha=>by cases ha) (by rw[OT.scs];omega);rw[OT.sl];exact this
 | h + 1, .draw n,_,_,_=>by
   have:=yS (h:=h) (t:=.draw n) (ps:=[]) (by rw[OT.d]) (by decide +kernel) (by decide +kernel) (by rw[OT.d];exact vW6 _) (fun a ha=>by cases ha) (by rw[OT.scs];omega);rw[OT.sl];exact this
 | h + 1, .op s a b,o,hh,hs=>by
   rw[OT.h]at hh;rw[OT.sc]at hs;have:=yS (h:=h) (t:=.op s a b) (ps:=[a,b]) (by rw[OT.d]) (by decide +kernel) (by decide +kernel) (by rw[OT.d];exact qKi _ _ _) (fun x e=>by rcases aG.mp e with q|q;rw[q];exact jH h a o.1 (by omega) (by omega);rw[bV.mp q];exact jH h b o.2 (by omega) (by omega)) (by rw[OT.scs,OT.scs,OT.scs];omega);rw[OT.sl];exact this
 | h + 1, .rest a n,o,hh,hs=>by
   rw[OT.h]at hh;rw[OT.sc]at hs;have:=yS (h:=h) (t:=.rest a n) (ps:=[a]) (by rw[OT.d]) (by decide +kernel) (by decide +kernel) (by rw[OT.d];exact qJ7 _ _) (fun x e=>by rw[bV.mp e];exact jH h a o.1 (by omega) (by omega)) (by rw[OT.scs,OT.scs];omega);rw[OT.sl];exact this
 | h + 1, .field a n,o,hh,hs=>by
   rw[OT.h]at hh;rw[OT.sc]at hs;have:=yS (h:=h) (t:=.field a n) (ps:=[a]) (by rw[OT.d]) (by decide +kernel) (by decide +kernel) (by rw[OT.d];exact qZ5 _ _) (fun x e=>by rw[bV.mp e];exact jH h a o (by omega) (by omega)) (by rw[OT.scs,OT.scs];omega);rw[OT.sl];exact this
 | h + 1, .ite c a b,o,hh,hs=>by
   rw[OT.h]at hh;rw[OT.sc]at hs;have:=yS (h:=h) (t:=.ite c a b) (ps:=[c,a,b]) (by rw[OT.d]) (by decide +kernel) (by decide +kernel) (by rw[OT.d];exact qXi _ _ _) (fun x e=>by rcases aG.mp e with q|q;rw[q];exact jH h c o.1 (by omega) (by omega);rcases aG.mp q with q|q;rw[q];exact jH h a o.2.1 (by omega) (by omega);rw[bV.mp q];exact jH h b o.2.2 (by omega) (by omega)) (by rw[OT.scs,OT.scs,OT.scs,OT.scs];omega);rw[OT.sl];exact this
 | h + 1, .rcd xs as,o,hh,hs=>by
   rw[OT.h]at hh;rw[OT.sc]at hs;have:=yS (h:=h) (t:=.rcd xs as) (ps:=as) (by rw[OT.d]) (by decide +kernel) (by decide +kernel) (vKz xs as o.1 o.2.1) (fun x e=>jH h x (zV5 o.2.2 e) (by have:=jQa e;omega) (by have:=zVy e;omega)) hs;exact this
 | h + 1, .bind i a b,o,hh,hs=>by
   rw[OT.h]at hh;rw[OT.sc]at hs;exact zW3 (jH h a o.1 (by omega) (by omega)) (jH h b o.2 (by omega) (by omega)) hs
end FM
namespace LG
open PySem L2 DX FP LWF FM PyProof.Rows
variable{p q:Int}{l:List Int}{kn ns:List Str}{x8 x7 x9 x10:Slot}{R:List Rw}{env e e1 e2:Ev}{κ:Type}{g:SG}{body:SS}{c dp:Bool}{o':Os}{K:Ks}
inductive Lf(c:Bool):Tm->Nat->Prop
 |num {n:Int} (h:okI n):Lf c (.num n) 0
 |flip (h:c=true) (a b:Int):Lf c (.flip a b) 1
 |pick (h:c=true) (ps:List (Int×Int)):Lf c (.pick ps) 1
inductive GT(kn:List Str)(c dp:Bool):Tm->List Str->Nat->Prop
 |leaf {d:Tm} {k:Nat} (l:Lf c d k):GT kn c dp d [] k
 |plus {x:Str} {d:Tm} {k:Nat} (h:x∈kn) (l:Lf c d k):GT kn c dp (.op .add (.name x) d) [x] k
 |ite {x y:Str} {d:Tm} {k:Nat} (h:x∈kn) (h' :y∈kn) (l:Lf c d k):GT kn c dp (.ite (.name x) d (.name y)) [x,y] k
 |op2 (s:Sg) {x y:Str} (h:x∈kn) (h' :y∈kn):GT kn c dp (.op s (.name x) (.name y)) [x,y] 0
 |rest {x:Str} {n m:Int} (h:x∈kn) (hn:okI n) (hm:0<m):GT kn c dp (.rest (.op .add (.name x) (.num n)) m) [x] 0
 |fld {x:Str} {d:Tm} {k:Nat} (f:Str) (h:x∈kn) (l:Lf c d k):GT kn c dp (.field (.rcd ["q","p"] [.name x,d]) f) [x] k
 |g {x:Str} (h:x∈kn) (hd:dp=true):GT kn c dp (.call "g" [.name x]) [x] 0
 |f {x:Str} {d:Tm} {k:Nat} (h:x∈kn) (l:Lf c d k):GT kn c dp (.call "f" [.name x,d]) [x] k
section
variable{kn:List Str}{c dp:Bool}{t:Tm}{ns:List Str}{k:Nat}
theorem zWs(g:GT kn c dp t ns k):wH 30 [sF t.d]=.ok (.fz (.int (k:Nat)),[.un]):=by
 cases g with
 |leaf l=>cases l <;> (simp only[Tm.d];kernel_rfl)
 |plus h l=>cases l <;> (simp only[Tm.d];kernel_rfl)
 |ite h h' l=>cases l <;> (simp only[Tm.d];kernel_rfl)
 |op2 s h h' =>simp only[Tm.d];kernel_rfl
 |rest h hn hm=>simp only[Tm.d];kernel_rfl
 |fld f h l=>cases l <;> (simp only[Tm.d];kernel_rfl)
 |g h hd=>simp only[Tm.d];kernel_rfl
 |f h l=>cases l <;> (simp only[Tm.d];kernel_rfl)
theorem zJt(g:GT kn c dp t ns k):jI 30 [sF t.d]=.ok (.ow .lst ((ns.map D.str).map .fz),[.un]):=by
 cases g with
 |leaf l=>cases l <;> (simp only[Tm.d];kernel_rfl)
 |plus h l=>cases l <;> (simp only[Tm.d];kernel_rfl)
 |ite h h' l=>cases l <;> (simp only[Tm.d];kernel_rfl)
 |op2 s h h' =>simp only[Tm.d];kernel_rfl
 |rest h hn hm=>simp only[Tm.d];kernel_rfl
 |fld f h l=>cases l <;> (simp only[Tm.d];kernel_rfl)
 |g h hd=>simp only[Tm.d];kernel_rfl
 |f h l=>cases l <;> (simp only[Tm.d];kernel_rfl)
theorem zZj(g:GT kn c dp t ns k):∀x∈ns,x∈kn:=by
 cases g <;> intro z a <;> simp at a
 all_goals (try rcases a with rfl|rfl)
 all_goals assumption
theorem qY3(g:GT kn c dp t ns k):ns.length<=2/\k<=1/\(k=1->c=true):=by
 cases g with
 |leaf l|plus _ l|ite _ _ l|fld _ _ l|f _ l=>cases l <;> simp_all
 |op2|rest|g=>simp
theorem jQc(g:GT kn c dp t ns k):t.wf/\t.h<=4:=by
 cases g with
 |leaf l|plus _ l|ite _ _ l|fld _ _ l|f _ l=>cases l <;> simp[Tm.wf,Tm.wfs,Tm.h,Tm.hs]
 |op2|rest|g=>simp[Tm.wf,Tm.wfs,Tm.h,Tm.hs]
end
noncomputable def qXz:Tm:=.op .add (.name "y") (.name "y")
noncomputable def qV9:Tm:=.call "f" [.name "x",.call "f" [.name "x",.name "x"]]
noncomputable def hsFG:Hs:=[("f",(["x","y"],qXz)),("g",(["x"],qV9))]
theorem cnt{s:Sd}(h:s.tm<600):count s=.ok {s with tm:=s.tm+1}:=by unfold count;rw[if_pos h]
theorem drw{s:Sd}{w:List (Int×Int)}(h:s.dr.length<60):qJg w s=.ok (.draw s.dr.length,{s with dr:=s.dr ++ [w]}):=by unfold qJg;rw[if_pos h]
structure Opd(ν:Nm)(s:Sd)(ns:List Str)(k m:Nat)(o:OT)(s' :Sd):Prop where
 dr:s'.dr.length=s.dr.length+k
 tm:s'.tm<=s.tm+(m:Nat)
 sl:s.sl<=s'.sl
 rd:o.sl=ns.map fun x=>(getA ν x).getD 0
 ok:o.ok
 hh:o.h<=7
 sc:o.sc<=30
section
variable{kn:List Str}{c dp:Bool}{t d:Tm}{ns:List Str}{k:Nat}{ν:Nm}{s:Sd}{x y:Str}{i j:Int}{h:Nat}
theorem leaf_o(l:Lf c d k)(h1:s.tm<600)(h2:s.dr.length+k<=60):∃o w,qU hsFG (h+1) ν d s=.ok (o,{s with tm:=s.tm+1,dr:=s.dr ++ w})/\w.length=k/\o.sl=[]/\o.ok/\o.h=1/\o.sc=0:=by
 cases l with
 |num hn=>exact⟨.num _,[],by rw[qU,cnt h1,cY];rfl,rfl,by rw[OT.sl],by rw[OT.ok];exact hn,by rw[OT.h],by rw[OT.sc]⟩
 |flip hc a b=>exact⟨.draw s.dr.length,[_],by rw[qU,cnt h1];exact drw (by show s.dr.length<60;omega),rfl,by rw[OT.sl],by rw[OT.ok];trivial,by rw[OT.h],by rw[OT.sc]⟩
 |pick hc ps=>exact⟨.draw s.dr.length,[_],by rw[qU,cnt h1];exact drw (by show s.dr.length<60;omega),rfl,by rw[OT.sl],by rw[OT.ok];trivial,by rw[OT.h],by rw[OT.sc]⟩
theorem wM(e:getA ν x=some i)(h1:s.tm<600):qU hsFG (h+1) ν (.name x) s=.ok (.slot i,{s with tm:=s.tm+1}):=by
 rw[qU,cnt h1];show(match getA ν x with|none=>Res.no|some i=>Res.ok (OT.slot i,_))=_;rw[e]
end
section
variable{kn:List Str}{c dp:Bool}{t d a b:Tm}{ns:List Str}{k:Nat}{ν:Nm}{s s1 s2:Sd}{x y:Str}{i j:Int}{h:Nat}{oa ob:OT}
noncomputable abbrev fOT(p q:Int)(oa a:OT):OT:=.bind p oa (.bind q a (.op .add (.slot q) (.slot q)))
theorem vWt(h0:s.tm<600)(c:qU hsFG (h+2) ν a {s with tm:=s.tm+1}=.ok (oa,s1))(h1:s1.tm<600)(d:qU hsFG (h+2) ν b {s1 with sl:=s1.sl+1,tm:=s1.tm+1}=.ok (ob,s2))(h2:s2.tm+3<=600):
  qU hsFG (h+3) ν (.call "f" [a,b]) s=.ok (fOT s1.sl s2.sl oa ob,{s2 with sl:=s2.sl+1,tm:=s2.tm+1+1+1}):=by
 show(zO (qU hsFG (h+2) ν) ["x","y"] [a,b] s [] []).bind _=_;have e:zO (qU hsFG (h+2) ν) ["x","y"] [a,b] s [] []=.ok ([("x",s1.sl),("y",s2.sl)],[(s1.sl,oa),(s2.sl,ob)],{s2 with sl:=s2.sl+1}):=by
  rw[zO,cnt h0];show(qU hsFG (h+2) ν a {s with tm:=s.tm+1}).bind _=_;rw[c];show zO (qU hsFG (h+2) ν) ["y"] [b] {s1 with sl:=s1.sl+1} [("x",s1.sl)] [(s1.sl,oa)]=_;rw[zO,cnt (by exact h1)];show(qU hsFG (h+2) ν b {s1 with sl:=s1.sl+1,tm:=s1.tm+1}).bind _=_;rw[d];rfl
 rw[e];show(qU hsFG (h+2) [("x",s1.sl),("y",s2.sl)] qXz {s2 with sl:=s2.sl+1}).bind _=_;have n:getA [(("x":Str),s1.sl),("y",s2.sl)] "y"=some s2.sl:=rfl;unfold qXz;rw[qU,cnt (by show s2.tm<600;omega)];show((qU hsFG (h+1) _ (.name "y") {s2 with sl:=s2.sl+1,tm:=s2.tm+1}).bind _).bind _=_;rw[wM n (by show s2.tm+1<600;omega)];show((qU hsFG (h+1) _ (.name "y") {s2 with sl:=s2.sl+1,tm:=s2.tm+1+1}).bind _).bind _=_;rw[wM n (by show s2.tm+1+1<600;omega)];rfl
theorem flt(h:∀q∈l,q<p):(l.filter fun j=>!(j == p))=l:=List.filter_eq_self.mpr fun q a=>by have:=h q a;simp;omega
theorem sl_f(h:∀z∈ob.sl,z<p):(fOT p q oa ob).sl =oa.sl ++ ob.sl:=by
 simp only[OT.sl,List.filter_append];rw[flt h];simp
theorem jZx(e:getA ν x=some i)(h0:s.tm+15<=600):∃o,qU hsFG 30 ν (.call "g" [.name x]) s=.ok (o,{s with sl:=s.sl+5,tm:=s.tm+15})/\o.sl=[i]/\o.ok/\o.h<=7/\o.sc<=30:=by
 refine⟨.bind s.sl (.slot i) (fOT (s.sl+1) (s.sl+4) (.slot s.sl) (fOT (s.sl+2) (s.sl+3) (.slot s.sl) (.slot s.sl))),?_,?_,?_,?_,?_⟩
 ·rw [qU];show(zO (qU hsFG 29 ν) ["x"] [.name x] s [] []).bind _=_;have e:zO (qU hsFG 29 ν) ["x"] [.name x] s [] []=.ok ([("x",s.sl)],[(s.sl,.slot i)],{s with sl:=s.sl+1,tm:=s.tm+1+1}):=by
   rw[zO,cnt (by omega)];show(qU hsFG 29 ν (.name x) {s with tm:=s.tm+1}).bind _=_;rw[wM e (by show s.tm+1<600;omega)];rfl
  rw[e];show(qU hsFG 29 [("x",s.sl)] qV9 {s with sl:=s.sl+1,tm:=s.tm+1+1}).bind _=_;have n:getA [(("x":Str),s.sl)] "x"=some s.sl:=rfl;unfold qV9;rw[vWt (h:=26) (by show s.tm+1+1<600;omega) (wM n (by show s.tm+1+1+1<600;omega)) (by show s.tm+1+1+1+1<600;omega) (vWt (h:=25) (by show s.tm+1+1+1+1+1<600;omega) (wM n (by show s.tm+1+1+1+1+1+1<600;omega)) (by show s.tm+1+1+1+1+1+1+1<600;omega) (wM n (by show s.tm+1+1+1+1+1+1+1+1<600;omega)) (by show s.tm+1+1+1+1+1+1+1+1+1+3<=600;omega)) (by show s.tm+1+1+1+1+1+1+1+1+1+1+1+1+3<=600;omega)];show Res.ok _=Res.ok _;congr 1;simp only[Int.add_assoc];rfl
 ·rw [OT.sl,OT.sl,sl_f,sl_f]
  ·simp[OT.sl]
  ·intro z a;simp[OT.sl]at a;omega
  ·intro z a;rw[sl_f (by intro z a;simp[OT.sl]at a;omega)]at a;simp[OT.sl]at a;omega
 ·simp[OT.ok]
 ·simp[OT.h]
 ·simp[OT.sc]
end
section
variable{kn:List Str}{c dp:Bool}{t d a b:Tm}{ns:List Str}{k:Nat}{ν:Nm}{s:Sd}
theorem op1(g:GT kn c dp t ns k)(hk:∀x∈kn,∃i,getA ν x=some i/\i<s.sl)(A:s.dr.length+k<=60)(D:s.tm+15<=600):∃o C,qU hsFG 30 ν t s=.ok (o,C)/\Opd ν s ns k (cond dp 15 7) o C :=by
 have H:7<=cond dp 15 7:=by cases dp <;> decide
 cases g with
 | leaf l=>
   obtain⟨o,w,e,r,a,b,p,q⟩:=leaf_o (h:=29) (ν:=ν) (s:=s) l (by omega) A;exact⟨o,_,e,by simp[r],by dsimp only;omega,eT _,a,b,by omega,by omega⟩
 | @plus x d k h l=>
   obtain⟨i,e,v⟩:=hk x h;obtain⟨o,w,u,r,a,b,p,q⟩:=leaf_o (h:=28) (ν:=ν) (s:={s with tm:=s.tm+1+1}) l (by dsimp only;omega) A;refine⟨.op .add (.slot i) o,{s with tm:=s.tm+1+1+1,dr:=s.dr ++ w},?_,by simp[r],by dsimp only;omega,eT _,by simp[OT.sl,a,e],by simp[OT.ok,b],by simp[OT.h,p],by simp[OT.sc,q]⟩;rw[qU,cnt (by omega)];show(qU hsFG 29 ν (.name x) {s with tm:=s.tm+1}).bind _=_;rw[wM e (by show s.tm+1<600;omega)];show(qU hsFG 29 ν d {s with tm:=s.tm+1+1}).bind _=_;rw[u];rfl
 | @ite x y d k h h' l=>
   obtain⟨i,e,v⟩:=hk x h;obtain⟨j,B,E⟩:=hk y h';obtain⟨o,w,u,r,a,b,p,q⟩:=leaf_o (h:=28) (ν:=ν) (s:={s with tm:=s.tm+1+1}) l (by dsimp only;omega) A;refine⟨.ite (.slot i) o (.slot j),{s with tm:=s.tm+1+1+1+1,dr:=s.dr ++ w},?_,by simp[r],by dsimp only;omega,eT _,by simp[OT.sl,a,e,B],by simp[OT.ok,b],by simp[OT.h,p],by simp[OT.sc,q]⟩;rw[qU,cnt (by omega)];show(qU hsFG 29 ν (.name x) {s with tm:=s.tm+1}).bind _=_;rw[wM e (by show s.tm+1<600;omega)];show(qU hsFG 29 ν d {s with tm:=s.tm+1+1}).bind _=_;rw[u];show(qU hsFG 29 ν (.name y) {s with tm:=s.tm+1+1+1,dr:=s.dr ++ w}).bind _=_;rw[wM B (by show s.tm+1+1+1<600;omega)];rfl
 | @op2 sg x y h h' =>
   obtain⟨i,e,v⟩:=hk x h;obtain⟨j,B,E⟩:=hk y h';refine⟨.op sg (.slot i) (.slot j),{s with tm:=s.tm+1+1+1},?_,rfl,by dsimp only;omega,eT _,by simp[OT.sl,e,B],by simp[OT.ok],by simp[OT.h],by simp[OT.sc]⟩;rw[qU,cnt (by omega)];show(qU hsFG 29 ν (.name x) {s with tm:=s.tm+1}).bind _=_;rw[wM e (by show s.tm+1<600;omega)];show(qU hsFG 29 ν (.name y) {s with tm:=s.tm+1+1}).bind _=_;rw[wM B (by show s.tm+1+1<600;omega)];rfl
 | @rest x n m h hn hm=>
   obtain⟨i,e,v⟩:=hk x h;refine⟨.rest (.op .add (.slot i) (.num n)) m,{s with tm:=s.tm+1+1+1+1},?_,rfl,by dsimp only;omega,eT _,by simp[OT.sl,e],by simp[OT.ok,hn,hm],by simp[OT.h],by simp[OT.sc]⟩;rw[qU,cnt (by omega)];show(qU hsFG 29 ν (.op .add (.name x) (.num n)) {s with tm:=s.tm+1}).bind _=_;rw[qU,cnt (by show s.tm+1<600;omega)];show((qU hsFG 28 ν (.name x) {s with tm:=s.tm+1+1}).bind _).bind _=_;rw[wM e (by show s.tm+1+1<600;omega)];show((qU hsFG 28 ν (.num n) {s with tm:=s.tm+1+1+1}).bind _).bind _=_;rw[qU,cnt (by show s.tm+1+1+1<600;omega)];rfl
 | @fld x d k f h l=>
   obtain⟨i,e,v⟩:=hk x h;obtain⟨o,w,u,r,a,b,p,q⟩:=leaf_o (h:=27) (ν:=ν) (s:={s with tm:=s.tm+1+1+1}) l (by dsimp only;omega) A;refine⟨.field (.rcd ["q","p"] [.slot i,o]) f,{s with tm:=s.tm+1+1+1+1,dr:=s.dr ++ w},?_,by simp[r],by dsimp only;omega,eT _,by simp[OT.sl,OT.sls,a,e],by simp[OT.ok,OT.oks,b],by simp[OT.h,OT.hs,p],by simp[OT.sc,OT.scs,q]⟩;rw[qU,cnt (by omega)];show(qU hsFG 29 ν (.rcd ["q","p"] [.name x,d]) {s with tm:=s.tm+1}).bind _=_;rw[qU,cnt (by show s.tm+1<600;omega)];show((qV6 (qU hsFG 28 ν) [.name x,d] {s with tm:=s.tm+1+1}).bind _).bind _=_;rw[qV6,wM e (by show s.tm+1+1<600;omega)];show(((qV6 (qU hsFG 28 ν) [d] {s with tm:=s.tm+1+1+1}).bind _).bind _).bind _=_;rw[qV6,u];rfl
 | @g x h hd=>
   obtain⟨i,e,v⟩:=hk x h;obtain⟨o,F,a,b,p,q⟩:=jZx e D;subst hd;exact⟨o,_,F,rfl,by show s.tm+15<=_;exact eT _,by dsimp only;omega,by simp[a,e],b,p,q⟩
 | @f x d k h l=>
   obtain⟨i,e,v⟩:=hk x h;obtain⟨o,w,u,r,a,b,p,q⟩:=leaf_o (h:=28) (ν:=ν) (s:={s with sl:=s.sl+1,tm:=s.tm+1+1+1}) l (by dsimp only;omega) A;refine⟨_,_,vWt (h:=27) (by omega) (wM e (by show s.tm+1<600;omega)) (by show s.tm+1+1<600;omega) u (by show s.tm+1+1+1+1+3<=600;omega),by simp[r],by dsimp only;omega,by dsimp only;omega,?_,by simp[OT.ok,b],by simp[OT.h,p],by simp[OT.sc,q]⟩;rw[sl_f (by rw[a];intro z G;cases G)];simp[OT.sl,a,e]
end
noncomputable abbrev fzI(n:Int):Slot:=sF (.int n)
noncomputable abbrev fzB(b:Bool):Slot:=sF (.bl b)
theorem zWl(m:Int)(c:Bool):∃d k,Lf c d k/\qQs [fzI m,fzB c]=.ok (.fz d.d,[.un,.un]):=by
 cases c with
 |false=>exact⟨.num (m % 5),0,.num ⟨by omega,by omega⟩,by rw[Tm.d];kernel_rfl⟩
 | true=>
   have t:∀{x y:Slot},asB (o2 eqF (oMod (oN 0) (oC (.int 3))) (oC (.int 0))) [fzI m,fzB true,x,y]=.ok (m % 3 == 0,[fzI m,fzB true,x,y]):=by intros;kernel_rfl
   cases q:m % 3 == 0 with
   | false=>
     rw[q]at t;refine⟨.flip (1+m / 3 % 7) (1+m / 3 % 7+1+m / 21 % 9),1,.flip rfl _ _,?_⟩;rw[Tm.d];exact vW (qG (q:=false) (e:=[fzI m,fzB true,.un,.un]) rfl (qI (qG t (qI rfl)))) rfl
   | true=>
     rw[q]at t;have a:∀{l:List D},rg1 [.int (1+m / 3 % 2)]=some l->iL rg1 [(oV (oAdd (oC (.int 1)) (oMod (oDiv (oN 0) (oC (.int 3))) (oC (.int 2)))))] [fzI m,fzB true,.un,.un]=.ok (l,[fzI m,fzB true,.un,.un]):=fun h=>qQn (xs:=[.int (1+m / 3 % 2)]) rfl h rfl
     rcases(by omega:m / 3 % 2=0\/m / 3 % 2=1) with w|w
     ·have a:=a (l:=[.int 0]) (by rw [w];rfl);refine⟨.pick [(m / 3 % 4+5 * 0,1+m / (0+4) % 999)],1,.pick rfl _,?_⟩;rw[Tm.d];exact vW (qG (q:=false) (e:=[fzI m,fzB true,.un,.un]) rfl (qI (qG t (qXe (qJ (yU a rfl rfl rfl) rfl))))) rfl
     ·have a:=a (l:=[.int 0, .int 1]) (by rw [w];rfl);refine⟨.pick [(m / 3 % 4+5 * 0,1+m / (0+4) % 999),(m / 3 % 4+5 * 1,1+m / (1+4) % 999)],1,.pick rfl _,?_⟩;rw[Tm.d];exact vW (qG (q:=false) (e:=[fzI m,fzB true,.un,.un]) rfl (qI (qG t (qXe (qJ (yU a rfl rfl rfl) rfl))))) rfl
noncomputable abbrev lsD(kn:List Str):D:=.nd .lst (kn.map .str)
theorem md{m r n:Int}(a:0<n)(h:m % n=r):i2g (fun _ j=>0<j) (fun i j=>i % j) (.int m) (.int n)=some (.int r):=by
 show(if 0<n then some (D.int (m % n)) else none)=_;rw[if_pos a,h]
theorem zK5(hk:kn≠ [])(m:Int):∃x∈kn,ixD (lsD kn) (.int (m % (kn.length:Nat)))=some (.str x):=by
 have e:0<kn.length:=List.length_pos_iff.mpr hk;have b:=Int.emod_nonneg m (show((kn.length:Nat):Int)≠0 by omega);have c:=Int.emod_lt_of_pos m (show(0:Int)<(kn.length:Nat) by omega);obtain⟨j,d⟩:=Int.eq_ofNat_of_zero_le b;rw[d]at c⊢;have a:j<kn.length:=by omega
 refine⟨kn[j],List.getElem_mem a,?_⟩;exact qWt (show(kn.map D.str)[j]?=some (.str kn[j]) by rw[bM,aD a];rfl)
section
variable{kn:List Str}{x y:Str}{c dp:Bool}{n m j:Int}{d:D}{x0 x2 x3 x4 x6 x7 x8:Slot}
noncomputable abbrev tE(x0:Slot)(kn:List Str)(x2 x3:Slot)(j m:Int)(d:D)(x y:Str):Ev:=[x0,sF (lsD kn),x2,x3,fzI j,fzI m,sF d,sF (.tup [.str "name",.str x]),sF (.tup [.str "name",.str y])]
theorem qJ1{s c:Str}{n r:Int}(a:0<n)(h:m / 56 % n=r)(b:ixD (.str s) (.int r)=some (.str c)):oV (oIx (oC (.str s)) (oMod (oDiv (oN 5) (oC (.int 56))) (oC (.int n)))) (tE x0 kn x2 x3 j m d x y)=.ok (.str c,tE x0 kn x2 x3 j m d x y):=by
 refine vT (zI (h1:=.d (.str s)) (h2:=.d (.int r)) rfl (zQ (h1:=.d (.int (m / 56))) (h2:=.d (.int n)) rfl rfl rfl rfl rfl (md a h) rfl) rfl rfl ?_ rfl) rfl;show(ixD (.str s) (.int r)).map Hn.d=_;rw[b];rfl
theorem sg_ix:∃s:Sg,oV (oIx (oC (.str "*=<-")) (oMod (oDiv (oN 5) (oC (.int 56))) (oC (.int 4)))) (tE x0 kn x2 x3 j m d x y)=.ok (.str s.s,tE x0 kn x2 x3 j m d x y):=by
 rcases(by omega:m / 56 % 4=0\/m / 56 % 4=1\/m / 56 % 4=2\/m / 56 % 4=3) with w|w|w|w
 ·exact⟨.mul,qJ1 (by decide) w (by kernel_rfl)⟩
 ·exact⟨.eq,qJ1 (by decide) w (by kernel_rfl)⟩
 ·exact⟨.lt,qJ1 (by decide) w (by kernel_rfl)⟩
 ·exact⟨.sub,qJ1 (by decide) w (by kernel_rfl)⟩
theorem fn_ix:∃s:Str,oV (oIx (oC (.str "pqr")) (oMod (oDiv (oN 5) (oC (.int 56))) (oC (.int 3)))) (tE x0 kn x2 x3 j m d x y)=.ok (.str s,tE x0 kn x2 x3 j m d x y):=by
 rcases(by omega:m / 56 % 3=0\/m / 56 % 3=1\/m / 56 % 3=2) with w|w|w
 ·exact⟨"p",qJ1 (by decide) w (by kernel_rfl)⟩
 ·exact⟨"q",qJ1 (by decide) w (by kernel_rfl)⟩
 ·exact⟨"r",qJ1 (by decide) w (by kernel_rfl)⟩
end
section
variable{kn:List Str}{c dp:Bool}{n:Int}
set_option maxHeartbeats 4000000 in
theorem vXy(n:Int)(kn:List Str)(c p:Bool):∃t ns k,GT kn c p t ns k/\xD [fzI n,sF (lsD kn),fzB c,fzB p]=.ok (.fz t.d,[.un,.un,.un,.un]):=by
 obtain⟨d,k,l,F⟩:=zWl (n / 8 / 56) c;have r:∀{j:Int} {x6 x7 x8:Slot},qM qQs [(.v (oV (oDiv (oN 5) (oC (.int 56))))),(.v (oV (oN 2)))] [fzI n,sF (lsD kn),fzB c,fzB p,fzI j,fzI (n / 8),x6,x7,x8]=.ok (.fz d.d,[fzI n,sF (lsD kn),fzB c,fzB p,fzI j,fzI (n / 8),x6,x7,x8]):=by
  intros;exact vJ (vY (d:=.int (n / 8 / 56)) rfl (vY (d:=.bl c) rfl (vU rfl) rfl) rfl) (qN rfl rfl rfl F rfl rfl rfl)
 by_cases G:kn=[]
 ·subst G;exact⟨d,[],k,.leaf l,vW (qJ (o:=.fz (.int (n % 8))) rfl (qJ (o:=.fz (.int (n / 8))) rfl (qJ r (qG (q:=true) rfl (qJf rfl rfl))))) rfl⟩
 ·have J:(0:Int) < ((kn.map D.str).length :Nat):=by rw [aZ];have:=List.length_pos_iff.mpr G;omega
  obtain⟨x,E,K⟩:=zK5 G (n / 8);obtain⟨y,H,L⟩:=zK5 G (n / 8 / 7);have s:∀{j:Int},n % 8=j->owS (oV (oMod (oN 0) (oC (.int 8)))) [fzI n,sF (lsD kn),fzB c,fzB p,.un,.un,.un,.un,.un]=.ok (.fz (.int j),[fzI n,sF (lsD kn),fzB c,fzB p,.un,.un,.un,.un,.un]):=fun h=>by rw[←h];rfl
  have i:∀{e:Ev},asB (o2 eqQ (oN 1) (.v (fzS (eLst [])))) (fzI n::sF (lsD kn)::e)=.ok (false,fzI n::sF (lsD kn)::e):=by
   intro e;refine j5 (d:=.bl false) (vT (zQ (h1:=.d (lsD kn)) (h2:=.d (.nd .lst [])) rfl rfl rfl rfl rfl ?_ rfl) rfl) rfl rfl;cases kn with
   |nil=>exact absurd rfl G
   |cons=>rfl
  have I:∀{e:Ev} {a b j:Slot} {oa:Oe} {z:Str} {w:Int},evO oa (fzI n::sF (lsD kn)::a::b::j::fzI (n / 8)::e)=.ok (.d (.int w),fzI n::sF (lsD kn)::a::b::j::fzI (n / 8)::e)->oa.isP=true->ixD (lsD kn) (.int (w % (kn.length:Nat)))=some (.str z)->owS (svTup [(oV (oC (.str "name"))),(oV (oIx (oN 1) (oMod oa (oL lenD [(oN 1)]))))]) (fzI n::sF (lsD kn)::a::b::j::fzI (n / 8)::e)=.ok (.fz (.tup [.str "name",.str z]),fzI n::sF (lsD kn)::a::b::j::fzI (n / 8)::e):=by
   intro e a b j oa z w M Q N;refine wL (qVd (vQ (d:=.str "name") rfl (vQ (vT (zI (h1:=.d (lsD kn)) (h2:=.d (.int (w % ((kn.map D.str).length :Nat)))) rfl (zQ (h1:=.d (.int w)) (h2:=.d (.int ((kn.map D.str).length :Nat))) M rfl rfl rfl rfl (md J rfl) rfl) rfl rfl ?_ rfl) rfl) (jW rfl) rfl) rfl) rfl rfl) rfl;show(ixD (lsD kn) _).map Hn.d=_;rw[aZ,N];rfl
  have u:=fun {e:Ev} {a b j:Slot}=>I (e:=e) (a:=a) (b:=b) (j:=j) (oa:=oN 5) (w:=n / 8) rfl rfl K
  have A:=fun {e:Ev} {a b j:Slot}=>I (e:=e) (a:=a) (b:=b) (j:=j) (oa:=oDiv (oN 5) (oC (.int 7))) (w:=n / 8 / 7) rfl rfl L
  have B:∀{j:Int},owS (oV (oDiv (oN 0) (oC (.int 8)))) [fzI n,sF (lsD kn),fzB c,fzB p,fzI j,.un,.un,.un,.un]=.ok (.fz (.int (n / 8)),[fzI n,sF (lsD kn),fzB c,fzB p,fzI j,.un,.un,.un,.un]):=rfl;obtain⟨O,hs⟩:=sg_ix (x0:=fzI n) (kn:=kn) (x2:=fzB c) (x3:=fzB p) (j:=3) (m:=n / 8) (d:=d.d) (x:=x) (y:=y);obtain⟨f,P⟩:=fn_ix (x0:=fzI n) (kn:=kn) (x2:=fzB c) (x3:=fzB p) (j:=5) (m:=n / 8) (d:=d.d) (x:=x) (y:=y);rcases(by omega:n % 8=0\/n % 8=1\/n % 8=2\/n % 8=3\/n % 8=4\/n % 8=5\/n % 8=6\/n % 8=7) with h|h|h|h|h|h|h|h
  ·exact⟨d,[],k,.leaf l,vW (qJ (s h) (qJ B (qJ r (qG i (qI (qJ u (qJ A rfl))))))) rfl⟩
  ·exact⟨_,_,k,.plus E l,vW (qJ (s h) (qJ B (qJ r (qG i (qI (qJ u (qJ A rfl))))))) (by rw[Tm.d,Tm.d];rfl)⟩
  ·exact⟨_,_,k,.ite E H l,vW (qJ (s h) (qJ B (qJ r (qG i (qI (qJ u (qJ A rfl))))))) (by rw[Tm.d,Tm.d,Tm.d];rfl)⟩
  ·exact⟨_,_,0,.op2 O E H,vW (qJ (s h) (qJ B (qJ r (qG i (qI (qJ u (qJ A (qG (q:=false) rfl (qI (qG (q:=false) rfl (qI (qG (q:=true) rfl (qJf (wL (qVd (vQ (d:=.str "op") rfl (vQ hs (vQ rfl (vQ rfl (jW rfl) rfl) rfl) rfl) rfl) rfl rfl) rfl) rfl))))))))))))) (by rw[Tm.d,Tm.d,Tm.d];rfl)⟩
  ·exact⟨_,_,0,.rest E (n:=n / 8 % 7) (m:=2+n / 8 % 3) ⟨by omega,by omega⟩ (by omega),vW (qJ (s h) (qJ B (qJ r (qG i (qI (qJ u (qJ A rfl))))))) (by rw[Tm.d,Tm.d,Tm.d,Tm.d];rfl)⟩
  ·exact⟨_,_,k,.fld f E l,vW (qJ (s h) (qJ B (qJ r (qG i (qI (qJ u (qJ A (qG (q:=false) rfl (qI (qG (q:=false) rfl (qI (qG (q:=false) rfl (qI (qG (q:=false) rfl (qI (qG (q:=true) rfl (qJf (wL (qVd (vQ (d:=.str "field") rfl (vQ (d:=.tup [.str "record",.tup [.tup [.str "q",.tup [.str "name",.str x]],.tup [.str "p",d.d]]]) rfl (vQ P (jW rfl) rfl) rfl) rfl) rfl rfl) rfl) rfl))))))))))))))))) (by rw[Tm.d,Tm.d,Tm.ds,Tm.ds,Tm.ds,Tm.d];rfl)⟩
  ·have C:∀{q:Bool},(n / 8 / 56 % 2 == 1)=q->bAnd (asB (o2 eqF (oN 4) (oC (.int 6)))) (bAnd (asB (oN 3)) (asB (o2 eqF (oMod (oDiv (oN 5) (oC (.int 56))) (oC (.int 2))) (oC (.int 1))))) (tE (fzI n) kn (fzB c) (fzB p) 6 (n / 8) d.d x y)=.ok (p && q,tE (fzI n) kn (fzB c) (fzB p) 6 (n / 8) d.d x y):=fun e=>by
    rw[←e];cases p <;> rfl
   cases F:p && (n / 8 / 56 % 2 == 1) with
   | true=>
     have C:=C rfl;rw[F]at C;exact⟨_,_,0,.g E (by cases p;cases F;rfl),vW (qJ (s h) <| qJ B <| qJ r <| qG i <| qI <| qJ u <| qJ A <| qG (q:=false) rfl <| qI <| qG (q:=false) rfl <| qI <| qG (q:=false) rfl <| qI <| qG (q:=false) rfl <| qI <| qG (q:=false) rfl <| qI <| qG C <| qJf rfl rfl) (by rw[Tm.d,Tm.ds,Tm.ds,Tm.d];rfl)⟩
   | false=>
     have C:=C rfl;rw[F]at C;exact⟨_,_,k,.f E l,vW (qJ (s h) <| qJ B <| qJ r <| qG i <| qI <| qJ u <| qJ A <| qG (q:=false) rfl <| qI <| qG (q:=false) rfl <| qI <| qG (q:=false) rfl <| qI <| qG (q:=false) rfl <| qI <| qG (q:=false) rfl <| qI <| qG C <| qI rfl) (by rw[Tm.d,Tm.ds,Tm.ds,Tm.ds,Tm.d];rfl)⟩
  ·exact⟨d,[],k,.leaf l,vW (qJ (s h) (qJ B (qJ r (qG i (qI (qJ u (qJ A rfl))))))) rfl⟩
end
theorem ml{a b:Int}(h:IntMulOk a b):i2g IntMulOk (fun i j=>i * j) (.int a) (.int b)=some (.int (a * b)):=if_pos h
theorem bits:∀k:Nat,k<=40->Builtin.Int.intBits (k:Int)<=64:=by decide +kernel
noncomputable def xT:List Str:=["a","b","c","d","e","f","g","h"]
noncomputable abbrev rO(R:List Rw):Slot:=.s false (.ow .lst ((R.map Rw.d).map .fz))
noncomputable abbrev rE(x0:Slot)(room:Int)(R:List Rw)(x4:Slot)(k:Nat)(cell:Int)(x7 x8 x9 x10:Slot):Ev:=[x0,fzI room,sF (.str ""),rO R,x4,fzI (k:Nat),fzI cell,x7,x8,x9,x10]
section
variable{x0 x4 x7 x8 x9 x10:Slot}{room cell N:Int}{R:List Rw}{k:Nat}{w:Str}
theorem num_ok(hk:k<=40):∃N:Int,oV (oMod (oMul (oAdd (oAdd (oMod (oN 6) (oPow (oC (.int 10)) (oC (.int 15)))) (oMul (oMul (oC (.int 104729)) (oN 5)) (oN 5))) (oC (.int 11))) (oC (.int 48271))) (oC (.int 2147483647))) (rE x0 room R x4 k cell x7 x8 x9 x10)=.ok (.int N,rE x0 room R x4 k cell x7 x8 x9 x10):=by
 have a:evO (oMul (oC (.int 104729)) (oN 5)) (rE x0 room R x4 k cell x7 x8 x9 x10)=.ok (.d (.int (104729 * (k:Nat))),rE x0 room R x4 k cell x7 x8 x9 x10):=zQ (h1:=.d (.int 104729)) (h2:=.d (.int (k:Nat))) rfl rfl rfl rfl rfl (ml (.of_left (by decide +kernel))) rfl;have b:evO (oMul (oMul (oC (.int 104729)) (oN 5)) (oN 5)) (rE x0 room R x4 k cell x7 x8 x9 x10)=.ok (.d (.int (104729 * (k:Nat) * (k:Nat))),rE x0 room R x4 k cell x7 x8 x9 x10):=zQ a (h2:=.d (.int (k:Nat))) rfl rfl rfl rfl (ml (.of_right (bits k hk))) rfl;have c:evO (oMod (oN 6) (oPow (oC (.int 10)) (oC (.int 15)))) (rE x0 room R x4 k cell x7 x8 x9 x10)=.ok (.d (.int (cell % 10 ^ 15)),rE x0 room R x4 k cell x7 x8 x9 x10):=by kernel_rfl
 exact⟨_,vT (zQ (zQ (zQ (h2:=.d (.int 11)) (zQ c b rfl rfl rfl rfl rfl) rfl rfl rfl rfl rfl rfl) (h2:=.d (.int 48271)) rfl rfl rfl rfl (ml (.of_right (by decide +kernel))) rfl) (h2:=.d (.int 2147483647)) rfl rfl rfl rfl (md (by decide) rfl) rfl) rfl⟩
theorem ix8:∀j:Nat,j<8->∃w∈xT,ixD (.str "abcdefgh") (.int (j:Nat))=some (.str w):=by
 intro j a;match j,a with
 | 0,_=>exact⟨"a",by simp[xT],by kernel_rfl⟩
 | 1,_=>exact⟨"b",by simp[xT],by kernel_rfl⟩
 | 2,_=>exact⟨"c",by simp[xT],by kernel_rfl⟩
 | 3,_=>exact⟨"d",by simp[xT],by kernel_rfl⟩
 | 4,_=>exact⟨"e",by simp[xT],by kernel_rfl⟩
 | 5,_=>exact⟨"f",by simp[xT],by kernel_rfl⟩
 | 6,_=>exact⟨"g",by simp[xT],by kernel_rfl⟩
 | 7,_=>exact⟨"h",by simp[xT],by kernel_rfl⟩
theorem add0:∀w∈xT,addS (.str w) (.str "")=some (.str w):=by
 intro w a;simp only[xT,aG,List.not_mem_nil,or_false]at a;rcases a with rfl|rfl|rfl|rfl|rfl|rfl|rfl|rfl <;> kernel_rfl
theorem word_ok:∃w∈xT,oV (o2 addS (oIx (oC (.str "abcdefgh")) (oMod (oDiv (oN 7) (oC (.int 8))) (oC (.int 8)))) (oN 2)) (rE x0 room R x4 k cell (fzI N) x8 x9 x10)=.ok (.str w,rE x0 room R x4 k cell (fzI N) x8 x9 x10):=by
 obtain⟨j,b⟩:=Int.eq_ofNat_of_zero_le (show 0<=N / 8 % 8 by omega);obtain⟨w,a,e⟩:=ix8 j (by omega);refine⟨w,a,vT (zQ (h1:=.d (.str w)) (h2:=.d (.str "")) (zI (h1:=.d (.str "abcdefgh")) (h2:=.d (.int (N / 8 % 8))) rfl rfl rfl rfl ?_ rfl) rfl rfl rfl rfl (add0 w a) rfl) rfl⟩;show(ixD (.str "abcdefgh") (.int (N / 8 % 8))).map Hn.d=_;grind
end
theorem vYt(x:Str):∀ps:List Str,inV (.str x) (ps.map V.str)=decide (x∈ps)
 |[]=>rfl
 | p::ps=>by
   have:=vYt x ps;unfold inV at this⊢;rw[aL,eY,this];show((p == x) || _)=_;grind
theorem jZi{x:Str}{ps:List Str}:inB (.str x) (lsD ps)=some (decide (x∈ps)):=by
 show((some (V.str x)).bind fun v=>(allV (ps.map .str)).bind fun a=>some (inV v a))=_;rw[qKs];show some (inV (.str x) (ps.map V.str))=_;rw[vYt]
noncomputable abbrev kO(b:Bool)(kn:List Str):Slot:=.s false (cond b (.ow .lst ((kn.map D.str).map .fz)) (.fz (lsD kn)))
inductive Stp(k:Nat)(kn:List Str)(room:Int):Rw->List Str->Int->Prop
 |see {t:Tm} {ns:List Str} {d:Nat} {dp:Bool} (hd:dp=true->k<13) (g:GT kn (decide (1<=room)) dp t ns d):Stp k kn room (.see t) kn (room - d)
 |ag {m:Nat} {x:Str} {t:Tm} {ns:List Str} {d:Nat} {dp:Bool} (hx:x∈kn) (hm:m=1\/k<13/\m<=3) (hd:dp=true->k<13/\m=1) (g:GT kn (decide ((m:Int)<=room)) dp t ns d):Stp k kn room (.ag m x t) kn (room - m * d)
 |lt {x:Str} {t:Tm} {ns:List Str} {d:Nat} {dp:Bool} (hd:dp=true->k<13) (g:GT kn (decide (1<=room)) dp t ns d):Stp k kn room (.lt x t) (kn.filter (fun y=>!(y == x)) ++ [x]) (room - d)
section
variable{x0 x4 x7 x8 x9 x10:Slot}{room cell N:Int}{R:List Rw}{k:Nat}{w:Str}{b:Bool}{kn:List Str}{m:Int}
theorem zK7:asB (o2 inD (oN 8) (oN 4)) (rE x0 room R (kO b kn) k cell (fzI N) (sF (.str w)) x9 x10)=.ok (decide (w∈kn),rE x0 room R (kO b kn) k cell (fzI N) (sF (.str w)) x9 x10):=by
 have e:inD (.str w) (lsD kn)=some (.bl (decide (w∈kn))):=by unfold inD;rw[jZi];rfl
 cases b with
 |false=>exact j5 (vT (zQ (h1:=.d (.str w)) (h2:=.d (lsD kn)) rfl rfl rfl rfl rfl e rfl) rfl) rfl rfl
 |true=>exact j5 (vT (zQ (h1:=.d (.str w)) (h2:=.p 4 []) (y:=lsD kn) rfl rfl rfl rfl (by rw[show lsD kn=fzO (.ow .lst ((kn.map D.str).map .fz)) from(vZ _).symm];rfl) e rfl) rfl) rfl rfl
theorem jWa:oV (oN 4) (rE x0 room R (kO b kn) k cell x7 x8 x9 x10)=.ok (lsD kn,rE x0 room R (kO false kn) k cell x7 x8 x9 x10):=by
 cases b with
 |false=>rfl
 | true=>
   show _=Res.ok (D.nd .lst (kn.map D.str),[x0,fzI room,sF (.str ""),rO R,.s false (.fz (.nd .lst (kn.map D.str))),fzI (k:Nat),fzI cell,x7,x8,x9,x10]);rw[←vZ (k:=.lst) (kn.map D.str)];rfl
theorem term_s(m:Int):∃t ns d a,(a=true->k<13/\m=1)/\GT kn (decide (m<=room)) a t ns d/\qM xD [(.v (oV (oDiv (oN 7) (oC (.int 256))))),(.v (oV (oN 4))),(.v (oV (oLe (oN 9) (oN 1)))),(.v (oV (oAnd (oLt (oN 5) (oC (.int 13))) (o2 eqF (oN 9) (oC (.int 1))))))] (rE x0 room R (kO b kn) k cell (fzI N) x8 (fzI m) x10)=.ok (.fz t.d,rE x0 room R (kO false kn) k cell (fzI N) x8 (fzI m) x10):=by
 have c:∃a,(a=true->k<13/\m=1)/\oV (oAnd (oLt (oN 5) (oC (.int 13))) (o2 eqF (oN 9) (oC (.int 1)))) (rE x0 room R (kO false kn) k cell (fzI N) x8 (fzI m) x10)=.ok (.bl a,rE x0 room R (kO false kn) k cell (fzI N) x8 (fzI m) x10):=by
  have l:asB (oLt (oN 5) (oC (.int 13))) (rE x0 room R (kO false kn) k cell (fzI N) x8 (fzI m) x10)=.ok (decide (((k:Nat):Int)<13),rE x0 room R (kO false kn) k cell (fzI N) x8 (fzI m) x10):=rfl;by_cases h:k<13
  ·rw [decide_eq_true (by omega)] at l;refine⟨m == 1,fun e=>⟨h,by simpa using e⟩,vT (h1:=.d (.bl (m == 1))) (zS (d:=.bl (m == 1)) ?_ rfl) rfl⟩;exact xE l rfl
  ·rw [decide_eq_false (by omega)] at l;exact⟨false,fun e=>(by cases e),vT (h1:=.d (.bl false)) (zS (d:=.bl false) (xE l rfl) rfl) rfl⟩
 obtain⟨a,f,c⟩:=c;obtain⟨t,ns,d,g,i⟩:=vXy (N / 256) kn (decide (m<=room)) a;exact⟨t,ns,d,a,f,g,vJ (vY (d:=.int (N / 256)) rfl (vY jWa (vY (d:=.bl (decide (m<=room))) rfl (vY c (vU rfl) rfl) rfl) rfl) rfl) (qN rfl rfl rfl i rfl rfl rfl)⟩
end
section
variable{x0 x4 x7 x8 x9 x10:Slot}{room cell N:Int}{R:List Rw}{k:Nat}{w:Str}{b:Bool}{kn:List Str}
theorem zVn{r:Rw}{v:SV}(h:v (rE x0 room R (kO false kn) k cell x7 x8 x9 x10)=.ok (r.d,rE x0 room R (kO false kn) k cell x7 x8 x9 x10))(hl:R.length<=1000):eMu1 (pOf (oN 3)) (owS v) apF (rE x0 room R (kO false kn) k cell x7 x8 x9 x10)=.ok (.fz .non,rE x0 room (R ++ [r]) (kO false kn) k cell x7 x8 x9 x10):=by
 have a:apF ((R.map Rw.d).map .fz) (.fz r.d)=some (.fz .non,((R ++ [r]).map Rw.d).map .fz):=by
  unfold apF;grind
 exact yQ (i:=3) (π:=[]) (os0:=(R.map Rw.d).map .fz) (os:=(R.map Rw.d).map .fz) rfl rfl (wL h rfl) rfl rfl a rfl
theorem rnd_ok:∃m:Nat,(m=1\/k<13/\N % 8=1/\w∈kn/\m<=3)/\∀{t:SS} {X:Res Out},t (rE x0 room R (kO b kn) k cell (fzI N) (sF (.str w)) (fzI (m:Nat)) x10)=X->sSeq (sIf (bAnd (asB (o2 eqF (oMod (oN 7) (oC (.int 8))) (oC (.int 1)))) (bAnd (asB (oLt (oN 5) (oC (.int 13)))) (asB (o2 inD (oN 8) (oN 4))))) (sSet 9 (owS (oV (oMod (oDiv (oN 7) (oC (.int 64))) (oC (.int 4)))))) sNil) t (rE x0 room R (kO b kn) k cell (fzI N) (sF (.str w)) (fzI 1) x10)=X:=by
 have a:asB (o2 eqF (oMod (oN 7) (oC (.int 8))) (oC (.int 1))) (rE x0 room R (kO b kn) k cell (fzI N) (sF (.str w)) (fzI 1) x10)=.ok (N % 8 == 1,rE x0 room R (kO b kn) k cell (fzI N) (sF (.str w)) (fzI 1) x10):=rfl;have c2:asB (oLt (oN 5) (oC (.int 13))) (rE x0 room R (kO b kn) k cell (fzI N) (sF (.str w)) (fzI 1) x10)=.ok (decide (((k:Nat):Int)<13),rE x0 room R (kO b kn) k cell (fzI N) (sF (.str w)) (fzI 1) x10):=rfl;have c:=zK7 (x0:=x0) (room:=room) (R:=R) (b:=b) (kn:=kn) (k:=k) (cell:=cell) (N:=N) (w:=w) (x9:=fzI 1) (x10:=x10);by_cases h:N % 8=1/\k<13/\w∈kn
 ·obtain⟨j,f⟩:=Int.eq_ofNat_of_zero_le (show 0<=N / 64 % 4 by omega);refine⟨j,.inr ⟨h.2.1,h.1,h.2.2,by omega⟩,fun {t X} e=>?_⟩;have s:(owS (oV (oMod (oDiv (oN 7) (oC (.int 64))) (oC (.int 4))))) (rE x0 room R (kO b kn) k cell (fzI N) (sF (.str w)) (fzI 1) x10)=.ok (.fz (.int (N / 64 % 4)),rE x0 room R (kO b kn) k cell (fzI N) (sF (.str w)) (fzI 1) x10):=rfl;rw[f]at s;rw[beq_iff_eq.mpr h.1]at a;rw[decide_eq_true (by omega)]at c2;rw[decide_eq_true h.2.2]at c;exact qG (yR a (jE rfl (yR c2 (jE rfl c)))) (qJ s e)
 ·refine⟨1, .inl rfl,fun {t X} e=>?_⟩;refine qG (q:=false) (e:=rE x0 room R (kO b kn) k cell (fzI N) (sF (.str w)) (fzI 1) x10) ?_ e;by_cases d:N % 8=1
  ·rw [beq_iff_eq.mpr d] at a;refine yR a (jE rfl ?_);by_cases g:k<13
   ·rw [decide_eq_true (by omega)] at c2;rw[decide_eq_false (fun z=>h ⟨d,g,z⟩)]at c;exact yR c2 (jE rfl c)
   ·rw [decide_eq_false (by omega)] at c2;exact yR c2 (v6 rfl rfl)
  ·rw [show(N % 8 == 1)=false by simpa using d] at a;exact yR a (v6 rfl rfl)
theorem kn_flt:∀(ks:List Str) (y:Slot),∃a,jP (gN 0) (asB (o2 neF (oN 0) (oN 1))) (oV (oN 0)) (ks.map D.str) [y,sF (.str w)]=.ok ((ks.filter fun y=>!(y == w)).map D.str,[a,sF (.str w)])
 |[],y=>⟨y,rfl⟩
 | j::l,y=>by
   have t:asB (o2 neF (oN 0) (oN 1)) [sF (.str j),sF (.str w)]=.ok (!(j == w),[sF (.str j),sF (.str w)]):=rfl;obtain⟨a,b⟩:=kn_flt l (sF (.str j));refine⟨a,?_⟩;rw[aL];cases q:(!(j == w)) with
   | true=>
     rw[q]at t;rw[qQp (e1:=[sF (.str j),sF (.str w)]) (v:=.str j) rfl t rfl,b,List.filter_cons_of_pos (by simpa using q)];rfl
   | false=>
     rw[q]at t;rw[qYm (e1:=[sF (.str j),sF (.str w)]) rfl t,b,List.filter_cons_of_neg (by simpa using q)]
end
section
variable{x0 x4 x7 x8 x9 x10:Slot}{room cell N:Int}{R:List Rw}{k:Nat}{w:Str}{b:Bool}{kn:List Str}
theorem jWk(hl:kn.length<=900):eCat (.v (fzS (compS 2 [(1,8)] [0] (iV (oV (oN 4))) (gN 0) (asB (o2 neF (oN 0) (oN 1))) (oV (oN 0))))) (.v (fzS (eLst [(oV (oN 8))]))) (rE x0 room R (kO false kn) k cell x7 (sF (.str w)) x9 x10)=.ok (.ow .lst (((kn.filter (fun y=>!(y == w)) ++ [w]).map D.str).map .fz),rE x0 room R (kO false kn) k cell x7 (sF (.str w)) x9 x10):=by
 obtain⟨e,a⟩:=kn_flt (w:=w) kn .un;have f:=List.length_filter_le (fun y=>!(y == w)) kn;have b:fzS (compS 2 [(1,8)] [0] (iV (oV (oN 4))) (gN 0) (asB (o2 neF (oN 0) (oN 1))) (oV (oN 0))) (rE x0 room R (kO false kn) k cell x7 (sF (.str w)) x9 x10)=.ok (.nd .lst ((kn.filter (fun y=>!(y == w))).map D.str),rE x0 room R (kO false kn) k cell x7 (sF (.str w)) x9 x10):=by
  refine xC (yI (d:=lsD kn) rfl rfl rfl) ?_ a rfl;rw[aZ,decide_eq_true (aR (show kn.length<=1000 by omega) (by decide))];rfl
 have c:=cat2 (zS b rfl) (zS (v:=fzS (eLst [(oV (oN 8))])) (d:=.nd .lst [.str w]) rfl rfl) (by rw[aZ];show _+1<=1000;omega);rw[bF];exact c
theorem step_ok(hk:k<=40)(F:R.length<=900)(G:kn.length<=900):∃r kn' room' p s u x i,Stp k kn room r kn' room' /\yE (rE x0 room R (kO b kn) k cell x7 x8 x9 x10)=.ok (.nx (rE x0 room' (R ++ [r]) (kO p kn') k cell s u x i)):=by
 obtain⟨N,y⟩:=num_ok (x0:=x0) (room:=room) (R:=R) (x4:=kO b kn) (cell:=cell) (x7:=x7) (x8:=x8) (x9:=x9) (x10:=x10) hk;obtain⟨w,_,A⟩:=word_ok (x0:=x0) (room:=room) (R:=R) (x4:=kO b kn) (k:=k) (cell:=cell) (N:=N) (x8:=x8) (x9:=x9) (x10:=x10);obtain⟨m,B,C⟩:=rnd_ok (x0:=x0) (room:=room) (R:=R) (b:=b) (kn:=kn) (k:=k) (cell:=cell) (N:=N) (w:=w) (x10:=x10);obtain⟨t,H,d,I,f,g,D⟩:=term_s (x0:=x0) (room:=room) (R:=R) (b:=b) (kn:=kn) (k:=k) (cell:=cell) (N:=N) (x8:=sF (.str w)) (x10:=x10) (m:Nat);have E:fzS (qM (wH 30) [(.v (oV (oN 10)))]) (rE x0 room R (kO false kn) k cell (fzI N) (sF (.str w)) (fzI (m:Nat)) (sF t.d))=.ok (.int (d:Nat),rE x0 room R (kO false kn) k cell (fzI N) (sF (.str w)) (fzI (m:Nat)) (sF t.d)):=jK (vJ (vY (d:=t.d) rfl (vU rfl) rfl) (qN rfl rfl rfl (zWs g) rfl rfl rfl)) rfl;have J:m<=3:=by omega
 have hs:owS (oV (oSub (oN 1) (oMul (oN 9) (.v (fzS (qM (wH 30) [(.v (oV (oN 10)))])))))) (rE x0 room R (kO false kn) k cell (fzI N) (sF (.str w)) (fzI (m:Nat)) (sF t.d))=.ok (.fz (.int (room - (m:Nat) * (d:Nat))),rE x0 room R (kO false kn) k cell (fzI N) (sF (.str w)) (fzI (m:Nat)) (sF t.d)):=
  wL (vT (zQ (h1:=.d (.int room)) (h2:=.d (.int ((m:Nat) * (d:Nat)))) rfl (zQ (h1:=.d (.int (m:Nat))) (h2:=.d (.int (d:Nat))) rfl (zS E rfl) rfl rfl rfl (ml (.of_left (bits m (by omega)))) rfl) rfl rfl rfl rfl rfl) rfl) rfl
 have a:∀{room:Int},asB (o2 eqF (oMod (oN 7) (oC (.int 8))) (oC (.int 0))) (rE x0 room R (kO false kn) k cell (fzI N) (sF (.str w)) (fzI (m:Nat)) (sF t.d))=.ok (N % 8 == 0,rE x0 room R (kO false kn) k cell (fzI N) (sF (.str w)) (fzI (m:Nat)) (sF t.d)):=rfl;have c:∀{room:Int},asB (o2 eqF (oMod (oN 7) (oC (.int 8))) (oC (.int 1))) (rE x0 room R (kO false kn) k cell (fzI N) (sF (.str w)) (fzI (m:Nat)) (sF t.d))=.ok (N % 8 == 1,rE x0 room R (kO false kn) k cell (fzI N) (sF (.str w)) (fzI (m:Nat)) (sF t.d)):=rfl;have c2:=fun {room:Int}=>zK7 (x0:=x0) (room:=room) (R:=R) (b:=false) (kn:=kn) (k:=k) (cell:=cell) (N:=N) (w:=w) (x9:=fzI (m:Nat)) (x10:=sF t.d)
 have j:∀{X:Res Out} {room' :Int},room - (m:Nat) * (d:Nat)=room' ->(sIf (asB (o2 eqF (oMod (oN 7) (oC (.int 8))) (oC (.int 0)))) (zV (eMu1 (pOf (oN 3)) (owS (svTup [(oV (oC (.str "see"))),(oV (oN 10))])) apF)) (sIf (bAnd (asB (o2 eqF (oMod (oN 7) (oC (.int 8))) (oC (.int 1)))) (asB (o2 inD (oN 8) (oN 4)))) (zV (eMu1 (pOf (oN 3)) (owS (svTup [(oV (oC (.str "again"))),(oV (oN 9)),(oV (oN 8)),(oV (oN 10))])) apF)) (sSeq (zV (eMu1 (pOf (oN 3)) (owS (svTup [(oV (oC (.str "let"))),(oV (oN 8)),(oV (oN 10))])) apF))
  (sSet 4 (eCat (.v (fzS (compS 2 [(1,8)] [0] (iV (oV (oN 4))) (gN 0) (asB (o2 neF (oN 0) (oN 1))) (oV (oN 0))))) (.v (fzS (eLst [(oV (oN 8))])))))))) (rE x0 room' R (kO false kn) k cell (fzI N) (sF (.str w)) (fzI (m:Nat)) (sF t.d))=X->yE (rE x0 room R (kO b kn) k cell x7 x8 x9 x10)=X:=by
  intro X room' e h;subst e;exact qJ (wL y rfl) (qJ (wL A rfl) (qJ (o:=.fz (.int 1)) rfl (C (qJ D (qJ hs h)))))
 by_cases n:N % 8=0
 ·have l:m=1:=by omega
  subst l;have a:=fun {room:Int}=>a (room:=room)
  rw[beq_iff_eq.mpr n]at a;exact⟨.see t,kn,room - d,false,_,_,_,_,.see (fun z=>(f z).1) g,j (by omega) (v4 a (jE rfl (wO (zVn (r:=.see t) rfl (by omega)) rfl)))⟩
 ·rw [show(N % 8 == 0)=false by simpa using n] at a;by_cases h1:N % 8=1/\w∈kn
  ·rw [beq_iff_eq.mpr h1.1] at c;rw[decide_eq_true h1.2]at c2;refine⟨.ag m w t,kn,room - m * d,false,_,_,_,_,.ag h1.2 (by omega) (fun z=>⟨(f z).1,by have:=(f z).2;omega⟩) g,j rfl (v4 a (v6 rfl (v4 (yR c (jE rfl c2)) (jE rfl (wO (zVn (r:=.ag m w t) rfl (by omega)) rfl)))))⟩
  ·have l:m=1:=by
    rcases B with h|h
    ·exact h
    ·exact absurd ⟨h.2.1,h.2.2.1⟩ h1
   subst l;refine⟨.lt w t,_,room - d,true,_,_,_,_,.lt (fun z=>(f z).1) g,j (room' :=room - d) (by omega) (v4 a (v6 rfl (v4 (q:=false) (e:=rE x0 (room - d) R (kO false kn) k cell (fzI N) (sF (.str w)) (fzI (1:Nat)) (sF t.d)) ?_ (v6 rfl (zX (zVn (r:=.lt w t) (x7:=fzI N) (x8:=sF (.str w)) (x9:=fzI (1:Nat)) (x10:=sF t.d) rfl (by omega)) (qWn (jWk (by omega)) rfl))))))⟩;by_cases h2:N % 8=1
   ·rw [beq_iff_eq.mpr h2] at c;rw[decide_eq_false (fun z=>h1 ⟨h2,z⟩)]at c2;exact yR c (jE rfl c2)
   ·rw [show(N % 8 == 1)=false by simpa using h2] at c;exact yR c (v6 rfl rfl)
end
inductive Gen:Nat->List Rw->List Str->Int->Prop
 |nil:Gen 0 [] [] 50
 |snoc {k:Nat} {R:List Rw} {kn kn' :List Str} {room room' :Int} {r:Rw} (g:Gen k R kn room) (s:Stp k kn room r kn' room'):Gen (k+1) (R ++ [r]) kn' room'
theorem qYk{k:Nat}{room:Int}(g:Gen k R kn room):R.length=k/\kn.length<=k:=by
 induction g with
 |nil=>grind
 | snoc g s ih=>
   refine⟨by rw[aB,ih.1];rfl,?_⟩;cases s with
   |see|ag=>omega
   |@lt x t ns d dp _ _=>grind
theorem catO{oa ob:Oe}{h1 h2:Hn}{xs ys:List D}(a:evO oa env=.ok (h1,e))(b:evO ob e=.ok (h2,e1))(c:(h1.st || ob.isP)=true)(r:yH [h1,h2] e1=.ok ([.nd .lst xs,.nd .lst ys],e2))(l:xs.length+ys.length<=9000):eCat oa ob env=.ok (.ow .lst ((xs ++ ys).map .fz),e2):=by
 show(evO oa env).bind _=_;rw[a];show(evO ob e).bind _=_;rw[b];show cond (h1.st || ob.isP) ((yH [h1,h2] e1).bind _) _=_;rw[c,r];show cond (decide (xs.length+ys.length<=lim)) (Res.ok (O.ow .lst ((xs ++ ys).map O.fz),e2)) Res.no=_;rw[decide_eq_true (aR l (by decide))];rfl
section
variable{x0:Slot}
theorem rows_loop:∀(cs:List Int) (k:Nat) (R:List Rw) (kn:List Str) (room:Int) (b:Bool) (x5 x6 x7 x8 x9 x10:Slot),Gen k R kn room->k+cs.length<=40->∃e kn' room' f o p i j l a,Gen (k+cs.length) e kn' room' /\forS (gT 2 (gCn (gN 5) (gCn (gN 6) gNl))) yE (j3 k (cs.map D.int)) [x0,fzI room,sF (.str ""),rO R,kO b kn,x5,x6,x7,x8,x9,x10]=.ok (.nx [x0,fzI room',sF (.str ""),rO e,kO f kn',o,p,i,j,l,a])
 |[],k,R,kn,room,b,_,_,_,_,_,_,g,_=>⟨R,kn,room,b,_,_,_,_,_,_,g,rfl⟩
 | c::cs,k,R,kn,room,b,x5,x6,x7,x8,x9,x10,g,h=>by
   obtain⟨A,B⟩:=qYk g;rw[aU]at h;obtain⟨r,m,d,q,i,j,l,a,s,hs⟩:=step_ok (x0:=x0) (room:=room) (cell:=c) (R:=R) (k:=k) (b:=b) (kn:=kn) (x7:=x7) (x8:=x8) (x9:=x9) (x10:=x10) (by omega) (by omega) (by omega);obtain⟨e,kn',room',f,t,u,v,w,x,n,y,z⟩:=rows_loop cs (k+1) (R ++ [r]) m d q (fzI (k:Nat)) (fzI c) i j l a (.snoc g s) (by omega);refine⟨e,kn',room',f,t,u,v,w,x,n,by rw[aU];rw[show k+(cs.length+1)=k+1+cs.length by omega];exact y,?_⟩;exact vX (e1:=rE x0 room R (kO b kn) k c x7 x8 x9 x10) rfl hs z
noncomputable def j4:List Rw:=[.df "f" ["x","y"] qXz,.df "g" ["x"] qV9]
theorem vXg:xF []=.ok (.ow .lst ((j4.map Rw.d).map .fz),[]):=by kernel_rfl
theorem zXg(cs:List Int)(w:cs.length<=40):∃R kn room t ns d,Gen cs.length R kn room/\GT kn (decide (0<room)) false t ns d/\qVt [sF (.nd .lst (cs.map D.int)),fzI 50,sF (.str "")]=.ok (.ow .lst (((R ++ [Rw.ask t]).map Rw.d).map .fz),[.un,.un,.un]):=by
 obtain⟨R,kn,room,b,c,f,h,i,j,a,g,e⟩:=rows_loop (x0:=sF (.nd .lst (cs.map D.int))) cs 0 [] [] 50 true .un .un .un .un .un .un .nil (by omega);rw[bG]at g;obtain⟨x,y⟩:=qYk g;obtain⟨t,ns,d,m,n⟩:=vXy (((cs.map D.int).length :Nat) * 48271+3) kn (decide (0<room)) false;refine⟨R,kn,room,t,ns,d,g,m,?_⟩;generalize hb:kO b kn=K at e;have fr:oV (oN 4) [sF (.nd .lst (cs.map D.int)),fzI room,sF (.str ""),rO R,kO b kn,c,f,h,i,j,a]=.ok (lsD kn,[sF (.nd .lst (cs.map D.int)),fzI room,sF (.str ""),rO R,kO false kn,c,f,h,i,j,a]):=by
  cases b with
  |false=>rfl
  | true=>
    show _=Res.ok (D.nd .lst (kn.map D.str),[_,fzI room,sF (.str ""),rO R,.s false (.fz (.nd .lst (kn.map D.str))),c,f,h,i,j,a]);rw[←vZ (k:=.lst) (kn.map D.str)];rfl
 rw[hb]at fr;have q:oV (oAdd (oMul (oL lenD [(oN 0)]) (oC (.int 48271))) (oC (.int 3))) [sF (.nd .lst (cs.map D.int)),fzI room,sF (.str ""),rO R,K,c,f,h,i,j,a]=.ok (.int (((cs.map D.int).length :Nat) * 48271+3),[sF (.nd .lst (cs.map D.int)),fzI room,sF (.str ""),rO R,K,c,f,h,i,j,a]):=
  vT (zQ (h2:=.d (.int 3)) (zQ (h1:=.d (.int ((cs.map D.int).length :Nat))) (h2:=.d (.int 48271)) rfl rfl rfl rfl rfl (ml (.of_right (by decide +kernel))) rfl) rfl rfl rfl rfl rfl rfl) rfl
 have r:=vJ (F:=xD) (vY q (vY fr (vY (s:=oV (oGt (oN 1) (oC (.int 0)))) (d:=.bl (decide (0<room))) rfl (vY (s:=oV (oC (.bl false))) (d:=.bl false) rfl (vU rfl) rfl) rfl) rfl) rfl) (qN rfl rfl rfl n rfl rfl rfl);have ls:=vJu (vQ (qVd (vQ (v:=oV (oC (.str "ask"))) (d:=.str "ask") rfl (vQ (jK r rfl) (jW rfl) rfl) rfl) rfl rfl) (jW rfl) rfl) rfl rfl;have u:yH [.p 3 [],.d (.nd .lst [(Rw.ask t).d])] [sF (.nd .lst (cs.map D.int)),fzI room,sF (.str ""),rO R,kO false kn,c,f,h,i,j,a]=.ok ([.nd .lst (R.map Rw.d),.nd .lst [(Rw.ask t).d]],[sF (.nd .lst (cs.map D.int)),fzI room,sF (.str ""),.s false (vZ5 (.ow .lst ((R.map Rw.d).map .fz))),kO false kn,c,f,h,i,j,a]):=by
  rw[←vZ (k:=.lst) (R.map Rw.d)];rfl
 have l:=catO (env:=[sF (.nd .lst (cs.map D.int)),fzI room,sF (.str ""),rO R,K,c,f,h,i,j,a]) (oa:=oN 3) (h1:=.p 3 []) rfl (zS ls rfl) rfl u (by rw[aZ];show _+1<=9000;omega);rw[show R.map Rw.d ++ [(Rw.ask t).d]=(R ++ [Rw.ask t]).map Rw.d by rw[bF];rfl]at l;exact vW (qJ (o:=.ow .lst []) rfl (qJ (o:=.ow .lst []) rfl (jQ (zF (qQn (xs:=[.nd .lst (cs.map D.int)]) rfl rfl rfl) e) (xR l rfl)))) rfl
theorem vW2(cs:List Int)(a:cs.length<=40):∃R kn room t ns d,Gen cs.length R kn room/\GT kn (decide (0<room)) false t ns d/\wZ [sF (.nd .lst (cs.map D.int)),fzI 50]=.ok (.ow .lst (((j4 ++ (R ++ [Rw.ask t])).map Rw.d).map .fz),[.un,.un]):=by
 obtain⟨R,kn,room,t,ns,d,g,b,e⟩:=zXg cs a;refine⟨R,kn,room,t,ns,d,g,b,?_⟩;have l:=(qYk g).1;have c:fzS (qM xF []) [sF (.nd .lst (cs.map D.int)),fzI 50]=.ok (.nd .lst (j4.map Rw.d),[sF (.nd .lst (cs.map D.int)),fzI 50]):=jK (vJ (vU rfl) (qN rfl rfl rfl vXg rfl rfl rfl)) (by rw[vZ];rfl);have c2:fzS (qM qVt [(.v (oV (oN 0))),(.v (oV (oN 1))),(.v (oV (oC (.str ""))))]) [sF (.nd .lst (cs.map D.int)),fzI 50]=.ok (.nd .lst ((R ++ [Rw.ask t]).map Rw.d),[sF (.nd .lst (cs.map D.int)),fzI 50]):=jK (vJ (vY (d:=.nd .lst (cs.map D.int)) rfl (vY (d:=.int 50) rfl (vY (d:=.str "") rfl (vU rfl) rfl) rfl) rfl) (qN rfl rfl rfl e rfl rfl rfl)) (by rw[vZ];rfl);have f:=cat2 (zS c rfl) (zS c2 rfl) (by rw[aZ,aZ,aB];show 2+(_+1)<=1000;omega);exact vW (xR f rfl) rfl
end
noncomputable abbrev srt(l:List Int):List Int:=eU (qQ4 l)
theorem inl_inj:∀a b:Int,(Sum.inl a:Key)=Sum.inl b->a=b:=fun _ _ h=>Sum.inl.inj h
noncomputable abbrev ivD{κ:Type}:κ×Int->D:=fun p=>.int p.2
noncomputable abbrev dI(l:List (Int×Int)):Slot:=.s false (.ow (.dct (qD Sum.inl l)) (l.map fun p=>.fz (ivD p)))
noncomputable abbrev dS(l:List (Str×Int)):Slot:=.s false (.ow (.dct (qD Sum.inr l)) (l.map fun p=>.fz (ivD p)))
noncomputable abbrev lO(P:List (List Int)):Slot:=.s false (.ow .lst (P.map fun l=>.ow .lst (((srt l).map D.int).map .fz)))
theorem ixG{α:Type}[DecidableEq κ]{c:κ->Key}(inj:∀a b,c a=c b->a=b){dv:κ×α->D}{i:Nat}{y:D}{x:κ}{v:α}{l:List (κ×α)}(h:getE env i []=some (.ow (.dct (qD c l)) (l.map fun p=>.fz (dv p))))(f:qV7 y=some (c x))(e:getA l x=some v):hnIx env y (.p i [])=some (.d (dv (x,v))):=by
 obtain⟨j,g,_,m⟩:=qWh inj dv e;show(match getE env i [] with|some (.ow k os)=>(idxK os.length y k).bind fun j=>(os[j]?).bind fun o=>some (hnO o i ([] ++ [j]))|_=>none)=_;rw[h];show(((qV7 y).bind fun k=>kidx k (qD c l)).bind fun j=>((l.map fun p=>O.fz (dv p))[j]?).bind fun o=>some (hnO o i ([] ++ [j])))=_;rw[f,cW,g,cW,m];rfl
theorem vZ3:∀{l m:List Int},l.Nodup->(∀a∈l,a∈m)->l.length<=m.length
 |[],m,_,_=>cF _
 | x::l,m,h,s=>by
   obtain⟨b,c⟩:=dW.mp h;have:=vZ3 (m:=m.erase x) c fun a ha=>(List.mem_erase_of_ne (fun z:a=x=>b (z▸ha))).mpr (s a (aI _ ha))
   grind
theorem zYi(l:List Int):(qQ4 l).length <=l.length:=vZ3 (qZ6 l) fun a ha=>(qXj l a).mp ha
theorem zVw(h:l.length<=60):sortSD [.nd .lst (l.map .int)]=some ((srt l).map .int):=by
 have:qYw [.nd .lst (l.map .int)]=some l:=qK5 l;unfold sortSD;rw[this,cW,decide_eq_true (show l.length<=2000 by omega),decide_eq_true (show(qQ4 l).length<64 by have:=zYi l;omega)];rfl
theorem qWo(g:List Int)(y:Int):y∈srt g↔y∈g:=by rw[(PySem.W.sortI_perm _).mem_iff,qXj]
theorem jQg{P:List (List Int)}(h:P.length<=1000):apF (P.map fun l=>.ow .lst (((srt l).map D.int).map .fz)) (.ow .lst (((srt l).map D.int).map .fz))=some (.fz .non,(P ++ [l]).map fun l=>.ow .lst (((srt l).map D.int).map .fz)):=by
 unfold apF;grind
theorem look_comp[DecidableEq κ]{c:κ->Key}(inj:∀a b,c a=c b->a=b){yd:κ->D}(e:∀x,qV7 (yd x)=some (c x)){l:List (κ×Int)}:∀(xs:List κ) (z:Slot),(∀x∈xs,∃p,getA l x=some p)->∃f,jP (gN 0) bTrue (oV (oIx (oN 1) (oN 0))) (xs.map yd) [z,.s false (.ow (.dct (qD c l)) (l.map fun p=>.fz (ivD p)))]=.ok ((xs.map fun x=>(getA l x).getD 0).map D.int,[f,.s false (.ow (.dct (qD c l)) (l.map fun p=>.fz (ivD p)))])
 |[],z,_=>⟨z,rfl⟩
 | x::xs,z,h=>by
   obtain⟨p,g⟩:=h x (by simp);obtain⟨f,i⟩:=look_comp inj e xs (sF (yd x)) (fun y e=>h y (aI _ e));refine⟨f,?_⟩;rw[aL,qQp (e1:=[sF (yd x),.s false (.ow (.dct (qD c l)) (l.map fun p=>.fz (ivD p)))]) (v:=.int p) rfl rfl (vT (zI (h1:=.p 1 []) (h2:=.d (yd x)) rfl rfl rfl rfl (ixG inj rfl (e x) g) rfl) rfl),i,aL,aL,g];rfl
noncomputable def Lp(g:SG)(a:SS)(ds:List D)(e e1:Ev):Prop:=∀b X,forS g a b e1=X->forS g a (ds ++ b) e=X
theorem Lp.nil:Lp g body [] e e:=fun _ _ k=>k
theorem Lp.snoc{ds:List D}{d:D}{a:Ev}(h:Lp g body ds e e1)(h1:g d e1=some e2)(h2:body e2=.ok (.nx a)):Lp g body (ds ++ [d]) e a:=fun b X k=>by
 rw[List.append_assoc];exact h _ _ (vX h1 h2 k)
theorem Lp.end{ds:List D}(h:Lp g body ds e e1):forS g body ds e=.ok (.nx e1):=by
 have:=h [] _ rfl;rwa [cY]at this
section
variable{x0 x3 x4 x5:Slot}{o:OT}{i:Int}{n:Nat}{Pl:List (Int×Int)}{La:List (Str×Int)}{P:List (List Int)}{t:Tm}{ns:List Str}{d:Nat}{kn:List Str}{c dp:Bool}{rd:D}
theorem vXe(ok:o.ok)(g:o.h<=7)(sc:o.sc<=30)(ha:∀s∈o.sl,∃p,getA Pl s=some p)(h1:P.length<=900)(h2:Pl.length<=900):qXs [x0,dI Pl,lO P,fzI (n:Nat),sF (.tup [.int i,o.d])]=.ok (.nx [x0,dI (if i= -1 then Pl else putA Pl i (n:Nat)),lO (P ++ [o.sl.map fun s=>(getA Pl s).getD 0]),fzI (n:Nat),sF (.tup [.int i,o.d])]):=by
 have sl:=qQi o;have f:=jH 60 o ok (by omega) (by omega);obtain⟨j,a⟩:=look_comp inl_inj (yd:=D.int) (fun _=>rfl) (l:=Pl) o.sl .un ha;have b:fzS (qM (F_slots_read 60) [(.v (oV (oIx (oN 4) (oC (.int 1)))))]) [x0,dI Pl,lO P,fzI (n:Nat),sF (.tup [.int i,o.d])]=.ok (.nd .lst (o.sl.map .int),[x0,dI Pl,lO P,fzI (n:Nat),sF (.tup [.int i,o.d])]):=jK (vJ (vY (d:=o.d) rfl (vU rfl) rfl) (qN rfl rfl rfl f rfl rfl rfl)) (by rw[vZ];rfl);have c:fzS (compS 2 [(1,1)] [0] (iV (fzS (qM (F_slots_read 60) [(.v (oV (oIx (oN 4) (oC (.int 1)))))]))) (gN 0) bTrue (oV (oIx (oN 1) (oN 0)))) [x0,dI Pl,lO P,fzI (n:Nat),sF (.tup [.int i,o.d])]=.ok (.nd .lst ((o.sl.map fun s=>(getA Pl s).getD 0).map .int),[x0,dI Pl,lO P,fzI (n:Nat),sF (.tup [.int i,o.d])]):=by
  refine xC (yI b rfl rfl) ?_ a rfl;rw[aZ,decide_eq_true (aR (show o.sl.length<=1000 by omega) (by decide))];rfl
 have c2:=vQv (yF (zS c rfl) rfl (qKo rfl) rfl) rfl (zVw (l:=o.sl.map fun s=>(getA Pl s).getD 0) (by rw[aZ];omega)) rfl;refine zX (yQ (i:=2) (π:=[]) (os0:=P.map fun l=>.ow .lst (((srt l).map D.int).map .fz)) (os:=P.map fun l=>.ow .lst (((srt l).map D.int).map .fz)) rfl rfl c2 rfl rfl (jQg (by omega)) rfl) ?_
 by_cases h:i= -1
 ·subst h;rw[if_pos rfl];exact v4 (q:=false) rfl rfl
 ·rw [if_neg h];have t:asB (o2 neF (oIx (oN 4) (oC (.int 0))) (o1 negD (oC (.int 1)))) [x0,dI Pl,lO (P ++ [o.sl.map fun s=>(getA Pl s).getD 0]),fzI (n:Nat),sF (.tup [.int i,o.d])]=.ok (!(i == -1),[x0,dI Pl,lO (P ++ [o.sl.map fun s=>(getA Pl s).getD 0]),fzI (n:Nat),sF (.tup [.int i,o.d])]):=rfl;rw[show(i == -1)=false by simpa using h]at t;exact v4 t (jE rfl (putG inl_inj (dv:=ivD) (l:=Pl) (x:=i) (v:=(n:Nat)) (y:=.int i) (e:=[x0,dI Pl,lO (P ++ [o.sl.map fun s=>(getA Pl s).getD 0]),fzI (n:Nat),sF (.tup [.int i,o.d])]) rfl rfl rfl rfl rfl (by omega)))
theorem qYf(g:GT kn c dp t ns d)(a:oV (oIx (oN 3) (o1 negD (oC (.int 1)))) [x0,dS La,lO P,sF rd,x4,x5]=.ok (t.d,[x0,dS La,lO P,sF rd,x4,x5]))(ha:∀s∈ns,∃p,getA La s=some p)(h1:P.length<=900){s:SS}{X:Res Out}(k:s [x0,dS La,lO (P ++ [ns.map fun s=>(getA La s).getD 0]),sF rd,x4,x5]=X):sSeq (zV (eMu1 (pOf (oN 2)) (eF sortSD [(.v (fzS (compS 2 [(1,1)] [0] (iV (fzS (qM (jI 30) [(.v (oV (oIx (oN 3) (o1 negD (oC (.int 1))))))]))) (gN 0) bTrue (oV (oIx (oN 1) (oN 0))))))]) apF)) s [x0,dS La,lO P,sF rd,x4,x5]=X:=by
 have f:=zJt g;have j:=(qY3 g).1;obtain⟨m,b⟩:=look_comp inr_inj (yd:=D.str) (fun _=>rfl) (l:=La) ns .un ha;have e:fzS (qM (jI 30) [(.v (oV (oIx (oN 3) (o1 negD (oC (.int 1))))))]) [x0,dS La,lO P,sF rd,x4,x5]=.ok (.nd .lst (ns.map .str),[x0,dS La,lO P,sF rd,x4,x5]):=jK (vJ (vY a (vU rfl) rfl) (qN rfl rfl rfl f rfl rfl rfl)) (by rw[vZ];rfl);have h:fzS (compS 2 [(1,1)] [0] (iV (fzS (qM (jI 30) [(.v (oV (oIx (oN 3) (o1 negD (oC (.int 1))))))]))) (gN 0) bTrue (oV (oIx (oN 1) (oN 0)))) [x0,dS La,lO P,sF rd,x4,x5]=.ok (.nd .lst ((ns.map fun s=>(getA La s).getD 0).map .int),[x0,dS La,lO P,sF rd,x4,x5]):=by
  refine xC (yI e rfl rfl) ?_ b rfl;rw[aZ,decide_eq_true (aR (show ns.length<=1000 by omega) (by decide))];rfl
 have c2:=vQv (yF (zS h rfl) rfl (qKo rfl) rfl) rfl (zVw (l:=ns.map fun s=>(getA La s).getD 0) (by rw[aZ];omega)) rfl;exact zX (yQ (i:=2) (π:=[]) (os0:=P.map fun l=>.ow .lst (((srt l).map D.int).map .fz)) (os:=P.map fun l=>.ow .lst (((srt l).map D.int).map .fz)) rfl rfl c2 rfl rfl (jQg (by omega)) rfl) k
end
noncomputable def skI:Nat->List (Int×OT)->List Int
 |_,[]=> []
 |n,p::r=>if p.1= -1 then(n:Int)::skI (n+1) r else skI (n+1) r
theorem vVw:∀(st:List (Int×OT)) (n:Nat) (p:Int×OT),skI n (st ++ [p])=skI n st ++ if p.1= -1 then [((n+st.length:Nat):Int)] else []
 |[],n,p=>by show(if p.1= -1 then _ else _)=_;simp[skI]
 | q::r,n,p=>by
   show(if q.1= -1 then(n:Int)::skI (n+1) (r ++ [p]) else skI (n+1) (r ++ [p]))=_;rw[vVw r,show n+1+r.length=n+(q::r).length by simp;omega];by_cases h:q.1= -1 <;> simp[h,skI]
theorem vJx:∀(n:Nat) (ds:List D) (d:D),j3 n (ds ++ [d])=j3 n ds ++ [.tup [.int ((n+ds.length:Nat):Int),d]]
 |n,[],d=>rfl
 | n,e::ds,d=>by
   show D.tup [.int (n:Int),e]::j3 (n+1) (ds ++ [d])=_;rw[vJx,show n+1+ds.length=n+(e::ds).length by simp;omega];rfl
inductive Ls:List (Int×OT)->List (Int×Int)->List (List Int)->Prop
 |nil:Ls [] [] []
 |snoc {st:List (Int×OT)} {Pl:List (Int×Int)} {P:List (List Int)} {o:OT} {i:Int} (h:Ls st Pl P) (ok:o.ok) (hh:o.h<=7) (sc:o.sc<=30) (hi: -1<=i) (ha:∀s∈o.sl,∃p,getA Pl s=some p):Ls (st ++ [(i,o)]) (if i= -1 then Pl else putA Pl i (P.length:Nat)) (P ++ [o.sl.map fun s=>(getA Pl s).getD 0])
section
variable{st:List (Int×OT)}{Pl:List (Int×Int)}{P:List (List Int)}
theorem Ls.okS(h:Ls st Pl P):∀p∈st,p.2.ok/\p.2.h<=7/\ -1<=p.1:=by
 induction h with
 |nil=>exact fun p a=>(by cases a)
 |snoc _ ok hh _ hi _ ih=>exact fun p a=>(cN.mp a).elim (ih p) fun z=>by cases bV.mp z;exact⟨ok,hh,hi⟩
theorem Ls.len(h:Ls st Pl P):P.length=st.length:=by
 induction h with
 |nil=>rfl
 |snoc _ _ _ _ _ _ ih=>rw[aB,aB,ih];rfl
theorem Ls.pl(h:Ls st Pl P):Pl.length<=P.length:=by
 induction h with
 |nil=>exact aC _
 | @snoc _ Pl P _ i _ _ _ _ _ _ ih=>
   rw[aB];have:=j9 (l:=Pl) (i:=i) (v:=((P.length:Nat):Int));split
   ·omega
   ·exact aR this (Nat.succ_le_succ ih)
theorem Ls.at(h:Ls st Pl P):∀s p,getA Pl s=some p->0<=p/\p<(P.length:Nat):=by
 induction h with
 |nil=>exact fun s p h=>(by cases h)
 | @snoc _ _ _ _ i _ _ _ _ _ _ ih=>
   intro s p h;rw[aB,List.length_singleton];split at h
   ·have:=ih s p h;omega
   ·rw [zY] at h;split at h
    ·cases h;omega
    ·have:=ih s p h;omega
theorem Ls.lo(h:Ls st Pl P):∀(i:Nat) (l:List Int),P[i]?=some l->∀q∈l,0<=q/\q<(i:Int):=by
 induction h with
 |nil=>exact fun i l h=>(by cases h)
 | @snoc _ Pl P _ _ h _ _ _ _ ha ih=>
   intro k l a;by_cases z:k<P.length
   ·rw[dC z]at a;exact ih k l a
   ·rw [dN (by omega)] at a;cases e:k - P.length with
    |succ n=>rw[e]at a;cases a
    | zero=>
      rw[e]at a;cases a;intro q c;obtain⟨s,hs,rfl⟩:=cJ.mp c;obtain⟨p,b⟩:=ha s hs;have:=h.at s p b;rw[b,Option.getD_some];omega
theorem Ls.f1(h:Ls st Pl P)(x0 x3 x4:Slot):P.length<=900->∃b c,Lp (gT 2 (gCn (gN 3) (gCn (gN 4) gNl))) qXs (j3 0 (qK st)) [x0,dI [],lO [],x3,x4] [x0,dI Pl,lO P,b,c]:=by
 induction h with
 |nil=>exact fun _=>⟨x3,x4,.nil⟩
 | @snoc st Pl P o i h ok hh sc hi ha ih=>
   intro g;rw[aB,List.length_singleton]at g;obtain⟨b,c,f⟩:=ih (by omega);have a:=vXe (x0:=x0) (i:=i) (n:=P.length) (Pl:=Pl) (P:=P) ok hh sc ha (by omega) (by have:=h.pl;omega);refine⟨fzI (P.length:Nat),sF (.tup [.int i,o.d]),?_⟩;have e:j3 0 (qK (st ++ [(i,o)]))=j3 0 (qK st) ++ [.tup [.int (P.length:Nat),.tup [.int i,o.d]]]:=by
    unfold qK;rw[bF];show j3 0 (_ ++ [_])=_;rw[vJx,aZ,h.len,bG]
   rw[e];exact f.snoc rfl a
end
structure J(kn:List Str)(o:Os)(P:List (List Int))(Pl:List (Int×Int))(La:List (Str×Int))(E:List Int):Prop where
 hs:o.hs=hsFG
 sl0:0<=o.s.sl
 ls:Ls o.st Pl P
 kn:∀x∈kn,∃i p,getA o.ν x=some i/\i<o.s.sl/\getA Pl i=some p/\getA La x=some p/\0<=p/\p<(P.length:Nat)
 la:La.length<=P.length
 sk:E=skI 0 o.st
section
variable{kn kn' :List Str}{o:Os}{P:List (List Int)}{Pl:List (Int×Int)}{La:List (Str×Int)}{E:List Int}{t:Tm}{ns:List Str}{d m:Nat}{c dp:Bool}{ot:OT}{s' :Sd}{i:Int}
theorem J.reads(j:J kn o P Pl La E)(g:GT kn c dp t ns d)(u:Opd o.ν o.s ns d m ot s'):(∀s∈ot.sl,∃p,getA Pl s=some p)/\ot.sl.map (fun s=>(getA Pl s).getD 0)=ns.map (fun x=>(getA La x).getD 0)/\(∀x∈ns,∃p,getA La x=some p):=by
 have h:=zZj g;rw[u.rd,bL];refine⟨fun s hs=>?_,List.map_congr_left fun x f=>?_,fun x f=>?_⟩
 ·obtain⟨x,f,rfl⟩:=cJ.mp hs;obtain⟨i,p,a,_,b,_⟩:=j.kn x (h x f);exact⟨p,by rw[a];exact b⟩
 ·obtain⟨i,p,a,_,b,e,_⟩:=j.kn x (h x f);show(getA Pl ((getA o.ν x).getD 0)).getD 0=_;rw[a,e,Option.getD_some,b]
 ·obtain⟨i,p,_,_,_,e,_⟩:=j.kn x (h x f);exact⟨p,e⟩
theorem J.len(j:J kn o P Pl La E):P.length=o.st.length:=j.ls.len
theorem J.step(j:J kn o P Pl La E)(g:GT kn c dp t ns d)(u:Opd o.ν o.s ns d m ot s')(a: -1<=i):Ls (o.st ++ [(i,ot)]) (if i= -1 then Pl else putA Pl i (P.length:Nat)) (P ++ [ns.map fun x=>(getA La x).getD 0]):=by
 obtain⟨b,e,_⟩:=j.reads g u;rw[←e];exact .snoc j.ls u.ok u.hh u.sc a b
end
section
variable{kn kn' :List Str}{o:Os}{P:List (List Int)}{Pl:List (Int×Int)}{La:List (Str×Int)}{E:List Int}{t:Tm}{ns:List Str}{d m:Nat}{c dp:Bool}{ot:OT}{s' :Sd}{x:Str}
noncomputable abbrev rdL(a:List (Str×Int))(ns:List Str):List Int:=ns.map fun x=>(getA a x).getD 0
theorem J.see(j:J kn o P Pl La E)(g:GT kn c dp t ns d)(u:Opd o.ν o.s ns d m ot s')(l:P.length<=900):J kn {o with st:=o.st ++ [(-1,ot)],s:=s' } (P ++ [rdL La ns]) Pl La (E ++ [(P.length:Int)]):=by
 refine⟨j.hs,Int.le_trans j.sl0 u.sl,j.step g u (eT _),fun x a=>?_,by rw[aB];have:=j.la;omega,?_⟩
 ·obtain⟨i,p,b,e,f,h,k,n⟩:=j.kn x a;exact⟨i,p,b,Int.lt_of_lt_of_le e u.sl,f,h,k,by rw[aB];omega⟩
 ·show _=skI 0 (o.st ++ [(-1,ot)]);rw[vVw,if_pos rfl,j.sk,j.len,bG]
theorem J.new(j:J kn o P Pl La E)(g:GT kn c dp t ns d)(u:Opd o.ν o.s ns d m ot s')(n:P.length<=900)(hk:∀y∈kn',y=x\/y∈kn):J kn' {o with ν:=putA o.ν x s'.sl,st:=o.st ++ [(s'.sl,ot)],s:={s' with sl:=s'.sl+1}} (P ++ [rdL La ns]) (putA Pl s'.sl (P.length:Nat)) (putA La x (P.length:Nat)) E:=by
 have r:=Int.le_trans j.sl0 u.sl;have f:=j.step g u (i:=s'.sl) (by omega);have w:=j9 (l:=La) (i:=x) (v:=((P.length:Nat):Int));have z:(P ++ [rdL La ns]).length =P.length+1:=by rw[aB];rfl
 rw[if_neg (by omega)]at f;refine⟨j.hs,by show 0<=s'.sl+1;omega,f,fun y a=>?_,by have:=j.la;omega,?_⟩
 ·by_cases q:y=x
  ·subst q;exact⟨s'.sl,(P.length:Nat),by rw[zY,if_pos rfl],by show _<s'.sl+1;omega,by rw[zY,if_pos rfl],by rw[zY,if_pos rfl],by omega,by omega⟩
  ·obtain⟨i,p,b,A,e,h,k,B⟩:=j.kn y ((hk y a).resolve_left q);have:=u.sl;exact⟨i,p,by rw[zY,if_neg (Ne.symm q)];exact b,by show _<s'.sl+1;omega,by rw[zY,if_neg (by omega)];exact e,by rw[zY,if_neg (Ne.symm q)];exact h,k,by omega⟩
 ·show _=skI 0 (o.st ++ [(s'.sl,ot)]);rw[vVw,if_neg (by show¬s'.sl= -1;omega),cY,j.sk]
variable{x0 x4 x5:Slot}{rd:D}
theorem qY4:∀os:List O,(fzOs os).length =os.length
 |[]=>rfl
 |o::os=>by show(fzO o::fzOs os).length =_;rw[aU,qY4 os];rfl
theorem zVr(b:Bool){n:Int}(g:GT kn c dp t ns d)(ha:∀s∈ns,∃p,getA La s=some p)(h1:P.length<=900)(h2:La.length<=900):qQ1 [x0,dS La,lO P,sF (cond b (Rw.lt x t) (.ag n x t)).d,x4,x5]=.ok (.nx [x0,dS (putA La x (P.length:Nat)),lO (P ++ [rdL La ns]),sF (cond b (Rw.lt x t) (.ag n x t)).d,x4,x5]):=by
 have a:owS (oV (oSub (oL lenD [(oN 2)]) (oC (.int 1)))) [x0,dS La,lO (P ++ [rdL La ns]),sF (cond b (Rw.lt x t) (.ag n x t)).d,x4,x5]=.ok (.fz (.int (P.length:Nat)),[x0,dS La,lO (P ++ [rdL La ns]),sF (cond b (Rw.lt x t) (.ag n x t)).d,x4,x5]):=by
  have:owS (oV (oSub (oL lenD [(oN 2)]) (oC (.int 1)))) [x0,dS La,lO (P ++ [rdL La ns]),sF (cond b (Rw.lt x t) (.ag n x t)).d,x4,x5]=.ok (.fz (.int (((fzOs ((P ++ [rdL La ns]).map fun l=>O.ow .lst (((srt l).map D.int).map .fz))).length :Nat) - 1)),[x0,dS La,lO (P ++ [rdL La ns]),sF (cond b (Rw.lt x t) (.ag n x t)).d,x4,x5]):=by kernel_rfl
  rw[this,qY4,aZ,aB,show(((P.length + [rdL La ns].length :Nat):Int) - 1)=(P.length:Nat) by simp]
 cases b with
 |true=>exact qYf g rfl ha h1 (v4 (q:=true) (e:=[x0,dS La,lO (P ++ [rdL La ns]),sF (Rw.lt x t).d,x4,x5]) rfl (putG inr_inj (dv:=ivD) (l:=La) (x:=x) (v:=(P.length:Nat)) (y:=.str x) (hk:=.d (.str x)) a rfl rfl rfl rfl (by omega)))
 |false=>exact qYf g rfl ha h1 (v4 (q:=true) (e:=[x0,dS La,lO (P ++ [rdL La ns]),sF (Rw.ag n x t).d,x4,x5]) rfl (putG inr_inj (dv:=ivD) (l:=La) (x:=x) (v:=(P.length:Nat)) (y:=.str x) (hk:=.d (.str x)) a rfl rfl rfl rfl (by omega)))
theorem zXh(g:GT kn c dp t ns d)(ha:∀s∈ns,∃p,getA La s=some p)(h1:P.length<=900)(h2:La.length<=900):zG [x0,dS La,lO P,sF (Rw.lt x t).d,x4,x5]=.ok (.nx [x0,dS (putA La x (P.length:Nat)),lO (P ++ [rdL La ns]),sF (Rw.lt x t).d,fzI 1,fzI 0]):=
 qJ (o:=.fz (.int 1)) (e:=[x0,dS La,lO P,sF (Rw.lt x t).d,x4,x5]) rfl (qG (q:=false) rfl (qI (zF (ds:=[.int 0]) (e:=[x0,dS La,lO P,sF (Rw.lt x t).d,fzI 1,x5]) rfl (vX rfl (zVr true (n:=0) g ha h1 h2) rfl))))
theorem vYf(b:Bool)(g:GT kn c dp t ns d)(ha:∀s∈ns,∃p,getA La s=some p)(h1:P.length<=900):zG [x0,dS La,lO P,sF (cond b (Rw.see t) (.ask t)).d,x4,x5]=.ok (.nx [x0,dS La,lO (P ++ [rdL La ns]),sF (cond b (Rw.see t) (.ask t)).d,fzI 1,fzI 0]):=by
 cases b with
 |true=>exact qJ (o:=.fz (.int 1)) (e:=[x0,dS La,lO P,sF (Rw.see t).d,x4,x5]) rfl (qG (q:=false) rfl (qI (zF (ds:=[.int 0]) (e:=[x0,dS La,lO P,sF (Rw.see t).d,fzI 1,x5]) rfl (vX rfl (qYf g rfl ha h1 rfl) rfl))))
 |false=>exact qJ (o:=.fz (.int 1)) (e:=[x0,dS La,lO P,sF (Rw.ask t).d,x4,x5]) rfl (qG (q:=false) rfl (qI (zF (ds:=[.int 0]) (e:=[x0,dS La,lO P,sF (Rw.ask t).d,fzI 1,x5]) rfl (vX rfl (qYf g rfl ha h1 rfl) rfl))))
end
noncomputable abbrev eO(E:List Int):Slot:=.s false (.ow .lst ((E.map D.int).map .fz))
theorem qYc(n:Int)(m:Nat):(rngD n m).length =m:=by unfold rngD;rw[aZ,cV]
theorem jZ9{m:Nat}(h:m<=3):rg1 [.int (m:Nat)]=some (rngD 0 m):=by
 have:∀m:Nat,m<=3->in62 (m:Int)=true:=by decide
 show cond (in62 (m:Int)) (some (rngD 0 (m:Int).toNat)) none=_;simp_all
theorem qWp:∀(st:List (Int×OT)) (n:Nat),(skI n st).length <=st.length
 |[],_=>aC _
 | p::r,n=>by
   have:=qWp r (n+1);unfold skI;grind
section
variable{kn kn' :List Str}{o:Os}{P:List (List Int)}{Pl:List (Int×Int)}{La:List (Str×Int)}{E:List Int}{t:Tm}{ns:List Str}{d k:Nat}{c dp:Bool}{x:Str}{room room' :Int}{r:Rw}
theorem J.op(j:J kn o P Pl La E)(g:GT kn c dp t ns d)(f:o.s.dr.length+d<=60)(h:o.s.tm+15<=600):∃ot e,qU o.hs 30 o.ν t o.s=.ok (ot,e)/\Opd o.ν o.s ns d (cond dp 15 7) ot e :=by
 rw[j.hs];exact op1 g (fun x k=>by obtain⟨i,_,a,b,_⟩:=j.kn x k;exact⟨i,a,b⟩) f h
theorem J.ha(j:J kn o P Pl La E)(g:GT kn c dp t ns d):∀s∈ns,∃p,getA La s=some p:=fun s hs=>by
 obtain⟨_,p,_,_,_,a,_⟩:=j.kn s (zZj g s hs);exact⟨p,a⟩
theorem times{n:Int}(k:x∈kn)(g:GT kn c dp t ns d):∀(ds:List D) (o:Os) (P:List (List Int)) (Pl:List (Int×Int)) (La:List (Str×Int)),J kn o P Pl La E->o.s.dr.length+ds.length * d<=60->o.s.tm+(cond dp 15 7 * ds.length:Nat)+15<=600->P.length+ds.length<=900->
  ∃o' f b a,jO x t ds.length o=.ok o' /\J kn o' f b a E/\o'.s.dr.length=o.s.dr.length+ds.length * d/\o'.s.tm<=o.s.tm+(cond dp 15 7 * ds.length:Nat)/\f.length=P.length+ds.length/\∀x0 x4 x5,∃h,forS (gN 5) qQ1 ds [x0,dS La,lO P,sF (Rw.ag n x t).d,x4,x5]=.ok (.nx [x0,dS a,lO f,sF (Rw.ag n x t).d,x4,h])
 |[],o,P,Pl,La,j,_,_,_=>⟨o,P,Pl,La,rfl,j,by simp,by simp,rfl,fun x0 x4 x5=>⟨x5,rfl⟩⟩
 | z::ds,o,P,Pl,La,j,l1,l2,l3=>by
   rw[aU,Nat.succ_mul]at l1;rw[aU,Nat.mul_succ]at l2;rw[aU]at l3;obtain⟨A,B,e,u⟩:=j.op g (by omega) (by omega);have C:=u.dr;have F:=u.tm;have l:=j.new (x:=x) (kn' :=kn) g u (by omega) (fun y m=>.inr m);obtain⟨o',f,b,a,p,q,r,v,w,i⟩:=times (n:=n) k g ds _ _ _ _ l (by dsimp only;omega) (by dsimp only;omega) (by rw[aB];show P.length+1+ds.length<=900;omega);dsimp only at r v;refine⟨o',f,b,a,?_,q,by rw[aU,Nat.succ_mul];omega,by rw[aU,Nat.mul_succ];omega,by simp only[aB,aU,List.length_nil]at w⊢;omega,fun x0 x4 x5=>?_⟩;rotate_left
   ·obtain⟨h,i⟩:=i x0 x4 (sF z);exact⟨h,vX rfl (zVr false g (j.ha g) (by omega) (by have:=j.la;omega)) i⟩
   show(yK o x t).bind (jO x t ds.length)=_;unfold yK;rw[e];exact p
theorem zXi(s:Stp k kn room r kn' room')(j:J kn o P Pl La E)(b1:(o.s.dr.length:Int)+room<=50)(b2:0<=room)(b3:o.s.tm<=500)(b4:P.length<=100):∃o' f c b E',wN o r=.ok o' /\J kn' o' f c b E' /\(o'.s.dr.length:Int)+room' <=50/\0<=room' /\o'.s.tm<=o.s.tm+(if k<13 then 21 else 7)/\f.length<=P.length+(if kn=[] then 1 else if k<13 then 3 else 1)/\
  (∀x0 x4 x5,∃H A,zG [x0,dS La,lO P,sF r.d,x4,x5]=.ok (.nx [x0,dS b,lO f,sF r.d,H,A]))/\∀x0,wT [x0,fzI (P.length:Nat),eO E,sF r.d]=.ok (.nx [x0,fzI (f.length:Nat),eO E',sF r.d]):=by
 have le:E.length<=1000:=by rw[j.sk];have:=qWp o.st 0;have:=j.len;omega
 have w:∀l:List Int,(P ++ [l]).length =P.length+1:=fun l=>by rw[aB];rfl
 have one:∀{a:Bool},(a=true->k<13)->((cond a 15 7:Nat):Int)<=if k<13 then 21 else 7:=fun {a} h=>by
  cases a with
  |false=>by_cases z:k<13 <;> simp[z]
  |true=>simp[h rfl]
 have p1:1<=if kn=[] then 1 else if k<13 then 3 else 1:=by split;exact aC _;split <;> omega
 cases s with
 | @see t ns d a hd g=>
   obtain⟨f1,F,p⟩:=qY3 g;have v :d=1->1<=room:=fun z=>of_decide_eq_true (p z)
   obtain⟨I,K,e,u⟩:=j.op g (by omega) (by omega);have L:=u.dr;have M:=u.tm;have on:=one hd;refine⟨_,_,_,_,_,by show(qU o.hs 30 o.ν t o.s).bind _=_;rw[e];rfl,j.see g u (by omega),by dsimp only;omega,by omega,by dsimp only;omega,by rw[w];omega,fun x0 x4 x5=>⟨_,_,vYf true g (j.ha g) (by omega)⟩,fun x0=>?_⟩;rw[w];have N:apF ((E.map D.int).map .fz) (.fz (.int (P.length:Nat)))=some (.fz .non,((E ++ [(P.length:Int)]).map D.int).map .fz):=by
    unfold apF;rw[decide_eq_true (show((E.map D.int).map O.fz).length <=lim by rw[aZ,aZ];exact aR le (show 1000<=1000000 by decide)),bF,bF];rfl
   exact qG (q:=true) (e:=[x0,fzI (P.length:Nat),eO E,sF (Rw.see t).d]) rfl (zX (yQ (i:=2) (π:=[]) (os0:=(E.map D.int).map .fz) (os:=(E.map D.int).map .fz) rfl rfl rfl rfl rfl N rfl) rfl)
 | @lt x t ns d a hd g=>
   obtain⟨f1,F,p⟩:=qY3 g;have v :d=1->1<=room:=fun z=>of_decide_eq_true (p z)
   obtain⟨I,K,e,u⟩:=j.op g (by omega) (by omega);have L:=u.dr;have M:=u.tm;have on:=one hd;refine⟨_,_,_,_,_,by show(qU o.hs 30 o.ν t o.s).bind _=_;rw[e];rfl,j.new (x:=x) g u (by omega) (fun y Q=>?_),by dsimp only;omega,by omega,by dsimp only;omega,by rw[w];omega,fun x0 x4 x5=>⟨_,_,zXh g (j.ha g) (by omega) (by have:=j.la;omega)⟩,fun x0=>?_⟩
   ·rcases cN.mp Q with h | h
    ·exact .inr (List.mem_filter.mp h).1
    ·exact .inl (bV.mp h)
   ·rw[w];rfl
 | @ag m x t ns d a hx hm hd g=>
   obtain⟨f1,F,p⟩:=qY3 g;have v :d=1->(m:Int)<=room:=fun z=>of_decide_eq_true (p z)
   have R:kn≠ []:=fun z=>by rw[z]at hx;cases hx
   have md:d=0\/d=1:=by omega
   have S:m<=3:=by omega
   have cm:cond a 15 7 * m<=(if k<13 then 21 else 7)/\cond a 15 7 * m<=21:=by
    cases a with
    |true=>obtain⟨T,U⟩:=hd rfl;subst U;simp[T]
    |false=>show 7 * m<=_/\7 * m<=21;split <;> omega
   obtain⟨o',f,c,b,G,V,W,X,B,C⟩:=times (n:=(m:Int)) hx g (rngD 0 m) o P Pl La j (by rw[qYc];rcases md with z|z <;> subst z <;> omega) (by rw[qYc];omega) (by rw[qYc];omega);rw[qYc]at G W X B;refine⟨o',f,c,b,E,by show jO x t (m:Int).toNat o=_;rw[bN];exact G,V,?_,?_,?_,?_,fun x0 x4 x5=>?_,fun x0=>?_⟩
   ·rcases md with z|z <;> subst z <;> simp only[Nat.mul_zero,Nat.mul_one,Int.mul_zero,Int.mul_one,Int.natCast_zero,Int.natCast_one]at * <;> omega
   ·rcases md with z|z <;> subst z <;> simp only[Int.mul_zero,Int.mul_one,Int.natCast_zero,Int.natCast_one] <;> omega
   ·have:=cm.1;split at this <;> rename_i z <;> simp only[z,if_true,if_false] <;> omega
   ·rw[B,if_neg R];split <;> omega
   ·obtain⟨A,C⟩:=C x0 (fzI (m:Nat)) x5;have Y:(sSet 4 (owS (oV (oL intD [(o2 neF (oIx (oN 3) (oC (.int 0))) (oC (.str "def")))])))) [x0,dS La,lO P,sF (Rw.ag m x t).d,x4,x5]=.ok (.nx [x0,dS La,lO P,sF (Rw.ag m x t).d,fzI 1,x5]):=by kernel_rfl
    have Z:(sIf (asB (o2 eqF (oIx (oN 3) (oC (.int 0))) (oC (.str "again")))) (sSet 4 (owS (oV (oIx (oN 3) (oC (.int 1)))))) sNil) [x0,dS La,lO P,sF (Rw.ag m x t).d,fzI 1,x5]=.ok (.nx [x0,dS La,lO P,sF (Rw.ag m x t).d,fzI (m:Nat),x5]):=by kernel_rfl
    exact⟨fzI (m:Nat),A,jQ Y (jQ Z (zF (ds:=rngD 0 m) (e:=[x0,dS La,lO P,sF (Rw.ag m x t).d,fzI (m:Nat),x5]) (qQn (xs:=[.int (m:Nat)]) rfl (jZ9 S) rfl) C))⟩
   ·rw[B,Int.natCast_add];rfl
end
noncomputable def os1:Os:=⟨hsFG,[],[],⟨[],0,0⟩⟩
noncomputable def hlFG:Nm:=[("f",2),("g",1)]
theorem jZu(rs:List Rw):v8 (j4 ++ rs) os0=v8 rs os1:=by kernel_rfl
theorem yB:∀{rs r2:List Rw} {o o1:Os},v8 rs o=.ok o1->v8 (rs ++ r2) o=v8 r2 o1
 |[],r2,o,o1,h=>by cases h;rfl
 | r::rs,r2,o,o1,h=>by
   obtain⟨o2,e,h⟩:=qR (show(wN o r).bind (v8 rs)=_ from h);show(wN o r).bind (v8 (rs ++ r2))=_;rw[e];exact yB h
theorem qYn:∀{rs r2:List Rw} {kn:Kn} {hl:Nm},wR rs kn hl=true->wR r2 (rs.foldl yL kn) (rs.foldl qQu hl)=true->wR (rs ++ r2) kn hl=true
 |[],r2,kn,hl,_,h=>h
 | r::rs,r2,kn,hl,h,h2=>by
   change (qY6 kn hl r && wR rs (yL kn r) (qQu hl r))=true at h;rw[aF]at h;show(qY6 kn hl r && wR (rs ++ r2) (yL kn r) (qQu hl r))=true;rw[h.1,qYn h.2 h2];rfl
theorem vVr{t:Tm}{d:Nat}{a:Str->Bool}(g:GT kn c dp t ns d)(hk:∀x∈kn,a x=true):chkT a hlFG t=true:=by
 have b:getA hlFG "f"=some 2:=rfl;have e:getA hlFG "g"=some 1:=rfl;cases g with
 |leaf l|plus _ l|ite _ _ l|fld _ _ l|f _ l=>cases l <;> simp_all[chkT,chkTs]
 |op2|rest|g=>simp_all[chkT,chkTs]
structure Bg(k:Nat)(R:List Rw)(kn:List Str)(room:Int)(o:Os)(P:List (List Int))(Pl:List (Int×Int))(La:List (Str×Int))(E:List Int):Prop where
 j:J kn o P Pl La E
 op:v8 R os1=.ok o
 dr:(o.s.dr.length:Int)+room<=50
 rm:0<=room
 tm:o.s.tm<=21 * (min k 13:Nat)+7 * (k - 13:Nat)
 ln:P.length<=3 * min k 13+(k - 13) - 2
 k0:k=0->kn=[]
 ck:wR R [] hlFG=true
 ch:R.foldl qQu hlFG=hlFG
 cn:∀x∈kn,qQ5 (R.foldl yL []) x=true
 ok:∀r∈R,vQr r/\isDf r=false
 f2:∀x0 x3 x4 x5,∃y3 y4 y5,Lp (gN 3) zG (R.map Rw.d) [x0,dS [],lO [],x3,x4,x5] [x0,dS La,lO P,y3,y4,y5]
 f3:∀x0 x3,∃y3,Lp (gN 3) wT (R.map Rw.d) [x0,fzI 0,eO [],x3] [x0,fzI (P.length:Nat),eO E,y3]
theorem xL{t:Tm}{d:Nat}(g:GT kn c dp t ns d):t.wf/\t.h<=30:=⟨(jQc g).1,by have:=(jQc g).2;omega⟩
theorem big{k:Nat}{room:Int}(g:Gen k R kn room):k<=37->∃o P Pl v E,Bg k R kn room o P Pl v E:=by
 induction g with
 |nil=>exact fun _=>⟨os1,[],[],[],[],⟨rfl,eT _,.nil,fun x a=>(by cases a),aC _,rfl⟩,rfl,by decide,by decide,by decide,cF _,fun _=>rfl,rfl,rfl,fun x a=>(by cases a),fun r B=>(by cases B),fun c x3 x4 l=>⟨x3,x4,l,.nil⟩,fun c x3=>⟨x3,.nil⟩⟩
 | @snoc k R kn kn' room room' r g s ih=>
   intro T;obtain⟨o,P,Pl,v,E,b⟩:=ih (by omega);have U:=b.tm;have V:=b.ln;obtain⟨C,m,n,p,D,F,G,H,I,A,i,J,K⟩:=zXi s b.j b.dr b.rm (by omega) (by omega);refine⟨C,m,n,p,D,G,by rw[yB b.op];show(wN o r).bind _=_;rw[F];rfl,H,I,?_,?_,fun z=>(by cases z),?_,?_,?_,?_,fun c x3 x4 l=>?_,fun c x3=>?_⟩
   ·by_cases z:k < 13
    ·rw[if_pos z]at A;omega
    ·rw[if_neg z]at A;omega
   ·by_cases z:k=0
    ·rw[if_pos (b.k0 z)]at i;omega
    ·have:m.length<=P.length+3/\(¬k<13->m.length<=P.length+1):=by
      by_cases y:kn=[]
      ·rw[if_pos y]at i;omega
      ·rw [if_neg y] at i;by_cases w:k<13
       ·rw[if_pos w]at i;omega
       ·rw[if_neg w]at i;omega
     omega
   ·refine qYn b.ck ?_
    rw[b.ch];show(qY6 _ _ r && true)=true;rw[Bool.and_true];cases s with
    |see hd g=>exact vVr g b.cn
    |lt hd g=>exact vVr g b.cn
    |ag a hm hd g=>show(qQ5 _ _ && chkT _ _ _)=true;rw[b.cn _ a,vVr g b.cn];rfl
   ·rw[List.foldl_append,b.ch];cases s <;> rfl
   ·intro y u;rw[List.foldl_append];cases s with
    |see hd g=>exact b.cn y u
    |ag a hm hd g=>exact b.cn y u
    | @lt x t ns d dp hd g=>
      show((getA (putA (R.foldl yL []) x ()) y).isSome)=true;rw[zY];by_cases z:x=y
      ·rw[if_pos z];rfl
      ·rw [if_neg z];rcases cN.mp u with h|h
       ·exact b.cn y (List.mem_filter.mp h).1
       ·exact absurd (bV.mp h).symm z
   ·intro q L;rcases cN.mp L with h|h
    ·exact b.ok q h
    ·cases bV.mp h;cases s with
     |see hd g=>exact⟨⟨(xL g).1,(xL g).2,fun _ _ _ e=>(by cases e)⟩,rfl⟩
     |lt hd g=>exact⟨⟨(xL g).1,(xL g).2,fun _ _ _ e=>(by cases e)⟩,rfl⟩
     |ag a hm hd g=>exact⟨⟨(xL g).1,(xL g).2,fun _ _ _ e=>(by cases e;omega)⟩,rfl⟩
   ·obtain⟨M,N,O,f⟩:=b.f2 c x3 x4 l;obtain⟨Q,S,e⟩:=J c N O;refine⟨sF r.d,Q,S,?_⟩;rw[bF];exact f.snoc rfl e
   ·obtain⟨M,f⟩:=b.f3 c x3;refine⟨sF r.d,?_⟩;rw[bF];exact f.snoc rfl (K c)
theorem zZ5{o:Os}{r:Rw}(e:wN o r=.ok o')(h:o.ν.length<=o.st.length):o'.ν.length<=o'.st.length/\o.st.length<=o'.st.length/\o'.hs.length<=o.hs.length+1:=by
 have g:∀(x:Str) (t:Tm) (n:Nat) (o o' :Os),jO x t n o=.ok o' ->o.ν.length<=o.st.length->o'.ν.length<=o'.st.length/\o.st.length<=o'.st.length/\o'.hs=o.hs:=by
  intro x t n;induction n with
  |zero=>intro o o' e h;cases e;exact⟨h,aC _,rfl⟩
  | succ n ih=>
    intro o o' e h;obtain⟨o1,d,e⟩:=qR (show(yK o x t).bind _=_ from e);obtain⟨a,b,c⟩:=xN d;obtain⟨p,q,r⟩:=ih o1 o' e (by omega);exact⟨p,by omega,by rw[r,a]⟩
 cases r with
 |df f ps b=>cases e;exact⟨h,aC _,j9⟩
 |lt x t=>obtain⟨a,b,c⟩:=xN e;exact⟨by omega,by omega,by rw[a];omega⟩
 |ag n x t=>obtain⟨a,b,c⟩:=g x t n.toNat o o' e h;exact⟨a,b,by rw[c];omega⟩
 | see t=>
   obtain⟨q,d,e⟩:=qR (show(qU o.hs 30 o.ν t o.s).bind _=_ from e);cases e;exact⟨by simp;omega,by simp,by show o.hs.length<=_;omega⟩
 | ask t=>
   obtain⟨q,d,e⟩:=qR (show(qU o.hs 30 o.ν t o.s).bind _=_ from e);cases e;exact⟨by simp;omega,by simp,by show o.hs.length<=_;omega⟩
theorem qXh:∀{rs:List Rw} {o o' :Os},v8 rs o=.ok o' ->o.ν.length<=o.st.length->o'.ν.length<=o'.st.length/\o.st.length<=o'.st.length/\o'.hs.length<=o.hs.length+rs.length
 |[],o,o',e,h=>by cases e;exact⟨h,aC _,aC _⟩
 | r::rs,o,o',e,h=>by
   obtain⟨o1,d,e⟩:=qR (show(wN o r).bind (v8 rs)=_ from e);obtain⟨a,b,c⟩:=zZ5 d h;obtain⟨p,q,s⟩:=qXh e a;exact⟨p,by omega,by rw[aU];omega⟩
theorem zXj{d:List Rw}(e:v8 d os0=.ok o')(h1:o'.st.length<=900)(h2:d.length<=900):room os0 d:=by
 intro g h o1 i f;subst i;obtain⟨a,b,c⟩:=qXh f (aC 0);rw[yB f]at e;obtain⟨p,q,s⟩:=qXh e a;rw[aB]at h2;exact⟨by omega,by omega,by have:os0.hs.length=0:=rfl;omega⟩
theorem jJm:∀r∈j4,vQr r:=by
 intro r a;rcases aG.mp a with h|h
 ·subst h;exact⟨by show Tm.wf qXz;unfold qXz;simp[Tm.wf],by show Tm.h qXz<=30;unfold qXz;simp[Tm.h],fun _ _ _ e=>(by cases e)⟩
 ·cases bV.mp h;exact⟨by show Tm.wf qV9;unfold qV9;simp[Tm.wf,Tm.wfs],by show Tm.h qV9<=30;unfold qV9;simp[Tm.h,Tm.hs],fun _ _ _ e=>(by cases e)⟩
noncomputable abbrev pD(a:List Rw):D:=.nd .lst (a.map Rw.d)
noncomputable abbrev lsO(Q:List (List Int)):O:=.ow .lst (Q.map fun l=>.ow .lst (((srt l).map D.int).map .fz))
noncomputable abbrev lsQ(Q:List (List Int)):D:=.nd .lst (Q.map fun l=>.nd .lst ((srt l).map D.int))
theorem zV9(Q:List (List Int)):fzO (lsO Q)=lsQ Q:=by
 show D.nd .lst (fzOs _)=_;congr 1;induction Q with
 |nil=>rfl
 |cons l Q ih=>show fzO (.ow .lst (((srt l).map D.int).map .fz))::fzOs (Q.map _)=_;rw[vZ,ih];rfl
structure Wt(st:List (Int×OT))(Q:List (List Int))(E:List Int):Prop where
 ls:∃Pl,Ls st Pl Q
 few:Q.length<=62
 ei:∃st0 sl ot,st=st0 ++ [(sl,ot)]/\0<=sl/\E=skI 0 st0 ++ [((st0.length:Nat):Int)]
section
variable{sts:List (Int×OT)}{Q:List (List Int)}{E:List Int}(w:Wt sts Q E)
include w
theorem Wt.st:∀p∈sts,p.2.ok/\p.2.h<=7/\ -1<=p.1:=let ⟨_,l⟩:=w.ls;l.okS
theorem Wt.len:Q.length=sts.length:=let ⟨_,l⟩:=w.ls;l.len
theorem Wt.lo:∀(i:Nat) (l:List Int),Q[i]?=some l->∀q∈l,0<=q/\q<(i:Int):=let ⟨_,l⟩:=w.ls;l.lo
theorem Wt.le{dd:Dw}{n:Int}:qYp [sF (oneD sts dd n)]=.ok (lsO Q,[.un]):=by
 obtain⟨a,l⟩:=w.ls;obtain⟨b,c,f⟩:=l.f1 (sF (oneD sts dd n)) .un .un (by have:=w.few;omega);exact vW (qJ (o:=.ow (.dct []) []) rfl (qJ (o:=.ow .lst []) rfl (jQ (zF (qQn (xs:=[.nd .lst (qK sts)]) (e:=[sF (oneD sts dd n),dI [],lO [],.un,.un]) rfl rfl rfl) f.end) rfl))) rfl
end
structure Wh(rows:List Rw)(O:Os)(Q:List (List Int))(E:List Int):Prop extends Wt O.st Q E where
 op:qZx [sF (pD rows)]=.ok (oneO O.st O.s.dr O.s.sl,[.un])
 ll:qQr [sF (pD rows)]=.ok (lsO Q,[.un])
 en:qVu [sF (pD rows)]=.ok (.ow .lst ((E.map D.int).map .fz),[.un])
 dr:O.s.dr.length<=60
theorem vXf(x0:Slot)(rs:List D):forS (gN 3) zG (j4.map Rw.d ++ rs) [x0,dS [],lO [],.un,.un,.un]=forS (gN 3) zG rs [x0,dS [],lO [],sF (Rw.df "g" ["x"] qV9).d,fzI 0,.un]:=by kernel_rfl
theorem zQm(x0:Slot)(rs:List D):forS (gN 3) wT (j4.map Rw.d ++ rs) [x0,fzI 0,eO [],.un]=forS (gN 3) wT rs [x0,fzI 0,eO [],sF (Rw.df "g" ["x"] qV9).d]:=by kernel_rfl
theorem whole(cs:List Int)(y:cs.length<=37):∃a O Q E,a.length<=100/\wZ [sF (.nd .lst (cs.map D.int)),fzI 50]=.ok (.ow .lst ((a.map Rw.d).map .fz),[.un,.un])/\Wh a O Q E:=by
 obtain⟨R,I,room,t,n,d,g,k,A⟩:=vW2 cs (by omega);obtain⟨o,P,J,p,E,b⟩:=big g y;obtain⟨f1,K,B⟩:=qY3 k;have C :d=1->0<room:=fun z=>of_decide_eq_true (B z)
 have M:=b.dr;have N:=b.rm;have S:=b.tm;have T:=b.ln;obtain⟨l,c,e,u⟩:=b.j.op k (by omega) (by omega);have U:=u.dr;have V:=u.tm;have W:=u.sl;have X:=b.j.sl0;have L:=b.j.step k u (i:=c.sl) (by omega);have Y:=(qYk g).1;have Z:(P ++ [rdL p n]).length =P.length+1:=by rw[aB];rfl
 have m:v8 (j4 ++ (R ++ [Rw.ask t])) os0=.ok {o with st:=o.st ++ [(c.sl,l)],s:={c with sl:=c.sl+1}}:=by
  rw[jZu,yB b.op];show((qU o.hs 30 o.ν t o.s).bind _).bind _=_;rw[e];rfl
 have lr:(j4 ++ (R ++ [Rw.ask t])).length =R.length+3:=by simp[j4]
 have ls:(o.st ++ [(c.sl,l)]).length =P.length+1:=by rw[aB,b.j.len];rfl
 have F:R.filter isDf=[]:=List.filter_eq_nil_iff.mpr fun r v=>by rw[(b.ok r v).2];decide
 have x:(j4 ++ (R ++ [Rw.ask t])).map Rw.d=j4.map Rw.d ++ (R.map Rw.d ++ [(Rw.ask t).d]):=by rw[bF,bF];rfl
 refine⟨_,{o with st:=o.st ++ [(c.sl,l)],s:={c with sl:=c.sl+1}},P ++ [rdL p n],E ++ [((P.length:Nat):Int)],by omega,A,⟨⟨_,L⟩,by omega,o.st,c.sl,l,rfl,by omega,by rw[b.j.sk,b.j.len]⟩,?_,?_,?_,by dsimp only;omega⟩
 ·refine vK0 _ _ (fun r v=>?_) (by omega) (qYn (rs:=j4) (by kernel_rfl) (qYn b.ck ?_)) ?_ (zXj m (by show(o.st ++ [(c.sl,l)]).length <=_;omega) (by omega)) (by dsimp only;omega) m
  ·rcases cN.mp v with h | h
   ·exact jJm r h
   ·rcases cN.mp h with h | h
    ·exact(b.ok r h).1
    ·cases bV.mp h;exact⟨(xL k).1,(xL k).2,fun _ _ _ e=>(by cases e)⟩
  ·rw [show j4.foldl qQu []=hlFG by kernel_rfl,b.ch,show j4.foldl yL []=[] by kernel_rfl];show(chkT _ hlFG t && true)=true;rw[vVr k b.cn];rfl
  ·rw[List.filter_append,List.filter_append,F];exact dH (show 2<3 by decide)
 ·obtain⟨G,y4,y5,f⟩:=b.f2 (sF (pD (j4 ++ (R ++ [Rw.ask t])))) (sF (Rw.df "g" ["x"] qV9).d) (fzI 0) .un;have w:=f [(Rw.ask t).d] _ (vX rfl (vYf false k (b.j.ha k) (by omega)) rfl);refine vW (o:=.rt (lsO (P ++ [rdL p n])) _) (qJ (o:=.ow (.dct []) []) rfl (qJ (o:=.ow .lst []) rfl (jQ (zF (yI (d:=pD (j4 ++ (R ++ [Rw.ask t]))) (e:=[sF (pD (j4 ++ (R ++ [Rw.ask t]))),dS [],lO [],.un,.un,.un]) rfl (by show some _=some _;rw[x]) rfl) ((vXf _ _).trans w)) rfl))) rfl
 ·obtain⟨G,f⟩:=b.f3 (sF (pD (j4 ++ (R ++ [Rw.ask t])))) (sF (Rw.df "g" ["x"] qV9).d);have le:E.length<=1000:=by rw[b.j.sk];have:=qWp o.st 0;have:=b.j.len;omega
  have H:apF ((E.map D.int).map .fz) (.fz (.int (P.length:Nat)))=some (.fz .non,((E ++ [(P.length:Int)]).map D.int).map .fz):=by
   unfold apF;rw[decide_eq_true (show((E.map D.int).map O.fz).length <=lim by rw[aZ,aZ];exact aR le (show 1000<=1000000 by decide)),bF,bF];rfl
  have w:=f [(Rw.ask t).d] _ (vX rfl (qG (q:=true) (e:=[sF (pD (j4 ++ (R ++ [Rw.ask t]))),fzI (P.length:Nat),eO E,sF (Rw.ask t).d]) rfl (zX (yQ (i:=2) (π:=[]) (os0:=(E.map D.int).map .fz) (os:=(E.map D.int).map .fz) rfl rfl rfl rfl rfl H rfl) rfl)) rfl);exact vW (qJ (o:=.fz (.int 0)) rfl (qJ (o:=.ow .lst []) rfl (jQ (zF (yI (d:=pD (j4 ++ (R ++ [Rw.ask t]))) (e:=[sF (pD (j4 ++ (R ++ [Rw.ask t]))),fzI 0,eO [],.un]) rfl (by show some _=some _;rw[x]) rfl) ((zQm _ _).trans w)) rfl))) rfl
noncomputable abbrev Ks:=List (Int×Unit)
noncomputable abbrev uD:Int×Unit->D:=fun _=>.bl true
noncomputable abbrev dU(K:Ks):Slot:=.s false (.ow (.dct (qD Sum.inl K)) (K.map fun p=>.fz (uD p)))
noncomputable def wK(K:Ks)(l:List Int):Ks:=l.foldl (fun K q=>putA K q ()) K
noncomputable def has(K:Ks)(a:Int):Prop:=∃u,getA K a=some u
theorem zY1{a:Int}:has (putA K q ()) a↔a=q\/has K a:=by
 unfold has;rw[zY];by_cases h:q=a
 ·simp[h]
 ·grind
theorem qJh:∀{l:List Int} {K:Ks} {a:Int},has (wK K l) a↔a∈l\/has K a
 |[],K,a=>by simp[wK]
 | q::l,K,a=>by
   show has (wK (putA K q ()) l) a↔_;rw[qJh,zY1,aG];grind
theorem vJh:∀(K:Ks) (q:Int),(putA K q ()).map (·.1)=if q∈K.map (·.1) then K.map (·.1) else K.map (·.1) ++ [q]
 |[],q=>by simp[putA]
 | p::K,q=>by
   unfold putA;by_cases h:p.1=q
   ·grind
   ·rw [if_neg h,aL,vJh K q];grind
theorem has_mem:∀{K:Ks} {a:Int},has K a↔a∈K.map (·.1)
 |[],a=>by simp[has,getA]
 | p::K,a=>by
   have b:=has_mem (K:=K) (a:=a);unfold has at b⊢;unfold getA;by_cases h:p.1=a
   ·simp[h]
   ·grind
theorem jQ2(h:(K.map (·.1)).Nodup):((putA K q ()).map (·.1)).Nodup :=by
 rw[vJh];grind
theorem vWu:∀{l:List Int} {K:Ks},(K.map (·.1)).Nodup ->((wK K l).map (·.1)).Nodup
 |[],K,h=>h
 |q::l,K,h=>vWu (l:=l) (jQ2 h)
theorem jQ3:qWf (qD Sum.inl K,K.map uD) (Sum.inl q:Key) (.bl true)=(qD Sum.inl (putA K q ()),(putA K q ()).map uD):=by
 have h:=qY0 inl_inj uD (l:=K) (i:=q) (v:=());have m:∀l:Ks,(l.map fun p=>O.fz (uD p))=(l.map uD).map .fz :=fun l=>by rw[bL];rfl
 rw[m,m]at h;unfold putO at h;unfold qWf;cases e:kidx (Sum.inl q:Key) (qD Sum.inl K) with
 | none=>
   rw[e]at h;injection h with h1 h2
   injection h1 with h1
   rw[show(List.map O.fz (List.map uD K) ++ [O.fz (uD (q,()))])=(K.map uD ++ [D.bl true]).map O.fz by rw[bF];rfl]at h2;have:=congrArg fzOs h2;rw[qVk,qVk]at this;grind
 | some j=>
   rw[e]at h;injection h with h1 h2
   injection h1 with h1
   rw[show(List.map O.fz (List.map uD K)).set j (O.fz (uD (q,())))=((K.map uD).set j (D.bl true)).map O.fz by rw[List.map_set]]at h2;have:=congrArg fzOs h2;rw[qVk,qVk]at this;grind
theorem vYn:∀(es:List Int) (K:Ks),vR (qD Sum.inl K,K.map uD) (es.map fun e=>((Sum.inl e:Key),D.bl true))=(qD Sum.inl (wK K es),(wK K es).map uD)
 |[],K=>rfl
 | e::es,K=>by
   show vR (qWf (qD Sum.inl K,K.map uD) (Sum.inl e) (.bl true)) (es.map _)=_;rw[jQ3,vYn es];rfl
theorem zK3:∀es:List Int,vQt (es.map fun e=>D.tup [.int e,.bl true])=some (es.map fun e=>((Sum.inl e:Key),D.bl true))
 |[]=>rfl
 | e::es=>by
   show((some ((Sum.inl e:Key),D.bl true)).bind fun p=>(vQt (es.map _)).bind fun a=>some (p::a))=_;rw[zK3 es];rfl
section
variable{x0 x1 x3 x4:Slot}{K:Ks}{Q:List (List Int)}{E:List Int}
theorem in_u{n:Int}:asB (o2 inD (oN 3) (oN 2)) [x0,x1,dU K,fzI n,x4]=.ok ((getA K n).isSome,[x0,x1,dU K,fzI n,x4]):=by
 have e:inD (.int n) (fzO (.ow (.dct (qD Sum.inl K)) (K.map fun p=>.fz (uD p))))=some (.bl (getA K n).isSome):=by
  show((some (kidx (Sum.inl n:Key) (qD Sum.inl K)).isSome).map D.bl)=_;cases h:getA K n with
  |none=>rw[qVr inl_inj h];rfl
  |some v=>obtain⟨j,h1,_⟩:=qWh inl_inj (fun _=>D.non) h;rw[h1];rfl
 exact j5 (vT (zQ (h1:=.d (.int n)) (h2:=.p 2 []) (y:=fzO (.ow (.dct (qD Sum.inl K)) (K.map fun p=>.fz (uD p)))) rfl rfl rfl rfl rfl e rfl) rfl) rfl rfl
theorem add_loop:∀(l:List Int) (K:Ks) (x4:Slot),K.length+l.length<=900->∃a,forS (gN 4) qJx (l.map D.int) [x0,x1,dU K,x3,x4]=.ok (.nx [x0,x1,dU (wK K l),x3,a])
 |[],K,x4,_=>⟨x4,rfl⟩
 | q::l,K,x4,h=>by
   rw[aU]at h;have pl:=j9 (l:=K) (i:=q) (v:=());obtain⟨a,b⟩:=add_loop l (putA K q ()) (fzI q) (by omega);exact⟨a,vX (e1:=[x0,x1,dU K,x3,fzI q]) rfl (putG inl_inj (dv:=uD) (l:=K) (x:=q) (v:=()) (y:=.int q) (hk:=.d (.int q)) (e:=[x0,x1,dU K,x3,fzI q]) rfl rfl rfl rfl rfl (by omega)) b⟩
structure Wi(Q:List (List Int))(E:List Int)(p:Nat)(K:Ks):Prop where
 nd:(K.map (·.1)).Nodup
 lo:∀a,has K a->0<=a/\a<(Q.length:Nat)
 en:∀e∈E,has K e
 cl:∀a,has K a->(p:Int)<=a->∀l,Q[a.toNat]?=some l->∀q∈l,has K q
 wh:∀a,has K a->a∈E\/∃b l,has K b/\Q[b.toNat]?=some l/\a∈l
theorem Wi.few{p:Nat}(w:Wi Q E p K):K.length<=Q.length:=by
 have:=vZ3 (m:=(List.range Q.length).map fun(i:Nat)=>(i:Int)) w.nd fun a ha=>by
  obtain⟨b,c⟩:=w.lo a (has_mem.mpr ha);exact cJ.mpr ⟨a.toNat,dL.mpr (by omega),by omega⟩
 rw[aZ,aZ,cV]at this;exact this
noncomputable def dsc:Nat->List D
 | 0=> []
 |n+1=>.int (n:Nat)::dsc n
theorem vWp:∀n:Nat,dsc n=(List.range n).map fun(i:Nat)=>D.int ((n:Int) - 1+(i:Int) * (-1))
 | 0=>rfl
 | n + 1=>by
   rw[List.range_succ_eq_map,aL,bL,dsc,vWp n];refine congr (congrArg _ ?_) (List.map_congr_left fun i _=>?_)
   ·simp
   ·grind
theorem want_loop(lo:∀(i:Nat) (l:List Int),Q[i]?=some l->∀q∈l,0<=q/\q<(i:Int))(r:Q.length<=62):∀(n:Nat) (K:Ks) (x3 x4:Slot),n<=Q.length->Wi Q E n K->∃K' c j,Wi Q E 0 K' /\forS (gN 3) qJw (dsc n) [x0,sF (lsQ Q),dU K,x3,x4]=.ok (.nx [x0,sF (lsQ Q),dU K',c,j])
 | 0,K,x3,x4,_,w=>⟨K,x3,x4,w,rfl⟩
 | n + 1,K,x3,x4,hn,w=>by
   have t:=in_u (x0:=x0) (x1:=sF (lsQ Q)) (K:=K) (n:=(n:Nat)) (x4:=x4);cases h:getA K (n:Nat) with
   | none=>
     rw[h]at t;obtain⟨K',c,j,o,e⟩:=want_loop lo r n K (fzI (n:Nat)) x4 (by omega) ⟨w.nd,w.lo,w.en,fun a ha x=>w.cl a ha (by
      by_cases z:a=(n:Nat)
      ·obtain⟨u,s⟩:=ha;rw[z,h]at s;cases s
      ·omega),w.wh⟩
     exact⟨K',c,j,o,vX (e1:=[x0,sF (lsQ Q),dU K,fzI (n:Nat),x4]) rfl (v4 t (v6 rfl rfl)) e⟩
   | some u=>
     rw[h]at t;have k:n<Q.length:=by omega
     have g:Q[n]?=some Q[n]:=aD k;have H:=w.few;have sl:(srt Q[n]).length <=62:=by
      have A:=PySem.W.sortI_perm (qQ4 Q[n]);have nd:=vZ3 (m:=(List.range Q.length).map fun(i:Nat)=>(i:Int)) (qZ6 Q[n]) fun a ha=>by
       obtain⟨I,h1⟩:=lo n _ g a ((qXj _ a).mp ha);exact cJ.mpr ⟨a.toNat,dL.mpr (by omega),by omega⟩
      rw[aZ,cV]at nd;rw[A.length_eq];omega
     obtain⟨B,al⟩:=add_loop (x0:=x0) (x1:=sF (lsQ Q)) (x3:=fzI (n:Nat)) (srt Q[n]) K x4 (by omega);have C:iV (oV (oIx (oN 1) (oN 3))) [x0,sF (lsQ Q),dU K,fzI (n:Nat),x4]=.ok ((srt Q[n]).map D.int,[x0,sF (lsQ Q),dU K,fzI (n:Nat),x4]):=by
      refine yI (d:=.nd .lst ((srt Q[n]).map D.int)) (vT (h1:=.d (.nd .lst ((srt Q[n]).map D.int))) (zI (h1:=.d (lsQ Q)) (h2:=.d (.int (n:Nat))) rfl rfl rfl rfl ?_ rfl) rfl) rfl rfl;show(atI (Q.map fun l=>D.nd .lst ((srt l).map D.int)) ((n:Nat):Int)).map Hn.d=_;rw[qWt (show(Q.map fun l=>D.nd .lst ((srt l).map D.int))[n]?=some (.nd .lst ((srt Q[n]).map D.int)) by rw[bM,g];rfl)];rfl
     have p :has K (n:Nat):=⟨u,h⟩
     have f:∀{a},has (wK K (srt Q[n])) a↔a∈Q[n]\/has K a:=fun {a}=>by rw[qJh,qWo]
     suffices wn:Wi Q E n (wK K (srt Q[n])) by
      obtain⟨K',c,j,o,e⟩:=want_loop lo r n (wK K (srt Q[n])) (fzI (n:Nat)) B (by omega) wn;exact⟨K',c,j,o,vX (e1:=[x0,sF (lsQ Q),dU K,fzI (n:Nat),x4]) rfl (v4 t (jE rfl (zF C al))) e⟩
     refine⟨vWu w.nd,fun a ha=>?_,fun a ha=>f.mpr (.inr (w.en a ha)),fun a ha x l k q v=>f.mpr ?_,fun a ha=>?_⟩
     ·rcases f.mp ha with z | z
      ·have:=lo n _ g a z;omega
      ·exact w.lo a z
     ·rcases f.mp ha with z | z
      ·have:=lo n _ g a z;omega
      ·by_cases y:a=(n:Nat)
       ·subst y;rw[bN,g]at k;cases k;exact .inl v
       ·exact .inr (w.cl a z (by omega) l k q v)
     ·rcases f.mp ha with z | z
      ·exact .inr ⟨(n:Nat),Q[n],f.mpr (.inr p),by rw[bN,g],z⟩
      ·rcases w.wh a z with y | ⟨b,l,F,G,c⟩
       ·exact .inl y
       ·exact .inr ⟨b,l,f.mpr (.inr F),G,c⟩
end
noncomputable def skL(last:Int):Nat->List (Int×OT)->List Int
 |_,[]=> []
 |n,p::r=>if(p.1 == -1 || ((n:Nat):Int) == last)=true then(n:Int)::skL last (n+1) r else skL last (n+1) r
theorem seek_comp{last:Int}:∀(st:List (Int×OT)) (n:Nat) (z0 z1:Slot),∃b c,jP (gT 2 (gCn (gN 0) (gCn (gN 1) gNl))) (bOr (asB (o2 eqF (oIx (oN 1) (oC (.int 0))) (o1 negD (oC (.int 1))))) (asB (o2 eqF (oN 0) (oN 2)))) (oV (oN 0)) (j3 n (qK st)) [z0,z1,fzI last]=.ok ((skL last n st).map D.int,[b,c,fzI last])
 |[],n,z0,z1=>⟨z0,z1,rfl⟩
 | p::r,n,z0,z1=>by
   obtain⟨b,c,e⟩:=seek_comp (last:=last) r (n+1) (fzI (n:Nat)) (sF (.tup [.int p.1,p.2.d]));have a:asB (o2 eqF (oIx (oN 1) (oC (.int 0))) (o1 negD (oC (.int 1)))) [fzI (n:Nat),sF (.tup [.int p.1,p.2.d]),fzI last]=.ok (p.1 == -1,[fzI (n:Nat),sF (.tup [.int p.1,p.2.d]),fzI last]):=rfl;have f:asB (o2 eqF (oN 0) (oN 2)) [fzI (n:Nat),sF (.tup [.int p.1,p.2.d]),fzI last]=.ok (((n:Nat):Int) == last,[fzI (n:Nat),sF (.tup [.int p.1,p.2.d]),fzI last]):=rfl;have t:bOr (asB (o2 eqF (oIx (oN 1) (oC (.int 0))) (o1 negD (oC (.int 1))))) (asB (o2 eqF (oN 0) (oN 2))) [fzI (n:Nat),sF (.tup [.int p.1,p.2.d]),fzI last]=.ok (p.1 == -1 || ((n:Nat):Int) == last,[fzI (n:Nat),sF (.tup [.int p.1,p.2.d]),fzI last]):=by
    cases h:p.1 == -1 with
    |true=>rw[h]at a;exact vQq a rfl
    |false=>rw[h]at a;exact vQq a f
   refine⟨b,c,?_⟩;show jP _ _ _ (D.tup [.int (n:Nat),.tup [.int p.1,p.2.d]]::j3 (n+1) (qK r)) _=_;unfold skL;cases q:(p.1 == -1 || ((n:Nat):Int) == last) with
   | true=>
     rw[q]at t;rw[qQp (e1:=[fzI (n:Nat),sF (.tup [.int p.1,p.2.d]),fzI last]) (v:=.int (n:Nat)) rfl t rfl,e];rfl
   | false=>
     rw[q]at t;rw[qYm (e1:=[fzI (n:Nat),sF (.tup [.int p.1,p.2.d]),fzI last]) rfl t,e];rfl
theorem zVx{last:Int}{sl:Int}{ot:OT}(h0:0<=sl):∀(st:List (Int×OT)) (n:Nat),last=((n+st.length:Nat):Int)->skL last n (st ++ [(sl,ot)])=skI n st ++ [last]
 | [],n,h=>by
   show(if(sl == -1 || ((n:Nat):Int) == last)=true then _ else _)=_;rw[if_pos (by rw[h];simp),h];rfl
 | p::r,n,h=>by
   rw[aU]at h;have a:=zVx (last:=last) (ot:=ot) h0 r (n+1) (by omega);show(if(p.1 == -1 || ((n:Nat):Int) == last)=true then(n:Int)::skL last (n+1) (r ++ [(sl,ot)]) else skL last (n+1) (r ++ [(sl,ot)]))=_;rw[a,show(((n:Nat):Int) == last)=false by rw[h];simp;omega,Bool.or_false];show _=(if p.1= -1 then(n:Int)::skI (n+1) r else skI (n+1) r) ++ [last];grind
theorem vQ3:∀(es:List Int) (z:Slot),∃y,jP (gN 0) bTrue (svTup [(oV (oN 0)),(oV (oC (.bl true)))]) (es.map D.int) [z]=.ok (es.map fun e=>D.tup [.int e,.bl true],[y])
 |[],z=>⟨z,rfl⟩
 | e::es,z=>by
   obtain⟨y,a⟩:=vQ3 es (fzI e);exact⟨y,by rw[aL,qQp (e1:=[fzI e]) (v:=.tup [.int e,.bl true]) rfl rfl rfl,a];rfl⟩
section
variable{st' :List (Int×OT)}{dd:Dw}{n:Int}{Q:List (List Int)}{E:List Int}
theorem Wt.seek(w:Wt st' Q E):qJm [sF (oneD st' dd n)]=.ok (.ow .lst ((E.map D.int).map .fz),[.un]):=by
 obtain⟨st,sl,d,g1,g2,b⟩:=w.ei;have few:=w.few;have f:=w.len;have g:st'.length=st.length+1:=by rw[g1];simp
 obtain⟨h,i,c⟩:=seek_comp (last:=((st'.length:Nat):Int) - 1) st' 0 .un .un;have e:skL (((st'.length:Nat):Int) - 1) 0 st' =E:=by
  rw[b,show(((st'.length:Nat):Int) - 1)=((st.length:Nat):Int) by omega,g1];exact zVx g2 st 0 (by omega)
 rw[e]at c;have a:(owS (oV (oSub (oL lenD [(oFld [1] "steps" (oN 0))]) (oC (.int 1))))) [sF (oneD st' dd n),.un]=.ok (.fz (.int (((qK st').length :Nat) - 1)),[sF (oneD st' dd n),.un]):=rfl;rw[show(qK st').length =st'.length by unfold qK;rw[aZ]]at a;refine vW (qJ a (xR (yU (ds:=j3 0 (qK st')) (e:=[sF (oneD st' dd n),fzI (((st'.length:Nat):Int) - 1)]) (qQn (xs:=[.nd .lst (qK st')]) rfl rfl rfl) ?_ c rfl) rfl)) rfl;rw[qV2,decide_eq_true (show(qK st').length <=lim by unfold qK;rw[aZ];exact aR (show st'.length<=1000 by omega) (by decide))];rfl
structure Wf(Q:List (List Int))(E F:List Int):Prop where
 inc:F.Pairwise (· < ·)
 lo:∀a∈F,0<=a/\a<(Q.length:Nat)
 en:∀e∈E,e∈F
 cl:∀a∈F,∀l,Q[a.toNat]?=some l->∀q∈l,q∈F
 wh:∀a∈F,a∈E\/∃b l,b∈F/\Q[b.toNat]?=some l/\a∈l
theorem Wt.ends(w:Wt st' Q E):∀e∈E,0<=e/\e<(Q.length:Nat):=by
 obtain⟨st,sl,d,g1,g2,b⟩:=w.ei;have f:st'.length=st.length+1:=by rw[g1];simp
 have c:∀(st:List (Int×OT)) (n:Nat),∀e∈skI n st,(n:Int)<=e/\e<((n+st.length:Nat):Int):=by
  intro st;induction st with
  |nil=>intro n e h;cases h
  | cons p r ih=>
    intro n e h;unfold skI at h;rw[aU];by_cases z:p.1= -1
    ·rw [if_pos z] at h;rcases aG.mp h with h|h
     ·omega
     ·have:=ih (n+1) e h;omega
    ·rw [if_neg z] at h;have:=ih (n+1) e h;omega
 intro e a;have:=w.len;rw[b]at a;rcases cN.mp a with h|h
 ·have:=c _ _ e h;omega
 ·have:=bV.mp h;omega
theorem Wt.want(w:Wt st' Q E):∃F,Wf Q E F/\∀(dd:Dw) (n:Int),yT [sF (oneD st' dd n)]=.ok (.ow .lst ((F.map D.int).map .fz),[.un]):=by
 have few:=w.few;have o:=Wi.mk (Q:=Q) (E:=E) (p:=Q.length) (K:=wK [] E) (vWu (by simp)) (fun a ha=>(qJh.mp ha).elim (w.ends a) (fun⟨_,h⟩=>by cases h)) (fun e c=>qJh.mpr (.inl c)) (fun a ha N=>by have:=(qJh.mp ha).elim (w.ends a) (fun⟨_,h⟩=>by cases h);omega) (fun a ha=>.inl ((qJh.mp ha).elim id (fun⟨_,h⟩=>by cases h)));obtain⟨K,f,g,k,r⟩:=want_loop (x0:=sF (.nd .lst (E.map D.int))) w.lo few Q.length _ .un .un (aC _) o;have P:=k.few;refine⟨eU (K.map (·.1)),?_,?_⟩
 ·have j:=PySem.W.sortI_perm (K.map (·.1));have m:∀a,a∈eU (K.map (·.1))↔has K a:=fun a=>by rw[j.mem_iff,has_mem]
  refine⟨?_,fun a ha=>k.lo a ((m a).mp ha),fun e c=>(m e).mpr (k.en e c),fun a ha l t q u=>(m q).mpr (k.cl a ((m a).mp ha) (by have:=k.lo a ((m a).mp ha);omega) l t q u),fun a ha=>?_⟩
  ·exact((PySem.W.sortI_rises _).and (j.nodup_iff.mpr k.nd)).imp fun h=>by have:=h.1;have:=h.2;omega
  ·rcases k.wh a ((m a).mp ha) with h | ⟨b,l,x,z,A⟩
   ·exact .inl h
   ·exact .inr ⟨b,l,(m b).mpr x,z,A⟩
 ·intro dd n;have R:E.length<=62:=by
   have:=qWp;obtain⟨st,sl,S,g1,g2,B⟩:=w.ei;have T:st'.length=st.length+1:=by rw[g1];simp
   have:=qWp st 0;have:=w.len;rw[B,aB];show _+1<=62;omega
  obtain⟨y,C⟩:=vQ3 E .un;have G:fzS (compS 1 [] [0] (iV (oV (oN 0))) (gN 0) bTrue (svTup [(oV (oN 0)),(oV (oC (.bl true)))])) [sF (.nd .lst (E.map D.int)),sF (lsQ Q),.un,.un,.un]=.ok (.nd .lst (E.map fun e=>D.tup [.int e,.bl true]),[sF (.nd .lst (E.map D.int)),sF (lsQ Q),.un,.un,.un]):=by
   refine xC (yI (d:=.nd .lst (E.map D.int)) rfl rfl rfl) ?_ C rfl;rw[aZ,decide_eq_true (aR (show E.length<=1000 by omega) (by decide))];rfl
  have c2:vWo (.v (fzS (compS 1 [] [0] (iV (oV (oN 0))) (gN 0) bTrue (svTup [(oV (oN 0)),(oV (oC (.bl true)))])))) [sF (.nd .lst (E.map D.int)),sF (lsQ Q),.un,.un,.un]=.ok (.ow (.dct (qD Sum.inl (wK [] E))) ((wK [] E).map fun p=>.fz (uD p)),[sF (.nd .lst (E.map D.int)),sF (lsQ Q),.un,.un,.un]):=by
   refine xE (yF (zS G rfl) rfl (qKo rfl) rfl) (xE (a:=([.nd .lst (E.map fun e=>D.tup [.int e,.bl true])],_)) rfl ?_);show(opt (vQt (E.map fun e=>D.tup [.int e,.bl true]))).bind _=_;rw[zK3];show cond (decide ((E.map fun e=>((Sum.inl e:Key),D.bl true)).length <=1000)) _ _=_;rw[aZ,decide_eq_true (by omega)];show Res.ok (DX.O.ow (.dct (vR ([],[]) _).1) ((vR ([],[]) _).2.map .fz),_)=_;rw[show(([],[]):List Key×List D)=(qD Sum.inl ([]:Ks),([]:Ks).map uD) from rfl,vYn,bL];rfl
  have H:iL rgR [(oV (oSub (oL lenD [(oN 1)]) (oC (.int 1)))),(oV (o1 negD (oC (.int 1)))),(oV (o1 negD (oC (.int 1))))] [sF (.nd .lst (E.map D.int)),sF (lsQ Q),dU (wK [] E),.un,.un]=.ok (dsc Q.length,[sF (.nd .lst (E.map D.int)),sF (lsQ Q),dU (wK [] E),.un,.un]):=by
   refine qQn (xs:=[.int ((((Q.map fun l=>D.nd .lst ((srt l).map D.int)).length :Nat):Int) - 1),.int (-1),.int (-1)]) rfl ?_ rfl;rw[aZ,vWp];show cond (decide (-1<=((Q.length:Nat):Int) - 1) && decide (((Q.length:Nat):Int) - 1<2 ^ 40)) (some ((List.range (((Q.length:Nat):Int) - 1+1).toNat).map fun(i:Nat)=>D.int (((Q.length:Nat):Int) - 1+(i:Int) * (-1)))) none=_;rw[decide_eq_true (by omega),decide_eq_true (by omega),show(((Q.length:Nat):Int) - 1+1).toNat =Q.length by omega];rfl
  have I:eF sortKD [(oN 2)] [sF (.nd .lst (E.map D.int)),sF (lsQ Q),dU K,f,g]=.ok (.ow .lst (((eU (K.map (·.1))).map D.int).map .fz),[sF (.nd .lst (E.map D.int)),sF (lsQ Q),.s false (vZ5 (.ow (.dct (qD Sum.inl K)) (K.map fun p=>.fz (uD p)))),f,g]):=by
   refine vQv (hs:=[.p 2 []]) rfl (xs:=[fzO (.ow (.dct (qD Sum.inl K)) (K.map fun p=>.fz (uD p)))]) rfl ?_ rfl;show cond ((qD Sum.inl K).all isIn && decide ((qD Sum.inl K).length<64)) (some ((eU ((qD Sum.inl K).map keyI)).map D.int)) none=_;unfold qD;rw[aZ,decide_eq_true (by omega),bL,List.all_map,show(K.all (isIn ∘ fun p=>Sum.inl p.1))=true from List.all_eq_true.mpr fun _ _=>rfl];rfl
  have J:qZ7 [sF (.nd .lst (E.map D.int)),sF (lsQ Q)]=.ok (.ow .lst (((eU (K.map (·.1))).map D.int).map .fz),[.un,.un]):=vW (qJ c2 (jQ (zF H r) (xR I rfl))) rfl;have L:fzS (qM qJm [(.v (oV (oN 0)))]) [sF (oneD st' dd n)]=.ok (.nd .lst (E.map D.int),[sF (oneD st' dd n)]):=jK (vJ (vY (d:=oneD st' dd n) rfl (vU rfl) rfl) (qN rfl rfl rfl w.seek rfl rfl rfl)) (by rw[vZ];rfl);have M:fzS (qM qYp [(.v (oV (oN 0)))]) [sF (oneD st' dd n)]=.ok (lsQ Q,[sF (oneD st' dd n)]):=jK (vJ (vY (d:=oneD st' dd n) rfl (vU rfl) rfl) (qN rfl rfl rfl w.le rfl rfl rfl)) (by rw[zV9];rfl);exact vW (xR (vJ (vY L (vY M (vU rfl) rfl) rfl) (qN rfl rfl rfl J rfl rfl rfl)) rfl) rfl
end
noncomputable abbrev lI(l:List Int):D:=.nd .lst (l.map D.int)
theorem zJ0(k:Kd)(ds:List D):vZ5 (.ow k (ds.map .fz))=.ow k (ds.map .fz):=by show O.ow k ((ds.map O.fz).map fun o=>O.fz (fzO o))=_;rw[bL];rfl
noncomputable def Eqs(n:Nat)(d:D):Prop:=∀m,n<=m->deq m d d=some true
theorem qXr{f:D->D->Option Bool}:∀{ds:List D},(∀d∈ds,f d d=some true)->all2 f ds ds=some true
 |[],_=>rfl
 | d::ds,h=>by
   show(f d d).bind _=_;rw[h d (by simp)];show(all2 f ds ds).bind _=_;rw[qXr fun x a=>h x (aI _ a)];rfl
section
variable{n m:Nat}{d:D}{ds:List D}
theorem Eqs.mk(h:∀d∈ds,Eqs n d):Eqs (n+1) (.tup ds)
 | 0,l=>by omega
 |m+1,l=>qXr fun d a=>h d a m (by omega)
theorem Eqs.ls(h:∀d∈ds,Eqs n d):Eqs (n+1) (.nd .lst ds)
 | 0,l=>by omega
 |m+1,l=>qXr fun d a=>h d a m (by omega)
theorem Eqs.eq(h:Eqs n d)(l:n<=30):eqQ d d=some (.bl true):=by unfold eqQ;rw[h 30 l];rfl
theorem Eqs.ne(h:Eqs n d)(l:n<=30):neQ d d=some (.bl false):=by unfold neQ;rw[h 30 l];rfl
theorem Eqs.int(i:Int):Eqs n (.int i)
 | 0,_=>by show some (i == i)=_;simp
 |m+1,_=>by show some (i == i)=_;simp
theorem Eqs.str(x:Str):Eqs n (.str x)
 | 0,_=>by show some (decide (x=x))=_;simp
 |m+1,_=>by show some (decide (x=x))=_;simp
theorem Eqs.up(h:Eqs n d)(l:n<=m):Eqs m d:=fun k q=>h k (by omega)
theorem al(h:Eqs n d)(k:∀x∈ds,Eqs n x):∀x∈d::ds,Eqs n x:=List.forall_mem_cons.mpr ⟨h,k⟩
theorem an:∀x∈([]:List D),Eqs n x:=fun x h=>by cases h
end
mutual
theorem yO:∀t:OT,Eqs (3 * t.h) t.d
 |.num n=>by rw[OT.d,OT.h];exact Eqs.mk (n:=2) (al (.str _) (al (.int _) an))
 |.slot n=>by rw[OT.d,OT.h];exact Eqs.mk (n:=2) (al (.str _) (al (.int _) an))
 |.draw n=>by rw[OT.d,OT.h];exact Eqs.mk (n:=2) (al (.str _) (al (.int _) an))
 | .op s a b=>by
   rw[OT.d,OT.h];exact(Eqs.mk (n:=3 * max a.h b.h) (al (.str _) (al (.str _) (al ((yO a).up (by omega)) (al ((yO b).up (by omega)) an))))).up (by omega)
 | .rest a n=>by
   rw[OT.d,OT.h];exact(Eqs.mk (n:=3 * a.h) (al (.str _) (al (yO a) (al (.int _) an)))).up (by omega)
 | .field a n=>by
   rw[OT.d,OT.h];exact(Eqs.mk (n:=3 * a.h) (al (.str _) (al (yO a) (al (.str _) an)))).up (by omega)
 | .ite c a b=>by
   rw[OT.d,OT.h];exact(Eqs.mk (n:=3 * max c.h (max a.h b.h)) (al (.str _) (al ((yO c).up (by omega)) (al ((yO a).up (by omega)) (al ((yO b).up (by omega)) an))))).up (by omega)
 | .rcd xs as=>by
   rw[OT.d,OT.h];exact(Eqs.mk (n:=3 * OT.hs as+2) (al (.str _) (al (Eqs.mk (eqs_ots xs as)) an))).up (by omega)
 | .bind i a b=>by
   rw[OT.d,OT.h];exact(Eqs.mk (n:=3 * max a.h b.h) (al (.str _) (al (.int _) (al ((yO a).up (by omega)) (al ((yO b).up (by omega)) an))))).up (by omega)
theorem eqs_ots:∀(xs:List Str) (as:List OT),∀d∈zipD (xs.map .str) (OT.ds as),Eqs (3 * OT.hs as+1) d
 |[],_,d,hd=>by cases hd
 |x::xs,[],d,hd=>by rw[OT.ds]at hd;cases hd
 | x::xs,a::as,d,hd=>by
   rw[OT.ds]at hd;rw[OT.hs];rcases aG.mp hd with q|q
   ·rw[q];exact(Eqs.mk (n:=3 * a.h) (al (.str _) (al (yO a) an))).up (by omega)
   ·exact(eqs_ots xs as d q).up (by omega)
end
theorem zZk{st:List (Int×OT)}(h:∀p∈st,p.2.h<=7):Eqs 23 (.nd .lst (qK st)):=Eqs.ls fun d a=>by
 obtain⟨p,b,rfl⟩:=cJ.mp a;have:=h p b;exact Eqs.mk (n:=21) (al (.int _) (al ((yO p.2).up (by omega)) an))
end LG
namespace X52
open PySem L2 DX FP LWF FM LG PyProof.Rows
variable{B:List Bool}{i q:Nat}{env:Ev}{b:Bool}
noncomputable abbrev bO(B:List Bool):O:=.ow .lst ((B.map D.bl).map .fz)
noncomputable abbrev bS(B:List Bool):Slot:=.s false (bO B)
noncomputable def hB(B:List Bool)(k:Nat):Prop:=B[k]?=some true
theorem vWm{k:Nat}(h:i<B.length):hB (B.set i true) k↔k=i\/hB B k:=by
 unfold hB;rw[List.getElem?_set];by_cases z:i=k
 ·subst z;simp[h]
 ·simp[z,Ne.symm z]
noncomputable def qZg(B:List Bool)(l:List Int):List Bool:=l.foldl (fun B q=>B.set q.toNat true) B
theorem qKu:∀(l:List Int) (B:List Bool),(qZg B l).length =B.length
 |[],B=>rfl
 |q::l,B=>by show(qZg (B.set q.toNat true) l).length =_;rw[qKu l,bI]
theorem zZi:∀(l:List Int) {B:List Bool} {k:Nat},(∀q∈l,q.toNat<B.length)->(hB (qZg B l) k↔(∃q∈l,q.toNat=k)\/hB B k)
 |[],B,k,_=>by simp[qZg]
 | q::l,B,k,h=>by
   show hB (qZg (B.set q.toNat true) l) k↔_;rw[zZi l (fun x hx=>by rw[bI];exact h x (aI _ hx)),vWm (h q (by simp))];constructor
   ·rintro(⟨x,hx,e⟩ | e | e)
    ·exact .inl ⟨x,aI _ hx,e⟩
    ·exact .inl ⟨q,by simp,e.symm⟩
    ·exact .inr e
   ·rintro(⟨x,hx,e⟩ | e)
    ·rcases aG.mp hx with rfl | hx
     ·exact .inr (.inl e.symm)
     ·exact .inl ⟨x,hx,e⟩
    ·exact .inr (.inr e)
structure Ci(Q:List (List Int))(F:List Int)(e p:Nat)(B:List Bool):Prop where
 len:B.length=Q.length
 en:hB B e
 lo:∀k,hB B k->k<=e
 so:∀k,hB B k->(k:Int)∈F
 cl:∀b,p<=b->hB B b->∀l,Q[b]?=some l->∀q∈l,hB B q.toNat
section
variable{Q:List (List Int)}{F:List Int}{e p:Nat}{B:List Bool}{x0 x1 x3:Slot}
theorem Ci.skip(c:Ci Q F e (p+1) B)(h:¬hB B p):Ci Q F e p B:=⟨c.len,c.en,c.lo,c.so,fun b hb q=>c.cl b (by
 rcases Nat.lt_or_ge p b with z|z
 ·exact z
 ·exact absurd q (by rw[show b=p by omega];exact h)) q⟩
theorem Ci.step(lo:∀(i:Nat) (l:List Int),Q[i]?=some l->∀q∈l,0<=q/\q<(i:Int))(j:∀a∈F,∀l,Q[a.toNat]?=some l->∀q∈l,q∈F)(c:Ci Q F e (p+1) B){l:List Int}(hl:Q[p]?=some l)(h:hB B p):Ci Q F e p (qZg B (srt l)):=by
 have r:=(aM.mp hl).1;have len:=c.len;have g:∀q∈srt l,0<=q/\q<(p:Int):=fun q d=>lo p l hl q ((qWo l q).mp d)
 have al:∀{k:Nat},hB (qZg B (srt l)) k↔(∃q∈srt l,q.toNat=k)\/hB B k:=zZi (srt l) fun q d=>by have:=g q d;omega
 refine⟨by rw[qKu];exact len,al.mpr (.inr c.en),fun k f=>?_,fun k f=>?_,fun b hb f m n q d=>al.mpr ?_⟩
 ·rcases al.mp f with⟨q,d,z⟩ | z
  ·have:=g q d;have:=c.lo p h;omega
  ·exact c.lo k z
 ·rcases al.mp f with⟨q,d,z⟩ | z
  ·have:=g q d;rw[show(k:Int)=q by omega];exact j (p:Int) (c.so p h) l hl q ((qWo l q).mp d)
  ·exact c.so k z
 ·rcases al.mp f with⟨x,o,z⟩ | z
  ·have:=g x o;omega
  ·by_cases y:b=p
   ·subst y;rw[hl]at n;cases n;exact .inl ⟨q,(qWo _ q).mpr d,rfl⟩
   ·exact .inr (c.cl b (by omega) z m n q d)
theorem qYg{n:Nat}(h:i<n):ixN n (i:Int)=some i:=by
 unfold ixN;simp[h]
theorem zKq:((B.map D.bl).map O.fz).set q (.fz (.bl true))=((B.set q true).map D.bl).map O.fz:=by rw[List.map_set,List.map_set]
theorem setB(h:q<B.length){x4:Slot}:qQg [x0,x1,bS B,x3,fzI (q:Nat)]=.ok (.nx [x0,x1,bS (B.set q true),x3,fzI (q:Nat)]):=by
 refine vYb (x:=.fz (.bl true)) (i:=2) (π:=[]) (hk:=.d (.int (q:Nat))) (n:=(q:Nat)) (os:=(B.map D.bl).map .fz) (j:=q) rfl rfl rfl rfl rfl rfl (by rw[aZ,aZ];exact qYg h) ?_
 show Res.ok (Out.nx [x0,x1,.s false (.ow .lst (((B.map D.bl).map O.fz).set q (.fz (.bl true)))),x3,fzI (q:Nat)])=_;rw[zKq]
theorem in_loop:∀(l:List Int) (B:List Bool) (x4:Slot),(∀q∈l,0<=q/\q.toNat<B.length)->∃y,forS (gN 4) qQg (l.map D.int) [x0,x1,bS B,x3,x4]=.ok (.nx [x0,x1,bS (qZg B l),x3,y])
 |[],B,x4,_=>⟨x4,rfl⟩
 | q::l,B,x4,h=>by
   obtain⟨d,a⟩:=h q (by simp);obtain⟨y,b⟩:=in_loop l (B.set q.toNat true) (fzI q) (fun x c=>by rw[bI];exact h x (aI _ c));have s:=setB (x0:=x0) (x1:=x1) (x3:=x3) (x4:=.un) a;rw[show((q.toNat:Nat):Int)=q by omega]at s;exact⟨y,vX (e1:=[x0,x1,bS B,x3,fzI q]) rfl s b⟩
theorem ixB{k:Nat}(h:B[k]?=some b)(g:getE env i []=some (bO B)):hnIx env (.int (k:Nat)) (.p i [])=some (.d (.bl b)):=by
 have a:=(aM.mp h).1;show(match getE env i [] with|some (.ow k' os)=>(idxK os.length (.int (k:Nat)) k').bind fun j=>(os[j]?).bind fun o=>some (hnO o i ([] ++ [j]))|_=>none)=_;rw[g];show((ixN ((B.map D.bl).map O.fz).length (k:Nat)).bind fun j=>(((B.map D.bl).map O.fz)[j]?).bind fun o=>some (hnO o i ([] ++ [j])))=_;rw[qYg (by rw[aZ,aZ];exact a),cW,bM,bM,h];rfl
theorem cl_loop(lo:∀(i:Nat) (l:List Int),Q[i]?=some l->∀q∈l,0<=q/\q<(i:Int))(b:∀a∈F,∀l,Q[a.toNat]?=some l->∀q∈l,q∈F):∀(p:Nat) (B:List Bool) (x3 x4:Slot),p<=Q.length->Ci Q F e p B->∃g h j,Ci Q F e 0 g /\forS (gN 3) qJa (dsc p) [sF (lsQ Q),x1,bS B,x3,x4]=.ok (.nx [sF (lsQ Q),x1,bS g,h,j])
 | 0,B,x3,x4,_,c=>⟨B,x3,x4,c,rfl⟩
 | p + 1,B,x3,x4,hp,c=>by
   have k:Q[p]?=some Q[p]:=aD (by omega);have m:p<B.length:=by rw[c.len];omega
   have hb:B[p]?=some B[p]:=aD m;have t:∀{x4:Slot},asB (oIx (oN 2) (oN 3)) [sF (lsQ Q),x1,bS B,fzI (p:Nat),x4]=.ok (B[p],[sF (lsQ Q),x1,bS B,fzI (p:Nat),x4]):=fun {x4}=>j5 (vT (zI (h1:=.p 2 []) (h2:=.d (.int (p:Nat))) rfl rfl rfl rfl (ixB hb rfl) rfl) rfl) rfl rfl
   by_cases z:hB B p
   ·have e1:B[p]=true:=by unfold hB at z;rw [hb] at z;exact Option.some.inj z
    rw[e1]at t;have r:∀q∈srt Q[p],0<=q/\q.toNat<B.length:=fun q s=>by have:=lo p _ k q ((qWo _ q).mp s);have:=c.len;omega
    obtain⟨y,f⟩:=in_loop (x0:=sF (lsQ Q)) (x1:=x1) (x3:=fzI (p:Nat)) (srt Q[p]) B x4 r;obtain⟨g,h,j,n,o⟩:=cl_loop lo b p _ (fzI (p:Nat)) y (by omega) (c.step lo b k z);have u:oV (oIx (oN 0) (oN 3)) [sF (lsQ Q),x1,bS B,fzI (p:Nat),x4]=.ok (lI (srt Q[p]),[sF (lsQ Q),x1,bS B,fzI (p:Nat),x4]):=by
     refine vT (zI (h1:=.d (lsQ Q)) (h2:=.d (.int (p:Nat))) rfl rfl rfl rfl ?_ rfl) rfl;show(atI (Q.map fun l=>D.nd .lst ((srt l).map D.int)) (p:Nat)).map Hn.d=_;rw[qWt (show(Q.map fun l=>D.nd .lst ((srt l).map D.int))[p]?=some (lI (srt Q[p])) by rw[bM,k];rfl)];rfl
    exact⟨g,h,j,n,vX (e1:=[sF (lsQ Q),x1,bS B,fzI (p:Nat),x4]) rfl (v4 t (zF (yI u rfl rfl) f)) o⟩
   ·have e1:B[p]=false:=by
     cases y:B[p] with
     |false=>rfl
     |true=>exact absurd (by unfold hB;rw[hb,y]) z
    rw[e1]at t;obtain⟨g,h,j,n,o⟩:=cl_loop lo b p B (fzI (p:Nat)) x4 (by omega) (c.skip z);exact⟨g,h,j,n,vX (e1:=[sF (lsQ Q),x1,bS B,fzI (p:Nat),x4]) rfl (v4 t rfl) o⟩
theorem zXl{n:Nat}(h:n<=1000):rgV [.int (n:Nat)]=some (dsc n):=by
 rw[vWp];unfold rgV;have a:(0:Int)<=((n:Nat):Int):=by omega
 have b:((n:Nat):Int)<2 ^ 40:=by omega
 simp only[decide_eq_true a,decide_eq_true b,Bool.and_self,cond_true,show((n:Nat):Int).toNat =n by omega]
theorem jJa(n:Nat):(List.replicate n [D.bl false]).flatten =(List.replicate n false).map D.bl:=by
 induction n with
 |zero=>rfl
 |succ n ih=>rw[dF,List.flatten_cons,ih,dF];rfl
theorem zV7{n:Nat}(b:n<=1000)(h:∀{x y:Slot} {X},X=(.ok (.d (.int (n:Nat)),env):Res (Hn×Ev))->evO (oL lenD [(oN i)]) env=X):vQu (.v (fzS (eLst [(oV (oC (.bl false)))]))) (oL lenD [(oN i)]) env=.ok (bO (List.replicate n false),env):=by
 refine xE (a:=(.d (.nd .lst [.bl false]),env)) (zS rfl rfl) (xE (a:=(.d (.int (n:Nat)),env)) (h (x:=.un) (y:=.un) rfl) ?_);show(cond (decide (([D.bl false]:List D).length * ((n:Nat):Int).toNat <=1000/\((n:Nat):Int).natAbs <=1000)) (Res.ok (O.ow .lst ((List.replicate ((n:Nat):Int).toNat [D.bl false]).flatten.map .fz),env)) .no)=_;rw[decide_eq_true ⟨by simp;omega,by omega⟩,show((n:Nat):Int).toNat =n by omega,jJa];rfl
theorem zQx(lo:∀(i:Nat) (l:List Int),Q[i]?=some l->∀q∈l,0<=q/\q<(i:Int))(f:∀a∈F,∀l,Q[a.toNat]?=some l->∀q∈l,q∈F)(few:Q.length<=62)(g:e<Q.length)(o:(e:Int)∈F):∃B,Ci Q F e 0 B/\yC [sF (lsQ Q),fzI (e:Nat)]=.ok (bO B,[.un,.un]):=by
 have p:Ci Q F e (e+1) ((List.replicate Q.length false).set e true):=by
  have h:∀k,hB ((List.replicate Q.length false).set e true) k->k=e:=fun k hk=>by
   rcases(vWm (by rw[eC];exact g)).mp hk with z|z
   ·exact z
   ·unfold hB at z;rw[List.getElem?_replicate]at z;split at z <;> cases z
  exact⟨by rw[bI,eC],(vWm (by rw[eC];exact g)).mpr (.inl rfl),fun k hk=>Nat.le_of_eq (h k hk),fun k hk=>by rw[h k hk];exact o,fun b hb hk=>by have:=h b hk;omega⟩
 obtain⟨B,u,w,c,r⟩:=cl_loop (x1:=fzI (e:Nat)) lo f (e+1) _ .un .un (by omega) p;have m:vQu (.v (fzS (eLst [(oV (oC (.bl false)))]))) (oL lenD [(oN 0)]) [sF (lsQ Q),fzI (e:Nat),.un,.un,.un]=.ok (bO (List.replicate Q.length false),[sF (lsQ Q),fzI (e:Nat),.un,.un,.un]):=zV7 (by omega) fun {x y X} z=>by
  rw[z];show Res.ok (Hn.d (.int ((Q.map fun l=>D.nd .lst ((srt l).map D.int)).length :Nat)),_)=_;rw[aZ]
 have s:sSetI (pOf (oN 2)) (pOf (oN 1)) (owS (oV (oC (.bl true)))) [sF (lsQ Q),fzI (e:Nat),bS (List.replicate Q.length false),.un,.un]=.ok (.nx [sF (lsQ Q),fzI (e:Nat),bS ((List.replicate Q.length false).set e true),.un,.un]):=by
  refine vYb (x:=.fz (.bl true)) (i:=2) (π:=[]) (hk:=.d (.int (e:Nat))) (n:=(e:Nat)) (os:=((List.replicate Q.length false).map D.bl).map .fz) (j:=e) rfl rfl rfl rfl rfl rfl (by rw[aZ,aZ,eC];exact qYg g) ?_
  show Res.ok (Out.nx [sF (lsQ Q),fzI (e:Nat),.s false (.ow .lst ((((List.replicate Q.length false).map D.bl).map O.fz).set e (.fz (.bl true)))),.un,.un])=_;rw[zKq]
 have t:iL rgV [(oV (oAdd (oN 1) (oC (.int 1))))] [sF (lsQ Q),fzI (e:Nat),bS ((List.replicate Q.length false).set e true),.un,.un]=.ok (dsc (e+1),[sF (lsQ Q),fzI (e:Nat),bS ((List.replicate Q.length false).set e true),.un,.un]):=by
  refine qQn (xs:=[.int (((e:Nat):Int)+1)]) rfl ?_ rfl;rw[show((e:Nat):Int)+1=((e+1:Nat):Int) by omega];exact zXl (by omega)
 exact⟨B,c,vW (qJ m (jQ s (jQ (zF t r) rfl))) rfl⟩
end
noncomputable def orB(n:Nat)(H B:List Bool):List Bool:=(List.range n).map fun k=>H.getD k false || B.getD k false
theorem qYj{k:Nat}:B.getD k false=true↔hB B k:=by
 unfold hB;rw[cD];cases B[k]? with
 |none=>simp
 |some b=>simp
theorem jQb{k:Nat}(h:hB B k):k<B.length:=(aM.mp h).1
theorem zVm{n:Nat}{H:List Bool}{k:Nat}:hB (orB n H B) k↔k<n/\(hB H k\/hB B k):=by
 rw[←qYj (B:=H),←qYj (B:=B),←Bool.or_eq_true];unfold hB orB;rw[bM];by_cases h:k<n
 ·rw[List.getElem?_range h];simp[h]
 ·rw[List.getElem?_eq_none (by rw[cV];omega)];simp[h]
noncomputable abbrev nD(k:Nat):D:=.int (k:Nat)
theorem zV0{n:Nat}(h:n<=1000):rg1 [.int (n:Nat)]=some ((List.range n).map nD):=by
 have i:in62 ((n:Nat):Int)=true:=by unfold in62;rw[aF];exact⟨decide_eq_true (by omega),decide_eq_true (by omega)⟩
 show cond (in62 ((n:Nat):Int)) (some (rngD 0 ((n:Nat):Int).toNat)) none=_;rw[i,show((n:Nat):Int).toNat =n by omega];show some (rngD 0 n)=_;unfold rngD;exact congrArg some (List.map_congr_left fun k _=>by rw[Int.zero_add])
section
variable{Q:List (List Int)}{E F:List Int}{H B:List Bool}
theorem vWn{k:Nat}(h:k<B.length):B[k]?=some (B.getD k false):=by
 rw[cD,aD h];rfl
theorem ixS{j k:Nat}(h:B[k]?=some b)(g:getE env i []=some (bO B))(a:evO (oN i) env=.ok (.p i [],env))(c:evO (oN j) env=.ok (.d (nD k),env)):asB (oIx (oN i) (oN j)) env=.ok (b,env)/\oV (oIx (oN i) (oN j)) env=.ok (.bl b,env):=by
 have:=zI (k:=rfl) a c rfl rfl (ixB h g);exact⟨j5 (vT this rfl) rfl rfl,vT this rfl⟩
theorem or_comp:∀(ks:List Nat) (z:Slot),(∀k∈ks,k<H.length/\k<B.length)->∃a,jP (gN 0) bTrue (oV (oOr (oIx (oN 2) (oN 0)) (oIx (oN 1) (oN 0)))) (ks.map nD) [z,bS B,bS H]=.ok (ks.map fun k=>D.bl (H.getD k false || B.getD k false),[a,bS B,bS H])
 |[],z,_=>⟨z,rfl⟩
 | k::ks,z,h=>by
   obtain⟨b,c⟩:=h k (by simp);obtain⟨a,d⟩:=or_comp ks (fzI (k:Nat)) (fun x e=>h x (aI _ e));have f:=(ixS (env:=[fzI (k:Nat),bS B,bS H]) (i:=2) (j:=0) (vWn b) rfl rfl rfl).1;have g:=(ixS (env:=[fzI (k:Nat),bS B,bS H]) (i:=1) (j:=0) (vWn c) rfl rfl rfl).2;have v:oV (oOr (oIx (oN 2) (oN 0)) (oIx (oN 1) (oN 0))) [fzI (k:Nat),bS B,bS H]=.ok (.bl (H.getD k false || B.getD k false),[fzI (k:Nat),bS B,bS H]):=by
    refine vT (zS (xE f ?_) rfl) rfl;cases H.getD k false with
    |true=>rfl
    |false=>exact g
   exact⟨a,by rw[aL,qQp (e1:=[fzI (k:Nat),bS B,bS H]) rfl rfl v,d];rfl⟩
structure Hd(Q:List (List Int))(F:List Int)(H:List Bool):Prop where
 len:H.length=Q.length
 so:∀k,hB H k->(k:Int)∈F
noncomputable abbrev lE(x0 x1 x2 x3 x4 a:Slot)(H:List Bool)(x7 x8 x9 x10:Slot):Ev:=[x0,x1,x2,x3,x4,a,bS H,x7,x8,x9,x10]
variable{x0 x1 x2 x3 x4 x9 x10 s5:Slot}
noncomputable def Ln(Q:List (List Int))(a:Slot):Prop:=a=.s false (lsO Q)\/a=sF (lsQ Q)
theorem Ln.fr(h:Ln Q s5){x7 x8:Slot}:oV (oN 5) (lE x0 x1 x2 x3 x4 s5 H x7 x8 x9 x10)=.ok (lsQ Q,lE x0 x1 x2 x3 x4 (sF (lsQ Q)) H x7 x8 x9 x10):=by
 rcases h with rfl|rfl
 ·unfold sF;rw[←zV9];rfl
 ·rfl
theorem jQf:(fzOs ((H.map D.bl).map .fz)).length =H.length:=by rw[qY4,aZ,aZ]
theorem turn(lo:∀(i:Nat) (l:List Int),Q[i]?=some l->∀q∈l,0<=q/\q<(i:Int))(g:∀a∈F,∀l,Q[a.toNat]?=some l->∀q∈l,q∈F)(few:Q.length<=62)(h:Hd Q F H){e:Nat}(m:e<Q.length)(n:(e:Int)∈F)(o:Ln Q s5)(x8:Slot):∃H' B,Hd Q F H' /\Ci Q F e 0 B/\(∀k,hB B k->hB H' k)/\(∀k,hB H k->hB H' k)/\vZd (lE x0 x1 x2 x3 x4 s5 H (fzI (e:Nat)) x8 x9 x10)=.ok (.nx (lE x0 x1 x2 x3 x4 (sF (lsQ Q)) H' (fzI (e:Nat)) (bS B) x9 x10)):=by
 obtain⟨B,c,f⟩:=zQx lo g few m n;have p:=h.len;have u:=c.len;have r:(orB Q.length H B).length =Q.length:=by unfold orB;rw[aZ,cV]
 have s:qM yC [(.v (oV (oN 5))),(.v (oV (oN 7)))] (lE x0 x1 x2 x3 x4 s5 H (fzI (e:Nat)) x8 x9 x10)=.ok (bO B,lE x0 x1 x2 x3 x4 (sF (lsQ Q)) H (fzI (e:Nat)) x8 x9 x10):=vJ (vY o.fr (vY (d:=.int (e:Nat)) rfl (vU rfl) rfl) rfl) (qN rfl rfl rfl f rfl rfl rfl);have j:oV (oL lenD [(oN 6)]) (lE x0 x1 x2 x3 x4 (sF (lsQ Q)) H (fzI (e:Nat)) (bS B) x9 x10)=.ok (.int ((fzOs ((H.map D.bl).map .fz)).length :Nat),lE x0 x1 x2 x3 x4 (sF (lsQ Q)) H (fzI (e:Nat)) (bS B) x9 x10):=by kernel_rfl
 rw[jQf,p]at j;obtain⟨w,t⟩:=or_comp (H:=H) (B:=B) (List.range Q.length) .un (fun k b=>by have:=dL.mp b;omega);have c2:compS 3 [(1,8),(2,6)] [0] (iL rg1 [(oV (oL lenD [(oN 6)]))]) (gN 0) bTrue (oV (oOr (oIx (oN 2) (oN 0)) (oIx (oN 1) (oN 0)))) (lE x0 x1 x2 x3 x4 (sF (lsQ Q)) H (fzI (e:Nat)) (bS B) x9 x10)=.ok (bO (orB Q.length H B),lE x0 x1 x2 x3 x4 (sF (lsQ Q)) H (fzI (e:Nat)) (bS B) x9 x10):=by
  refine yU (qQn (xs:=[.int (Q.length:Nat)]) (xE j rfl) (zV0 (by omega)) rfl) ?_ t ?_
  ·rw[aZ,cV,decide_eq_true (aR (show Q.length<=1000 by omega) (by decide))];rfl
  ·unfold orB bO;rw[bL,bL,bL];rfl
 refine⟨orB Q.length H B,B,⟨r,fun k b=>(zVm.mp b).2.elim (h.so k) (c.so k)⟩,c,fun k b=>zVm.mpr ⟨by have:=jQb b;omega,.inr b⟩,fun k b=>zVm.mpr ⟨by have:=jQb b;omega,.inl b⟩,?_⟩;exact qJ s (qWn c2 rfl)
theorem un_loop(lo:∀(i:Nat) (l:List Int),Q[i]?=some l->∀q∈l,0<=q/\q<(i:Int))(d:∀a∈F,∀l,Q[a.toNat]?=some l->∀q∈l,q∈F)(few:Q.length<=62):∀(E:List Int) (H:List Bool) (s5 x7 x8:Slot),(∀e∈E,e∈F/\0<=e/\e<(Q.length:Nat))->Hd Q F H->Ln Q s5->∃H' b f g,Hd Q F H' /\Ln Q b /\(∀k,hB H k->hB H' k)/\(∀e∈E,∃B,Ci Q F e.toNat 0 B/\∀k,hB B k->hB H' k)/\forS (gN 7) vZd (E.map D.int) (lE x0 x1 x2 x3 x4 s5 H x7 x8 x9 x10)=.ok (.nx (lE x0 x1 x2 x3 x4 b H' f g x9 x10))
 |[],H,s5,x7,x8,_,hd,h5=>⟨H,s5,x7,x8,hd,h5,fun _ h=>h,fun e o=>(by cases o),rfl⟩
 | e::E,H,s5,x7,x8,hE,hd,h5=>by
   obtain⟨e1,A,C⟩:=hE e (by simp);have m:((e.toNat:Nat):Int)=e:=by omega
   obtain⟨p,B,r,c,s,u,t⟩:=turn (x0:=x0) (x1:=x1) (x2:=x2) (x3:=x3) (x4:=x4) (x9:=x9) (x10:=x10) lo d few hd (e:=e.toNat) (by omega) (by rw[m];exact e1) h5 x8;rw[m]at t;obtain⟨H',b,f,g,v,w,n,y,z⟩:=un_loop lo d few E p (sF (lsQ Q)) (fzI e) (bS B) (fun x hx=>hE x (aI _ hx)) r (.inr rfl);refine⟨H',b,f,g,v,w,fun k j=>n k (u k j),fun x hx=>?_,vX (e1:=lE x0 x1 x2 x3 x4 s5 H (fzI e) x8 x9 x10) rfl t z⟩;rcases aG.mp hx with rfl|hx
   ·exact⟨B,c,fun k j=>n k (s k j)⟩
   ·exact y x hx
theorem zWa(lo:∀(i:Nat) (l:List Int),Q[i]?=some l->∀q∈l,0<=q/\q<(i:Int))(wf:Wf Q E F)(j:Hd Q F H)(n:∀e∈E,∃B,Ci Q F e.toNat 0 B/\∀k,hB B k->hB H k):∀k:Nat,hB H k↔(k:Int)∈F:=fun k=>by
 refine⟨j.so k,fun a=>?_⟩;have d:∀(m k:Nat),Q.length<=k+m->(k:Int)∈F->∃e∈E,∃B,Ci Q F e.toNat 0 B/\(∀k,hB B k->hB H k)/\hB B k:=fun m=>by
  induction m with
  |zero=>exact fun k h a=>by have:=wf.lo k a;omega
  | succ m ih=>
    intro k h a;rcases wf.wh k a with z|⟨b,l,hb,f,g⟩
    ·obtain⟨B,c,s⟩:=n k z;exact⟨k,z,B,c,s,c.en⟩
    ·have r:=wf.lo b hb;have t:=lo b.toNat l f k g;obtain⟨e,o,B,c,s,p⟩:=ih b.toNat (by omega) (by rw[show((b.toNat:Nat):Int)=b by omega];exact hb);exact⟨e,o,B,c,s,c.cl b.toNat (cF _) p l f k g⟩
 obtain⟨e,_,B,_,s,h⟩:=d Q.length k (by omega) a;exact s k h
end
section
variable{α:Type}{p:Nat->Bool}
noncomputable def subI(p:Nat->Bool):Nat->List α->List α
 |_,[]=> []
 |n,x::r=>if p n then x::subI p (n+1) r else subI p (n+1) r
noncomputable def cnt(p:Nat->Bool):Nat->Nat
 | 0=>0
 |n+1=>cnt p n+if p n then 1 else 0
theorem qWx:∀(l:List α) (n:Nat) (x:α),subI p n (l ++ [x])=subI p n l ++ if p (n+l.length) then [x] else []
 |[],n,x=>by simp[subI]
 | y::r,n,x=>by
   show(if p n then y::subI p (n+1) (r ++ [x]) else subI p (n+1) (r ++ [x]))=_;rw[qWx r,show n+1+r.length=n+(y::r).length by simp;omega];by_cases h:p n <;> simp[h,subI]
theorem zZr(p:Nat->Bool):∀n,cnt p n<=n
 | 0=>aC _
 |n+1=>by have:=zZr p n;rw[cnt];split <;> omega
theorem vJz(n:Nat):∀m,cnt p n<=cnt p (n+m)
 | 0=>aC _
 |m+1=>by have:=vJz n m;rw[←Nat.add_assoc,cnt];omega
theorem vKd:∀(n k:Nat),k<cnt p n->∃b,b<n/\p b=true/\cnt p b=k
 | 0,k,h=>by cases h
 | n + 1,k,h=>by
   rw[cnt]at h;by_cases z:k<cnt p n
   ·obtain⟨b,d,a,c⟩:=vKd n k z;exact⟨b,by omega,a,c⟩
   ·by_cases q:p n=true
    ·rw[if_pos q]at h;exact⟨n,by omega,q,by omega⟩
    ·rw[if_neg q]at h;omega
theorem vJd:∀(l:List α) (n b:Nat) (x:α),p (n+b)=true->l[b]?=some x->(subI p n l)[cnt p (n+b) - cnt p n]?=some x
 |[],n,b,x,_,h=>by cases h
 | y::r,n,0,x,hp,h=>by
   cases h;rw[Nat.add_zero]at hp⊢;rw[subI,if_pos hp,Nat.sub_self];rfl
 | y::r,n,b + 1,x,hp,h=>by
   have a:=vJd r (n+1) b x (by rw[←hp];congr 1;omega) (by simpa using h);rw[show n+1+b=n+(b+1) by omega]at a;have m:=vJz (p:=p) (n+1) b;rw[show n+1+b=n+(b+1) by omega]at m;rw[subI];by_cases q:p n=true
   ·have c:cnt p (n + 1)=cnt p n + 1:=by rw [cnt,if_pos q]
    rw[if_pos q,show cnt p (n+(b+1)) - cnt p n=(cnt p (n+(b+1)) - cnt p (n+1))+1 by omega,List.getElem?_cons_succ];exact a
   ·have c:cnt p (n + 1)=cnt p n:=by rw [cnt,if_neg q];rfl
    rw[if_neg q,←c];exact a
theorem vX4{l:List α}{b:Nat}{x:α}(a:p b=true)(h:l[b]?=some x):(subI p 0 l)[cnt p b]?=some x:=by
 have:=vJd (p:=p) l 0 b x (by rw[bG];exact a) h;rwa [bG,show cnt p 0=0 from rfl,Nat.sub_zero]at this
theorem qZo:∀(l:List α) (n:Nat),(subI p n l).length+cnt p n=cnt p (n+l.length)
 |[],n=>by simp[subI]
 | y::r,n=>by
   have a:=qZo r (n+1);rw[show n+1+r.length=n+(y::r).length by simp;omega,cnt]at a;rw[subI];by_cases q:p n=true
   ·rw[if_pos q]at a⊢;rw[aU];omega
   ·rw[if_neg q]at a⊢;omega
theorem qKa:∀(l:List α) (n:Nat),subI p n l=((List.range l.length).filter fun k=>p (n+k)).filterMap fun k=>l[k]?
 |[],n=>rfl
 | y::r,n=>by
   rw[subI,qKa r (n+1),aU,List.range_succ_eq_map,List.filter_cons,List.filter_map,show(fun k=>p (n+k)) ∘ Nat.succ=fun k=>p (n+1+k) from funext fun k=>by show p (n+(k+1))=_;congr 1;omega];by_cases q:p n=true
   ·rw[if_pos q,if_pos (by rw[Nat.add_zero];exact q),cM,List.filterMap_map];rfl
   ·rw[if_neg q,if_neg (by rw[Nat.add_zero];exact q),List.filterMap_map];rfl
end
theorem zZf:∀(l m:List Int),l.Pairwise (· < ·)->m.Pairwise (· < ·)->(∀a,a∈l↔a∈m)->l=m
 |[],[],_,_,_=>rfl
 |[],b::m,_,_,h=>by have:=(h b).mpr (by simp);cases this
 |a::l,[],_,_,h=>by have:=(h a).mp (by simp);cases this
 | a::l,b::m,h1,h2,h=>by
   obtain⟨d,g⟩:=List.pairwise_cons.mp h1;obtain⟨f,i⟩:=List.pairwise_cons.mp h2;have e:a=b:=by
    rcases aG.mp ((h a).mp (by simp)) with z|z
    ·exact z
    ·rcases aG.mp ((h b).mpr (by simp)) with y | y
     ·exact y.symm
     ·have:=f a z;have:=d b y;omega
   subst e;rw[zZf l m g i fun x=>?_];constructor
   ·intro c;rcases aG.mp ((h x).mp (aI _ c)) with z|z
    ·have:=d x c;omega
    ·exact z
   ·intro c;rcases aG.mp ((h x).mpr (aI _ c)) with z|z
    ·have:=f x c;omega
    ·exact z
theorem zXk(p:Nat->Bool)(n:Nat):(((List.range n).filter p).map fun(k:Nat)=>(k:Int)).Pairwise (· < ·):=by
 rw[List.pairwise_map];exact(List.pairwise_lt_range.filter _).imp fun h=>Int.ofNat_lt.mpr h
section
variable{p:Nat->Bool}{st:List (Int×OT)}{Pl:List (Int×Int)}{P Q:List (List Int)}{E F:List Int}
noncomputable abbrev ren(p:Nat->Bool)(q:Int):Int:=((cnt p q.toNat:Nat):Int)
noncomputable abbrev subQ(p:Nat->Bool)(P:List (List Int)):List (List Int):=(subI p 0 P).map fun l=>l.map (ren p)
theorem Ls.sub(h:Ls st Pl P):(∀(a:Nat) (l:List Int),P[a]?=some l->p a=true->∀q∈l,p q.toNat=true)->∃c,Ls (subI p 0 st) c (subQ p P)/\∀s j,getA Pl s=some j->p j.toNat=true->getA c s=some (ren p j):=by
 induction h with
 |nil=>exact fun _=>⟨[],.nil,fun s j h=>(by cases h)⟩
 | @snoc st Pl P o i h ok hh sc hi ha ih=>
   intro f;obtain⟨c,g,m⟩:=ih fun a l k=>f a l (by rw[dC (aM.mp k).1];exact k)
   have r:=h.len;have pl:(subQ p P).length =cnt p P.length:=by
    have:=qZo (p:=p) P 0;rw[aZ];rw[bG]at this;exact this
   rw[qWx,bG,←r];unfold subQ;rw[qWx,bG];by_cases q:p P.length=true
   ·have e :∀s∈o.sl,getA c s=some (ren p ((getA Pl s).getD 0)):=fun s hs=>by
     obtain⟨j,b⟩:=ha s hs;rw[b,Option.getD_some];refine m s j b (f P.length _ (by rw[dN (aC _),Nat.sub_self];rfl) q j ?_);exact cJ.mpr ⟨s,hs,by rw[b];rfl⟩
    rw[if_pos q,if_pos q,bF];have n:=Ls.snoc (i:=i) g ok hh sc hi (fun s hs=>⟨_,e s hs⟩);rw[show o.sl.map (fun s=>(getA c s).getD 0)=(o.sl.map fun s=>(getA Pl s).getD 0).map (ren p) by rw[bL];exact List.map_congr_left fun s hs=>by rw[e s hs];rfl]at n;refine⟨_,n,fun s j b d=>?_⟩;split at b
    ·rw[if_pos (by assumption)];exact m s j b d
    ·rename_i z;rw[if_neg z,zY];rw[zY]at b;split at b
     ·rename_i y;cases b;rw[if_pos y,pl];show _=some (((cnt p ((P.length:Nat):Int).toNat :Nat):Int));rw[bN]
     ·rename_i y;rw[if_neg y];exact m s j b d
   ·rw [if_neg q,if_neg q,cY,cY];refine⟨c,g,fun s j b d=>?_⟩;split at b
    ·exact m s j b d
    ·rw [zY] at b;split at b
     ·cases b;rw[bN]at d;exact absurd d q
     ·exact m s j b d
theorem vVv:∀(st:List (Int×OT)) (n:Nat) (a:Int),a∈skI n st↔∃(j:Nat) (x:Int×OT),st[j]?=some x/\x.1= -1/\a=((n+j:Nat):Int)
 |[],n,a=>by simp[skI]
 | y::r,n,a=>by
   have e:=vVv r (n+1) a;have f:(∃(j:Nat) (x:Int×OT),r[j]?=some x/\x.1= -1/\a=((n+1+j:Nat):Int))↔∃(j:Nat) (x:Int×OT),(y::r)[j+1]?=some x/\x.1= -1/\a=((n+(j+1):Nat):Int):=by
    constructor <;> rintro⟨j,x,b,c,d⟩ <;> exact⟨j,x,by simpa using b,c,by omega⟩
   rw[skI];by_cases z:y.1= -1
   ·rw [if_pos z,aG,e,f];constructor
    ·rintro(h | ⟨j,x,h⟩)
     ·exact⟨0,y,rfl,z,h⟩
     ·exact⟨j+1,x,h⟩
    ·rintro⟨j,x,b,c,d⟩;cases j with
     |zero=>exact .inl d
     |succ j=>exact .inr ⟨j,x,b,c,d⟩
   ·rw [if_neg z,e,f];constructor
    ·rintro⟨j,x,h⟩;exact⟨j+1,x,h⟩
    ·rintro⟨j,x,b,c,d⟩;cases j with
     |zero=>cases b;exact absurd c z
     |succ j=>exact⟨j,x,b,c,d⟩
end
noncomputable abbrev pF(F:List Int):Nat->Bool:=fun k=>decide ((k:Int)∈F)
section
variable{st:List (Int×OT)}{Q:List (List Int)}{E F:List Int}
theorem Wt.sub(w:Wt st Q E)(wf:Wf Q E F):∃E',Wt (subI (pF F) 0 st) (subQ (pF F) Q) E' /\∀o,Wf (subQ (pF F) Q) E' o ->∀k,k<cnt (pF F) Q.length->(k:Int)∈o :=by
 have len:=w.len;have few:=w.few;have lo:=w.lo;have B:∀(a:Nat) (l:List Int),Q[a]?=some l->pF F a=true->∀q∈l,pF F q.toNat=true:=fun a l e ha q f=>by
  have J:=lo a l e q f;refine decide_eq_true ?_
  rw[show((q.toNat:Nat):Int)=q by omega];exact wf.cl (a:Int) (of_decide_eq_true ha) l e q f
 obtain⟨K,l⟩:=w.ls;obtain⟨r,C,_⟩:=Ls.sub l B;obtain⟨c,sl,u,g1,g2,v⟩:=w.ei;have L:st.length=c.length+1:=by rw[g1];simp
 have pl:pF F c.length=true:=decide_eq_true (wf.en _ (by rw[v];simp));have D:subI (pF F) 0 st=subI (pF F) 0 c ++ [(sl,u)]:=by rw[g1,qWx,bG,if_pos pl]
 have G:(subI (pF F) 0 c).length =cnt (pF F) c.length:=by have:=qZo (p:=pF F) c 0;rw[bG]at this;exact this
 have H:(subQ (pF F) Q).length =cnt (pF F) Q.length:=by have:=qZo (p:=pF F) Q 0;rw[bG]at this;rw[aZ];exact this
 refine⟨_,⟨⟨r,C⟩,by rw[H];exact aR (zZr _ _) few,_,sl,u,D,g2,rfl⟩,fun o g =>?_⟩;have s:∀(m b:Nat),Q.length<=b+m->(b:Int)∈F->((cnt (pF F) b:Nat):Int)∈o :=fun m=>by
  induction m with
  |zero=>exact fun b h hb=>by have:=wf.lo b hb;omega
  | succ m ih=>
    intro b h hb;rcases wf.wh b hb with z|⟨n,l,d,e,f⟩
    ·refine g.en _ ?_
     rw[v]at z;rcases cN.mp z with z|z
     ·obtain⟨j,x,y,t,M⟩:=(vVv c 0 _).mp z;have:b=j:=by omega
      subst this;exact List.mem_append_left _ ((vVv _ 0 _).mpr ⟨_,x,vX4 (decide_eq_true hb) y,t,by omega⟩)
     ·have:b=c.length:=by have:=bV.mp z;omega
      subst this;rw[←G];simp
    ·have N:=wf.lo n d;have y:=lo n.toNat l e b f;have A:((n.toNat:Nat):Int)=n:=by omega
     have i:=ih n.toNat (by omega) (by rw[A];exact d);refine g.cl _ i (l.map (ren (pF F))) ?_ _ (cJ.mpr ⟨b,f,rfl⟩);rw[bN,bM,vX4 (decide_eq_true (by rw[A];exact d)) e];rfl
 intro k I;obtain⟨b,_,t,rfl⟩:=vKd _ k I;exact s Q.length b (by omega) (of_decide_eq_true t)
theorem jZy(wf:Wf Q E F):F=((List.range Q.length).filter (pF F)).map fun(k:Nat)=>(k:Int):=zZf _ _ wf.inc (zXk _ _) fun a=>by
 constructor
 ·intro ha;have:=wf.lo a ha;have e:((a.toNat:Nat):Int)=a:=by omega
  exact cJ.mpr ⟨a.toNat,List.mem_filter.mpr ⟨dL.mpr (by omega),decide_eq_true (by rw[e];exact ha)⟩,e⟩
 ·intro ha;obtain⟨k,b,rfl⟩:=cJ.mp ha;exact of_decide_eq_true (List.mem_filter.mp b).2
noncomputable def sel(st:List (Int×OT))(F:List Int):List (Int×OT):=F.filterMap fun a=>st[a.toNat]?
theorem vWh(wf:Wf Q E F)(len:Q.length=st.length):sel st F=subI (pF F) 0 st:=by
 rw[qKa,←len];unfold sel;conv=>lhs;rw[jZy wf]
 rw[List.filterMap_map];simp only[bG];rfl
theorem vJe{α:Type}{p:Nat->Bool}:∀(l:List α) (n:Nat),(∀k,k<l.length->p (n+k)=true)->subI p n l=l
 |[],_,_=>rfl
 | x::l,n,h=>by
   rw[subI,if_pos (show p n=true from h 0 (by simp)),vJe l (n+1) fun k a=>by rw[show n+1+k=n+(k+1) by omega];exact h (k+1) (by simpa using a)]
theorem vXd(w:Wt st Q E)(wf:Wf Q E F):∃d E' b,Wt (sel st F) d E' /\Wf d E' b /\(∀(dd:Dw) (n:Int),yT [sF (oneD (sel st F) dd n)]=.ok (.ow .lst ((b.map D.int).map .fz),[.un]))/\sel (sel st F) b =sel st F:=by
 obtain⟨E',c,all⟩:=Wt.sub w wf;rw[←vWh wf w.len]at c;obtain⟨b,a,f⟩:=c.want;refine⟨_,E',b,c,a,f,?_⟩;rw[vWh a c.len];refine vJe _ 0 fun k e=>decide_eq_true ?_
 rw[bG];refine all b a k ?_
 have:=qZo (p:=pF F) Q 0;rw[←c.len,aZ]at e;rw[bG]at this;exact Nat.lt_of_lt_of_eq e this
end
section
variable{st:List (Int×OT)}{dd:Dw}{n:Int}{F:List Int}{H:List Bool}
theorem zKo{k:Nat}{x:Int×OT}(h:st[k]?=some x):(qK st)[k]?=some (.tup [.int x.1,x.2.d]):=by unfold qK;rw[bM,h];rfl
theorem pick_comp:∀(F:List Int) (z:Slot),(∀a∈F,0<=a/\a<(st.length:Nat))->∃b,jP (gN 0) bTrue (oV (oIx (oFld [1] "steps" (oN 1)) (oN 0))) (F.map D.int) [z,sF (oneD st dd n)]=.ok (qK (sel st F),[b,sF (oneD st dd n)])
 |[],z,_=>⟨z,rfl⟩
 | a::F,z,h=>by
   obtain⟨f,h1⟩:=h a (by simp);obtain⟨b,c⟩:=pick_comp F (fzI a) (fun x e=>h x (aI _ e));have g:st[a.toNat]?=some (st[a.toNat]'(by omega)):=aD (by omega);have v:oV (oIx (oFld [1] "steps" (oN 1)) (oN 0)) [fzI a,sF (oneD st dd n)]=.ok (.tup [.int (st[a.toNat]'(by omega)).1,(st[a.toNat]'(by omega)).2.d],[fzI a,sF (oneD st dd n)]):=by
    refine vT (zI (h1:=.d (.nd .lst (qK st))) (h2:=.d (.int a)) rfl rfl rfl rfl ?_ rfl) rfl;show(atI (qK st) a).map Hn.d=_;have:=qWt (zKo g);rw[show((a.toNat:Nat):Int)=a by omega]at this;rw[this];rfl
   refine⟨b,?_⟩;rw[aL,qQp (e1:=[fzI a,sF (oneD st dd n)]) rfl rfl v,c];unfold sel;rw[cM,g];rfl
theorem vYp(b:yT [sF (oneD st dd n)]=.ok (.ow .lst ((F.map D.int).map .fz),[.un]))(lo:∀a∈F,0<=a/\a<(st.length:Nat))(c:F.length<=1000)(f:dd.length<=1000):qZl [sF (oneD st dd n)]=.ok (oneO (sel st F) dd n,[.un]):=by
 obtain⟨k,g⟩:=pick_comp (dd:=dd) (n:=n) F .un lo;have h:fzS (qM yT [(.v (oV (oN 0)))]) [sF (oneD st dd n)]=.ok (lI F,[sF (oneD st dd n)]):=jK (vJ (vY (d:=oneD st dd n) rfl (vU rfl) rfl) (qN rfl rfl rfl b rfl rfl rfl)) (by rw[vZ];rfl);have i:fzS (compS 2 [(1,0)] [0] (iV (fzS (qM yT [(.v (oV (oN 0)))]))) (gN 0) bTrue (oV (oIx (oFld [1] "steps" (oN 1)) (oN 0)))) [sF (oneD st dd n)]=.ok (.nd .lst (qK (sel st F)),[sF (oneD st dd n)]):=by
  refine xC (yI h rfl rfl) ?_ g rfl;rw[aZ,decide_eq_true (aR c (by decide))];rfl
 have j:=vYr (sel st F) dd n f;exact vW (xR (vV3 (q:=(.fz .non,[])) (hs:=[.d (.nd .lst (qK (sel st F))),.d (drsD dd),.d (.int n)]) (e:=[sF (oneD st dd n)]) (vY i (vY (d:=drsD dd) rfl (vY (d:=.int n) rfl (vU rfl) rfl) rfl) rfl) (qN rfl rfl rfl j rfl rfl rfl) rfl rfl) rfl) rfl
theorem zZl(dd:Dw):Eqs 3 (drsD dd):=Eqs.ls fun d a=>by
 obtain⟨w,_,rfl⟩:=cJ.mp a;refine Eqs.ls fun x b=>?_
 obtain⟨q,_,rfl⟩:=cJ.mp b;exact Eqs.mk (n:=0) (al (.int _) (al (.int _) an))
theorem zWz(h:∀p∈st,p.2.h<=7):wI [sF (oneD st dd n),sF (.nd .lst (qK st)),sF (drsD dd),fzI n]=.ok (.fz (.bl true),[.un,.un,.un,.un]):=by
 have a:asB (o1 (isoD 1) (oN 0)) [sF (oneD st dd n),sF (.nd .lst (qK st)),sF (drsD dd),fzI n]=.ok (true,[sF (oneD st dd n),sF (.nd .lst (qK st)),sF (drsD dd),fzI n]):=rfl;have b:asB (o2 neQ (oFld [1] "steps" (oN 0)) (oN 1)) [sF (oneD st dd n),sF (.nd .lst (qK st)),sF (drsD dd),fzI n]=.ok (false,[sF (oneD st dd n),sF (.nd .lst (qK st)),sF (drsD dd),fzI n]):=j5 (vT (zQ (h1:=.d (.nd .lst (qK st))) (h2:=.d (.nd .lst (qK st))) rfl rfl rfl rfl rfl ((zZk h).ne (by decide)) rfl) rfl) rfl rfl;have c:asB (o2 neQ (oFld [1] "draws" (oN 0)) (oN 2)) [sF (oneD st dd n),sF (.nd .lst (qK st)),sF (drsD dd),fzI n]=.ok (false,[sF (oneD st dd n),sF (.nd .lst (qK st)),sF (drsD dd),fzI n]):=j5 (vT (zQ (h1:=.d (drsD dd)) (h2:=.d (drsD dd)) rfl rfl rfl rfl rfl ((zZl dd).ne (by decide)) rfl) rfl) rfl rfl;have r:oV (oAnd (o1 (isiD "int") (oFld [1] "slots" (oN 0))) (oAnd (oNot (o1 (isiD "bool") (oFld [1] "slots" (oN 0)))) (o2 eqF (oFld [1] "slots" (oN 0)) (oN 3)))) [sF (oneD st dd n),sF (.nd .lst (qK st)),sF (drsD dd),fzI n]=.ok (.bl (n == n),[sF (oneD st dd n),sF (.nd .lst (qK st)),sF (drsD dd),fzI n]):=rfl;rw[beq_self_eq_true]at r;exact vW (qG (vQq (not_of a rfl) (vQq b c)) (qI (xR (wL r rfl) rfl))) rfl
theorem due_comp:∀(ks:List Nat) (z:Slot),(∀k∈ks,k<H.length/\k<st.length)->∃a,jP (gN 0) (asB (oIx (oN 1) (oN 0))) (oV (oIx (oN 2) (oN 0))) (ks.map nD) [z,bS H,.s false (.ow .lst ((qK st).map .fz))]=.ok (qK ((ks.filter fun k=>H.getD k false).filterMap fun k=>st[k]?),[a,bS H,.s false (.ow .lst ((qK st).map .fz))])
 |[],z,_=>⟨z,rfl⟩
 | k::ks,z,h=>by
   obtain⟨h1,h2⟩:=h k (by simp);obtain⟨a,b⟩:=due_comp ks (fzI (k:Nat)) (fun x c=>h x (aI _ c));have t:=(ixS (env:=[fzI (k:Nat),bS H,.s false (.ow .lst ((qK st).map .fz))]) (i:=1) (j:=0) (vWn h1) rfl rfl rfl).1;have g:st[k]?=some st[k]:=aD h2;refine⟨a,?_⟩;rw[aL,List.filter_cons];cases q:H.getD k false with
   |false=>rw[q]at t;rw[qYm (e1:=[fzI (k:Nat),bS H,.s false (.ow .lst ((qK st).map .fz))]) rfl t,b];rfl
   | true=>
     rw[q]at t;have e:hnIx [fzI (k:Nat),bS H,.s false (.ow .lst ((qK st).map .fz))] (nD k) (.p 2 [])=some (.d (.tup [.int st[k].1,st[k].2.d])):=by
      show((ixN ((qK st).map O.fz).length (k:Nat)).bind fun j=>(((qK st).map O.fz)[j]?).bind fun o=>some (hnO o 2 ([] ++ [j])))=_;rw[qYg (by unfold qK;rw[aZ,aZ];exact h2),cW,bM,zKo g];rfl
     have v:oV (oIx (oN 2) (oN 0)) [fzI (k:Nat),bS H,.s false (.ow .lst ((qK st).map .fz))]=.ok (.tup [.int st[k].1,st[k].2.d],[fzI (k:Nat),bS H,.s false (.ow .lst ((qK st).map .fz))]):=vT (zI (h1:=.p 2 []) (h2:=.d (nD k)) rfl rfl rfl rfl e rfl) rfl;rw[qQp (e1:=[fzI (k:Nat),bS H,.s false (.ow .lst ((qK st).map .fz))]) rfl t v,b,if_pos rfl,cM,g];rfl
end
theorem jWj(ns:List Int):cutL (ns.map D.int) none (some 37)=(ns.take 37).map D.int:=by
 unfold cutL;rw[show HT.sIx (ns.map D.int).length 0 none=0 from rfl,List.drop_zero,Nat.sub_zero,show HT.sIx (ns.map D.int).length (ns.map D.int).length (some 37)=min 37 (ns.map D.int).length from HT.zXb _ _ 37,List.map_take];grind
noncomputable abbrev oS(st:List (Int×OT)):Slot:=.s false (.ow .lst ((qK st).map .fz))
noncomputable abbrev oD(dd:Dw):Slot:=.s false (.ow .lst ((dd.map drD).map .fz))
noncomputable abbrev oneM(st:List (Int×OT))(dd:Dw)(n:Int):Slot:=.s false (.ow (.obj 1 ["steps","draws","slots"]) [.ow .lst ((qK st).map .fz),.fz (drsD dd),.fz (.int n)])
theorem vQy(st:List (Int×OT)):(fzOs ((qK st).map .fz)).length =st.length:=by unfold qK;rw[qY4,aZ,aZ]
section
variable{X:Slot}{st:List (Int×OT)}{dd:Dw}{n:Int}{pr:D}{x3 x4 x5 x6 x7 x8 x9 x10:Slot}
theorem zWk(c:dd.length<=1000):compS 1 [] [0] (iV (oV (oFld [1] "draws" (oN 2)))) (gN 0) bTrue (fzS (eF listD [(oN 0)])) [X,sF pr,.s false (oneO st dd n),x3,x4,x5,x6,x7,x8,x9,x10]=.ok (.ow .lst ((dd.map drD).map .fz),[X,sF pr,oneM st dd n,x3,x4,x5,x6,x7,x8,x9,x10]):=by
 obtain⟨i,a,b⟩:=compL_map (g:=gN 0) (el:=fzS (eF listD [oN 0])) (fun e=>∃u,e=[u]) (fun d=>d) (ds:=dd.map drD) (env:=[.un]) (fun d e f h=>by
  obtain⟨u,rfl⟩:=h;obtain⟨w,_,rfl⟩:=cJ.mp f;exact⟨[sF (drD w)],[sF (drD w)],rfl,vV6 (hs:=[.d (drD w)]) (e:=[sF (drD w)]) rfl (xs:=[drD w]) rfl (ds:=w.map prI) rfl rfl,_,rfl⟩) ⟨_,rfl⟩
 obtain⟨u,rfl⟩:=b;rw[List.map_id']at a;have fr:oV (oFld [1] "draws" (oN 2)) [X,sF pr,.s false (oneO st dd n),x3,x4,x5,x6,x7,x8,x9,x10]=.ok (drsD dd,[X,sF pr,oneM st dd n,x3,x4,x5,x6,x7,x8,x9,x10]):=by
  show _=Res.ok (D.nd .lst (dd.map drD),[X,sF pr,.s false (.ow (.obj 1 ["steps","draws","slots"]) [.ow .lst ((qK st).map .fz),.fz (.nd .lst (dd.map drD)),.fz (.int n)]),x3,x4,x5,x6,x7,x8,x9,x10]);rw[←vZ (k:=.lst) (dd.map drD)];rfl
 refine yU (yI fr rfl rfl) ?_ a rfl;rw[aZ,decide_eq_true (aR c (show 1000<=1000000 by decide))];rfl
theorem zYh:oV (oN 2) [X,sF pr,oneM st dd n,x3,x4,x5,x6,x7,x8,x9,x10]=.ok (oneD st dd n,[X,sF pr,sF (oneD st dd n),x3,x4,x5,x6,x7,x8,x9,x10]):=by
 unfold sF;rw[show oneD st dd n=fzO (.ow (.obj 1 ["steps","draws","slots"]) [.ow .lst ((qK st).map .fz),.fz (drsD dd),.fz (.int n)]) by show _=D.nd _ [fzO (.ow .lst ((qK st).map .fz)),_,_];rw[vZ];rfl];rfl
end
theorem zJx(ns:List Int)(h:ns.length<=63):∃e,zVo [.s false (.fz (.nd .lst (ns.map .int)))]=.ok (.fz (.bl true),e):=by
 have ct:=jWj ns;obtain⟨b,O,Q,E,lr,ep,w⟩:=whole (ns.take 37) (by rw[List.length_take];omega);obtain⟨F,wf,hF⟩:=w.toWt.want;obtain⟨Q',E',F',A,t,B,se⟩:=vXd w.toWt wf;have few:=w.few;have len:=w.len;have ld:=w.dr;have op:=w.op;have M:∀{Q:List (List Int)} {E F:List Int},Wf Q E F->Q.length<=62->F.length<=1000:=fun {Q E F} wf few=>by
  have nd:F.Nodup:=wf.inc.imp fun h=>Int.ne_of_lt h
  have:=vZ3 (m:=(List.range Q.length).map fun(i:Nat)=>(i:Int)) nd fun a ha=>by
   obtain⟨h0,h1⟩:=wf.lo a ha;exact cJ.mpr ⟨a.toNat,dL.mpr (by omega),by omega⟩
  rw[aZ,cV]at this;omega
 have f1:=vYp (hF O.s.dr O.s.sl) (fun a ha=>by have:=wf.lo a ha;omega) (M wf few) (by omega);have N:=vYp (B O.s.dr O.s.sl) (fun a ha=>by have:=t.lo a ha;have:=A.len;omega) (M t A.few) (by omega);rw[se]at N;have P:=zWz (st:=sel O.st F) (dd:=O.s.dr) (n:=O.s.sl) fun p C=>(A.st p C).2.1
 generalize R:sF (D.nd .lst (ns.map .int))=X;have sl:fzS (eSlL (oN 0) none (some (oV (oC (.int 37))))) [X,.un,.un,.un,.un,.un,.un,.un,.un,.un,.un]=.ok (lI (ns.take 37),[X,.un,.un,.un,.un,.un,.un,.un,.un,.un,.un]):=by
  subst R;refine jK (o:=.ow .lst ((cutL (ns.map D.int) none (some 37)).map .fz)) rfl ?_
  rw[vZ,ct]
 have c1:qM wZ [(.v (fzS (eSlL (oN 0) none (some (oV (oC (.int 37))))))),(.v (oV (oC (.int 50))))] [X,.un,.un,.un,.un,.un,.un,.un,.un,.un,.un]=.ok (.ow .lst ((b.map Rw.d).map .fz),[X,.un,.un,.un,.un,.un,.un,.un,.un,.un,.un]):=vJ (vY sl (vY (d:=.int 50) rfl (vU rfl) rfl) rfl) (qN rfl rfl rfl ep rfl rfl rfl);have G:oV (oN 1) [X,.s false (.ow .lst ((b.map Rw.d).map .fz)),.un,.un,.un,.un,.un,.un,.un,.un,.un]=.ok (pD b,[X,sF (pD b),.un,.un,.un,.un,.un,.un,.un,.un,.un]):=by
  show _=Res.ok (D.nd .lst (b.map Rw.d),[X,.s false (.fz (.nd .lst (b.map Rw.d))),.un,.un,.un,.un,.un,.un,.un,.un,.un]);rw[←vZ (k:=.lst) (b.map Rw.d)];rfl
 have c2:=vJ (F:=qZx) (vY G (vU rfl) rfl) (qN rfl rfl rfl op rfl rfl rfl);have c3:eF listD [(oFld [1] "steps" (oN 2))] [X,sF (pD b),.s false (oneO O.st O.s.dr O.s.sl),.un,.un,.un,.un,.un,.un,.un,.un]=.ok (.ow .lst ((qK O.st).map .fz),[X,sF (pD b),.s false (oneO O.st O.s.dr O.s.sl),.un,.un,.un,.un,.un,.un,.un,.un]):=by
  refine vQv (hs:=[.p 2 [0]]) (xs:=[fzO (.ow .lst ((qK O.st).map .fz))]) (e1:=[X,sF (pD b),.s false (.ow (.obj 1 ["steps","draws","slots"]) [vZ5 (.ow .lst ((qK O.st).map .fz)),.ow .lst ((O.s.dr.map drD).map .fz),.fz (.int O.s.sl)]),.un,.un,.un,.un,.un,.un,.un,.un]) rfl rfl (by rw[vZ];rfl) ?_
  rw[zJ0];rfl
 have c4:=zWk (X:=X) (st:=O.st) (dd:=O.s.dr) (n:=O.s.sl) (pr:=pD b) (x3:=oS O.st) (x4:=.un) (x5:=.un) (x6:=.un) (x7:=.un) (x8:=.un) (x9:=.un) (x10:=.un) (by omega);have c5:qM qQr [(.v (oV (oN 1)))] [X,sF (pD b),oneM O.st O.s.dr O.s.sl,oS O.st,oD O.s.dr,.un,.un,.un,.un,.un,.un]=.ok (lsO Q,[X,sF (pD b),oneM O.st O.s.dr O.s.sl,oS O.st,oD O.s.dr,.un,.un,.un,.un,.un,.un]):=vJ (vY (d:=pD b) rfl (vU rfl) rfl) (qN rfl rfl rfl w.ll rfl rfl rfl);have c6:vQu (.v (fzS (eLst [(oV (oC (.bl false)))]))) (oL lenD [(oN 5)]) [X,sF (pD b),oneM O.st O.s.dr O.s.sl,oS O.st,oD O.s.dr,.s false (lsO Q),.un,.un,.un,.un,.un]=.ok (bO (List.replicate Q.length false),[X,sF (pD b),oneM O.st O.s.dr O.s.sl,oS O.st,oD O.s.dr,.s false (lsO Q),.un,.un,.un,.un,.un]):=zV7 (by omega) fun {x y Y} z=>by
  have:evO (oL lenD [(oN 5)]) [X,sF (pD b),oneM O.st O.s.dr O.s.sl,oS O.st,oD O.s.dr,.s false (lsO Q),.un,.un,.un,.un,.un]=.ok (.d (.int ((fzOs (Q.map fun l=>DX.O.ow .lst (((srt l).map D.int).map .fz))).length :Nat)),[X,sF (pD b),oneM O.st O.s.dr O.s.sl,oS O.st,oD O.s.dr,.s false (lsO Q),.un,.un,.un,.un,.un]):=by kernel_rfl
  rw[qY4,aZ]at this;rw[z];exact this
 have en:fzS (qM qVu [(.v (oV (oN 1)))]) (lE X (sF (pD b)) (oneM O.st O.s.dr O.s.sl) (oS O.st) (oD O.s.dr) (.s false (lsO Q)) (List.replicate Q.length false) .un .un .un .un)=.ok (lI E,lE X (sF (pD b)) (oneM O.st O.s.dr O.s.sl) (oS O.st) (oD O.s.dr) (.s false (lsO Q)) (List.replicate Q.length false) .un .un .un .un):=jK (vJ (vY (d:=pD b) rfl (vU rfl) rfl) (qN rfl rfl rfl w.en rfl rfl rfl)) (by rw[vZ];rfl);obtain⟨H,c,f,g,T,h5,_,hc,lp⟩:=un_loop (x0:=X) (x1:=sF (pD b)) (x2:=oneM O.st O.s.dr O.s.sl) (x3:=oS O.st) (x4:=oD O.s.dr) (x9:=.un) (x10:=.un) w.lo wf.cl few E (List.replicate Q.length false) (.s false (lsO Q)) .un .un (fun e U=>⟨wf.en e U,wf.lo e (wf.en e U)⟩) ⟨by rw[eC],fun k r=>by unfold hB at r;rw[List.getElem?_replicate]at r;split at r <;> cases r⟩ (.inl rfl);have V:=zWa w.lo wf T hc;have hl:=T.len;have I:((List.range O.st.length).filter fun k=>H.getD k false).filterMap (fun k=>O.st[k]?)=sel O.st F:=by
  rw[vWh wf len,qKa];congr 2;funext k;rw[bG];cases q:H.getD k false with
  |true=>exact(decide_eq_true ((V k).mp (qYj.mp q))).symm
  |false=>exact(decide_eq_false fun z=>by have:=qYj.mpr ((V k).mpr z);rw[q]at this;cases this).symm
 generalize sel O.st F=S at *;have W:asB (o2 neF (oL lenD [(oN 3)]) (oL lenD [(oN 6)])) (lE X (sF (pD b)) (oneM O.st O.s.dr O.s.sl) (oS O.st) (oD O.s.dr) c H f g .un .un)=.ok (!(((fzOs ((qK O.st).map .fz)).length :Int) == ((fzOs ((H.map D.bl).map .fz)).length :Nat)),lE X (sF (pD b)) (oneM O.st O.s.dr O.s.sl) (oS O.st) (oD O.s.dr) c H f g .un .un):=by kernel_rfl
 rw[vQy,jQf,hl,len,beq_self_eq_true,Bool.not_true]at W;have Z:oV (oL lenD [(oN 3)]) (lE X (sF (pD b)) (oneM O.st O.s.dr O.s.sl) (oS O.st) (oD O.s.dr) c H f g .un .un)=.ok (.int ((fzOs ((qK O.st).map .fz)).length :Nat),lE X (sF (pD b)) (oneM O.st O.s.dr O.s.sl) (oS O.st) (oD O.s.dr) c H f g .un .un):=by kernel_rfl
 rw[vQy]at Z;obtain⟨z',dc⟩:=due_comp (st:=O.st) (H:=H) (List.range O.st.length) .un (fun k r=>by have:=dL.mp r;omega);rw[I]at dc;have c9:compS 3 [(1,6),(2,3)] [0] (iL rg1 [(oV (oL lenD [(oN 3)]))]) (gN 0) (asB (oIx (oN 1) (oN 0))) (oV (oIx (oN 2) (oN 0))) (lE X (sF (pD b)) (oneM O.st O.s.dr O.s.sl) (oS O.st) (oD O.s.dr) c H f g .un .un)=.ok (.ow .lst ((qK S).map .fz),lE X (sF (pD b)) (oneM O.st O.s.dr O.s.sl) (oS O.st) (oD O.s.dr) c H f g .un .un):=by
  refine yU (qQn (xs:=[.int (O.st.length:Nat)]) (xE Z rfl) (zV0 (by omega)) rfl) ?_ dc rfl;rw[aZ,cV,decide_eq_true (aR (show O.st.length<=1000 by omega) (by decide))];rfl
 have J:=fun {s9:Slot}=>vJ (F:=qZl) (vY (zYh (X:=X) (st:=O.st) (dd:=O.s.dr) (n:=O.s.sl) (pr:=pD b) (x3:=oS O.st) (x4:=oD O.s.dr) (x5:=c) (x6:=bS H) (x7:=f) (x8:=g) (x9:=s9) (x10:=.un)) (vU rfl) rfl) (qN rfl rfl rfl f1 rfl rfl rfl)
 have u:oV (oN 10) (lE X (sF (pD b)) (sF (oneD O.st O.s.dr O.s.sl)) (oS O.st) (oD O.s.dr) c H f g (oS S) (.s false (oneO S O.s.dr O.s.sl)))=.ok (oneD S O.s.dr O.s.sl,lE X (sF (pD b)) (sF (oneD O.st O.s.dr O.s.sl)) (oS O.st) (oD O.s.dr) c H f g (oS S) (sF (oneD S O.s.dr O.s.sl))):=by
  unfold sF;rw[←vYm S];rfl
 have K:oV (oN 9) (lE X (sF (pD b)) (sF (oneD O.st O.s.dr O.s.sl)) (oS O.st) (oD O.s.dr) c H f g (oS S) (sF (oneD S O.s.dr O.s.sl)))=.ok (.nd .lst (qK S),lE X (sF (pD b)) (sF (oneD O.st O.s.dr O.s.sl)) (oS O.st) (oD O.s.dr) c H f g (sF (.nd .lst (qK S))) (sF (oneD S O.s.dr O.s.sl))):=by
  unfold sF;rw[←vZ (k:=.lst) (qK S)];rfl
 have L:oV (oN 4) (lE X (sF (pD b)) (sF (oneD O.st O.s.dr O.s.sl)) (oS O.st) (oD O.s.dr) c H f g (sF (.nd .lst (qK S))) (sF (oneD S O.s.dr O.s.sl)))=.ok (drsD O.s.dr,lE X (sF (pD b)) (sF (oneD O.st O.s.dr O.s.sl)) (oS O.st) (sF (drsD O.s.dr)) c H f g (sF (.nd .lst (qK S))) (sF (oneD S O.s.dr O.s.sl))):=by
  show _=Res.ok (D.nd .lst (O.s.dr.map drD),lE X (sF (pD b)) (sF (oneD O.st O.s.dr O.s.sl)) (oS O.st) (.s false (.fz (.nd .lst (O.s.dr.map drD)))) c H f g (sF (.nd .lst (qK S))) (sF (oneD S O.s.dr O.s.sl)));rw[←vZ (k:=.lst) (O.s.dr.map drD)];rfl
 generalize j:lE X (sF (pD b)) (sF (oneD O.st O.s.dr O.s.sl)) (oS O.st) (sF (drsD O.s.dr)) c H f g (sF (.nd .lst (qK S))) (sF (oneD S O.s.dr O.s.sl))=e1 at *;have a1:qM wI [(.v (oV (oN 10))),(.v (oV (oN 9))),(.v (oV (oN 4))),(.v (oV (oFld [1] "slots" (oN 2))))] (lE X (sF (pD b)) (sF (oneD O.st O.s.dr O.s.sl)) (oS O.st) (oD O.s.dr) c H f g (oS S) (.s false (oneO S O.s.dr O.s.sl)))=.ok (.fz (.bl true),e1):=by
  refine vJ (vY u (vY K (vY L (vY (d:=.int O.s.sl) (e:=e1) (by subst j;rfl) (vU rfl) rfl) rfl) rfl) rfl) (qN rfl rfl rfl P rfl rfl (by subst j;rfl))
 have g0:qM qZl [(.v (oV (oN 10)))] e1=.ok (oneO S O.s.dr O.s.sl,e1):=vJ (vY (d:=oneD S O.s.dr O.s.sl) (e:=e1) (by subst j;rfl) (vU rfl) rfl) (qN rfl rfl rfl N rfl rfl (by subst j;rfl));have g1:fzS (qM qZl [(.v (oV (oN 10)))]) e1=.ok (oneD S O.s.dr O.s.sl,e1):=jK g0 (by rw[vYm]);have a2:qM wI [(.v (fzS (qM qZl [(.v (oV (oN 10)))]))),(.v (oV (oN 9))),(.v (oV (oN 4))),(.v (oV (oFld [1] "slots" (oN 2))))] e1=.ok (.fz (.bl true),e1):=vJ (vY g1 (vY (d:=.nd .lst (qK S)) (e:=e1) (by subst j;rfl) (vY (d:=drsD O.s.dr) (e:=e1) (by subst j;rfl) (vY (d:=.int O.s.sl) (e:=e1) (by subst j;rfl) (vU rfl) rfl) rfl) rfl) rfl) (qN rfl rfl rfl P rfl rfl (by subst j;rfl));have t1:=not_of (j5 (vT (zS (jK a1 rfl) rfl) rfl) rfl rfl) rfl;have t2:=not_of (j5 (vT (zS (jK a2 rfl) rfl) rfl) rfl rfl) rfl;have q1:asB (o2 eqQ (oFld [1] "steps" (oN 2)) (oN 3)) e1=.ok (true,e1):=j5 (vT (zQ (e1:=e1) (h1:=.d (.nd .lst (qK O.st))) (h2:=.p 3 []) (y:=fzO (.ow .lst ((qK O.st).map .fz))) (by subst j;rfl) (by subst j;rfl) rfl rfl (by subst j;rfl) (by rw[vZ];exact(zZk fun p C=>(w.st p C).2.1).eq (by decide)) rfl) rfl) rfl rfl;have q2:oV (o2 eqQ (oFld [1] "draws" (oN 2)) (oN 4)) e1=.ok (.bl true,e1):=vT (zQ (e1:=e1) (h1:=.d (drsD O.s.dr)) (h2:=.d (drsD O.s.dr)) (by subst j;rfl) (by subst j;rfl) rfl rfl rfl ((zZl O.s.dr).eq (by decide)) rfl) rfl;refine⟨outs 1 e1,?_⟩;show zVo [sF (D.nd .lst (ns.map .int))]=_;rw[R];exact vW (qJ c1 (qJ c2 (qJ c3 (qJ c4 (qJ c5 (qJ c6 (jQ (zF (yI en rfl rfl) lp) (qG W (v6 rfl (qI (qJ c9 (qJ J (qG (vQq t1 (v6 rfl t2)) (v6 rfl (qI (xR (wL (vT (zS (xE q1 q2) rfl) rfl) rfl) rfl)))))))))))))))) rfl
end X52
namespace DX
open PySem L2
variable{i:Nat}{o':Oe}
section
variable{X:Cx}{c:Nat->aX}{E:XK}{e o:Expr}{es:List Expr}{as:List Am}{a0:Am}{x m q y:Str}{C j n:Nat}{st:Stmt}{f:aX}{fd:bJ}{ps:List Str}{k k0:Nat}{F:Fn}{p pos apos np cpos:Pos}{s:SV}{tb:List (Nat×Fn)}
theorem cA(A:FnAt X.K X.mg x st ps f fd)(G:FnOk X.prog X.w X.K X.mg X.base (CXd X.prog X.w) k f fd ps (spD X.K c as.length F))(g:Room k0 X.A)(ha:OsD X c E (e::es) (as.map Am.o))(h:zN (CXd X.prog X.w) X E:=by exact v7)(hk:k<=k0:=by first|decide|omega)(i:Gl X x:=by exact rfl)(a:(x == ("__debug__":Str))=false:=by decide)(j:aK (e::es) X.env=(false,eval e X.env)::aK es X.env:=by rfl)(d:(cK pos (aK es X.env)).any (·.1)=false:=by rfl):ED X c E (.Call (.Name x p) (e::es) [] pos) (qM F as):=
 qVn G (g.mono hk) i A.m A.F.kp A.b h ha a j d
theorem mA{pl:Sem Bool}(g:OD X c E o a0.o)(h:Cls X.K (c C))(i:Meth X.K (c C) m f)(A:MethAt X.K m q st ps f fd)(G:FnOk X.prog X.w X.K X.mg X.base (CXd X.prog X.w) k f fd ps (spD X.K c (a0::as).length F))(j:Room k0 X.A)(ha:OsD X c E (e::es) (as.map Am.o))(l:zN (CXd X.prog X.w) X E:=by exact v7)(hk:k<=k0:=by first|decide|omega)(a:aK (e::es) X.env=(false,eval e X.env)::aK es X.env:=by rfl)(d:(cK pos (aK es X.env)).any (·.1)=false:=by rfl)(n:eval (.Call (.Attribute o m apos) (e::es) [] pos) X.env=(do
   let ov ←eval o X.env;standAt apos.atName;let (f,first) ←holding [ov] (getMethod ov m pl);callWith pos f first (cK pos (aK (e::es) X.env)) (backToKw pos (keywordEach [] X.env))):=by rfl):
  ED X c E (.Call (.Attribute o m apos) (e::es) [] pos) (j8 C m F a0 as):=vY4 g h i G (j.mono hk) A.b l ha a d n
theorem m0A{pl:Sem Bool}(a:OD X c E o a0.o)(d:Cls X.K (c C))(e:Meth X.K (c C) m f)(A:MethAt X.K m q st ps f fd)(G:FnOk X.prog X.w X.K X.mg X.base (CXd X.prog X.w) k f fd ps (spD X.K c 1 F))(g:Room k0 X.A)(h:zN (CXd X.prog X.w) X E:=by exact v7)(hk:k<=k0:=by first|decide|omega)(i:eval (.Call (.Attribute o m apos) [] [] pos) X.env=(do
   let ov ←eval o X.env;standAt apos.atName;let (f,first) ←holding [ov] (getMethod ov m pl);callWith pos f first (cK pos (aK [] X.env)) (backToKw pos (keywordEach [] X.env))):=by rfl):
  ED X c E (.Call (.Attribute o m apos) [] [] pos) (j8 C m F a0 []):=zWg a d e G (g.mono hk) A.b h i
theorem scA{N P:List Str}{sc:Scope}(a:sc.kind=.function :=by rfl)(b:sc.isCoroutine=false:=by rfl)(g:sc.isGenerator=false:=by rfl)(nd:N.Nodup:=by decide +kernel)(c:List.take P.length N=P:=by rfl)(d:∀x∈P,List.lookup x sc.names=some .local \/List.lookup x sc.names=some .cell :=by decide +kernel)(e:∀y∈sc.names,y.2≠ .free :=by decide +kernel):FnScope N P sc:=⟨a,b,g,nd,c,d,e⟩
theorem sA{s:SE}{a :Pos}(b:X.N.Nodup)(d:ED X c E e s)(f:X.N[i]?=some x:=by rfl)(g:Loc X.env.scope x:=by exact Or.inl rfl)(hs:swapsWith e (some (.Name x a)) pos.line X.env=pure false:=by rfl)(h:X.fn x=true\/X.env.scope.names.lookup x=some .local :=by first|exact .inl rfl|exact .inr rfl|assumption):
  SD X c E (.Assign [.Name x a] e pos) (sSet i s):=qVg b f g d hs h
theorem vA{a:List SV}(ha:OD X c E e o')(b:VsD X c E es a)(hs:aK (e::es) X.env=(false,eval e X.env)::aK es X.env:=by rfl):VsD X c E (e::es) (oV o' ::a):=vP ha.val b hs
theorem oA{os:List Oe}(ha:OD X c E e o')(a:OsD X c E es os)(hs:aK (e::es) X.env=(false,eval e X.env)::aK es X.env:=by rfl):OsD X c E (e::es) (.v (oV o')::os):=vO (od_v ha.val) a hs
end
section
variable{X:Cx}{c:Nat->aX}{E:XK}{x:Str}{b:Expr}{ob:Oe}{k:Nat}{pos p2:Pos}
theorem nA(i:Nat)(a:X.N[i]?=some x:=by rfl)(b:Vis X.env.scope x:=by first|exact Or.inl rfl|exact Or.inr (Or.inl rfl)|exact Or.inr (Or.inr rfl))(d:(x == ("__debug__":Str))=false:=by decide)(e:(x == ("__classdict__":Str))=false:=by decide):OD X c E (.Name x pos) (oN i):=zYk (pv i a b d e)
theorem gA(a:X.N.Nodup:=by exact of_decide_eq_true (by kernel_rfl))(b:X.N[i]?=some x:=by rfl)(d:Loc X.env.scope x:=by exact Or.inl rfl)(e:X.fn x=true\/X.env.scope.names.lookup x=some .local :=by first|exact .inl rfl|exact .inr rfl|assumption):GD X c (.Name x pos) [i] (gN i):=zY4 a b d e
theorem xA(i:Nat)(a:Room k X.A)(hb:OD X c E b ob)(d:X.N[i]?=some x:=by rfl)(e:Vis X.env.scope x:=by first|exact Or.inl rfl|exact Or.inr (Or.inl rfl)|exact Or.inr (Or.inr rfl))(f:(x == ("__debug__":Str))=false:=by decide)(g:(x == ("__classdict__":Str))=false:=by decide)(hs:qYo b:=by exact fun _ _=>rfl):OD X c E (.Subscript (.Name x pos) b p2) (oIx (oN i) ob):=o_ix a (nA i d e f g) hb hs
end
theorem faM{K:aQ}{m:Str->Option Value}{h:Heap}{x:Str}{st:Stmt}{ps:List Str}{f:aX}{n:Value}{o an:Option aX}{j:Array (Option Value)}{kV e g d i:Value}(X:K.In h)(G:h.Ns cH m)(a:PySem.W.nsIn K cH x=some (some (.ref f)))(l:K.lookup f=some ⟨n,o,.func (cG x x (jB st) (zL st) (qP st) .none kV e g an d i),j⟩)(c:PySem.W.codeIn K d x=true)(k:cT K (.ref f)=true)(b:∀(kV e g:Value) (an:Option aX) (d i:Value) (us:List Value),us.length=ps.length->bindArgs (cG x x (jB st) (zL st) (qP st) .none kV e g an d i) ⟨us,[]⟩=pure (ps.zip us):=by first|exact(fun _ _ _ _ _ _ us hl=>match us,hl with|[_],_=>rfl)|exact(fun _ _ _ _ _ _ us hl=>match us,hl with|[_,_],_=>rfl)|exact(fun _ _ _ _ _ _ us hl=>match us,hl with|[_,_,_],_=>rfl)|exact(fun _ _ _ _ _ _ us hl=>match us,hl with|[_,_,_,_],_=>rfl)):
  FnAt K m x st ps f (cG x x (jB st) (zL st) (qP st) .none kV e g an d i):=vYz X G a l c k b
end DX
namespace L2
open PySem PySem.Spec PyProof.Rows
variable{prog:aA}{w:bW}{A:cQ}{E Q:Value->aY->Prop}{t':Bool}{elts:List Expr}{kk:Nat}{pos:Pos}
noncomputable def SqB:Bool->aQ->Hp->aX->List V->Prop
 |true,K,H,a,xs=>SqT K H a xs
 |false,K,H,a,xs=>SqL K H a xs
noncomputable def IsB:Bool->Heap->aX->Array Value->Prop
 |true,h,a,xs=>h.IsTuple a xs
 |false,h,a,xs=>h.IsList a xs
noncomputable def ItB:Bool->Heap->aX->aX->Nat->Prop
 |true,h,i,l,k=>h.IsTupleIter i l k
 |false,h,i,l,k=>h.IsListIter i l k
noncomputable def itO:Bool->aX->Obj
 |true,l=> {cls:=.type "tuple_iterator",data:=.fields #[.ref l,.int 0 0]}
 |false,l=> {cls:=.type "list_iterator",data:=.fields #[.ref l,.int 0 0]}
section
variable{t t' :Bool}{h g:Heap}{a b i l m:aX}{k:Nat}{xs ys:Array Value}
theorem vXu(t:Bool)(a:l≠i)(xs:Array Value):Feed i l (fun k h=>ItB t h i l k/\IsB t h l xs) (fun k=>xs[k]?):=by
 cases t
 ·exact vQ9 a xs
 ·exact vXh a xs
theorem IsB.lt(p:IsB t h a xs):a<h.objs.size:=by
 cases t <;> (obtain⟨_,e,_⟩:=p;exact aE e)
theorem IsB.push{o:Obj}(p:IsB t h a xs):IsB t (h.push o) a xs:=by
 cases t
 ·exact Heap.IsList.push p _
 ·exact Heap.IsTuple.push p _
theorem ItB.new(e:h.get? i=some (itO t l)):ItB t h i l 0:=by
 cases t <;> exact⟨_,e,rfl,rfl⟩
theorem ItB.obj(p:ItB t h i l k):∃o,h.get? i=some o/\∀v,o.data≠ .cell v:=by
 cases t <;> (obtain⟨o,e,_,d⟩:=p;exact⟨o,e,fun v z=>by rw[d]at z;cases z⟩)
theorem ItB.to(p:ItB t h i l k)(q:∀o,h.get? i=some o->g.get? i=some o):ItB t g i l k:=by
 cases t <;> (obtain⟨o,e,d⟩:=p;exact⟨o,q o e,d⟩)
theorem vJs:(itO t l).isFreed =false:=by cases t <;> rfl
theorem zK6{s:aY}(p:IsB t s.heap l xs)(a:Q (.ref s.heap.objs.size) {s with heap:=s.heap.push (itO t l)}):aH (model prog w) A (pyIter (.ref l)) Q E s:=by
 cases t
 ·exact wpAny_pyIter_list p a
 ·exact wpAny_pyIter_tuple p a
noncomputable abbrev bB(t t' :Bool)(h:Heap)(l m:aX):Heap:=(h.push (itO t l)).push (itO t' m)
noncomputable abbrev bC(t t' :Bool)(h:Heap)(l m:aX):Heap:=(bB t t' h l m).push {cls:=.type "tuple",data:=.seq #[.ref h.objs.size,.ref (h.push (itO t l)).objs.size]}
noncomputable abbrev bD(t t' :Bool)(h:Heap)(l m:aX):Heap:=(bC t t' h l m).push {cls:=.type "tuple",data:=.seq #[.none,.none]}
noncomputable abbrev bE(t t' :Bool)(h:Heap)(l m:aX):Heap:=(bD t t' h l m).push {cls:=.type "zip",data:=.fields #[.none,.bool false,.bool false,.ref (bB t t' h l m).objs.size,.ref (bC t t' h l m).objs.size]}
theorem jV3(t t' :Bool)(l m:aX)(xs ys:Array Value):
  Meets (Builtin.«zip.__new__» ⟨[.type "zip",.ref l,.ref m],[]⟩) (fun _ R s=>IsB t s.heap l xs/\IsB t' s.heap m ys/\R (.ok (.ret (.ref (bD t t' s.heap l m).objs.size))) {s with heap:=bE t t' s.heap l m}):=
 .of_wp fun a w A R s h=>by
  obtain⟨b,g,d,c,e⟩:=s;obtain⟨i,j,h⟩:=h;have f:=sub_zip;have k:IsB t (Shared.heap ⟨b,g,d,c,e⟩) l xs:=i;have n:IsB t' (Shared.heap ⟨b.push (itO t l),g,d,c,e⟩) m ys:=IsB.push j;wp_walk using zK6 k,zK6 n;exact⟨_,rfl,h⟩
theorem jWm{s:aY}(n:IsB t s.heap l xs)(p:IsB t' s.heap m ys)(h:∀g,IsZip g (s.heap.objs.size+4) (s.heap.objs.size+2) (s.heap.objs.size+3) .none ->IsPair g (s.heap.objs.size+2) (.ref s.heap.objs.size) (.ref (s.heap.objs.size+1))->
   IsPair g (s.heap.objs.size+3) .none .none ->ItB t g s.heap.objs.size l 0->ItB t' g (s.heap.objs.size+1) m 0->(∀c o,s.heap.get? c=some o->g.get? c=some o)->Q (.ref (s.heap.objs.size+4)) {s with heap:=g}):
  aH (model prog w) A (call (.type "zip") [.ref l,.ref m]) Q E s:=by
 refine callType_new PySem.F.called_zip (by decide) (PySem.F.typeCall_zip_2 _ _) (PySem.F.newCall_zip_2 _ _) (fun obj=>PySem.F.args_object_init_3 obj _ _) PySem.F.entry_zip_new (jV3 t t' l m xs ys) ⟨n,p,?_⟩;have a:(s.heap.push (itO t l)).objs.size=s.heap.objs.size+1:=bP ..;have b:(bB t t' s.heap l m).objs.size=s.heap.objs.size+2:=by rw[bP,a]
 have d:(bC t t' s.heap l m).objs.size=s.heap.objs.size+3:=by rw[bP,b]
 have f:(bD t t' s.heap l m).objs.size=s.heap.objs.size+4:=by rw[bP,d]
 have up:∀{h:Heap} {o u:Obj} {c:aX},h.get? c=some u->(h.push o).get? c=some u:=aJ _;have e:(bE t t' s.heap l m).get? (bD t t' s.heap l m).objs.size=some _:=aP _ rfl;have i:(bE t t' s.heap l m).get? (bC t t' s.heap l m).objs.size=some _:=up (aP _ rfl);have j:(bE t t' s.heap l m).get? (bB t t' s.heap l m).objs.size=some _:=up (up (aP _ rfl));have k:(bE t t' s.heap l m).get? (s.heap.push (itO t l)).objs.size=some _:=up (up (up (aP _ vJs)));have r:(bE t t' s.heap l m).get? s.heap.objs.size=some _:=up (up (up (up (aP _ vJs))));show _/\_;rw[b,d,f]at e;rw[a,b]at j;rw[d]at i;rw[a]at k;rw[f];exact⟨⟨_,e,rfl⟩,h _ e j i (.new r) (.new k) fun c o q=>up (up (up (up (up q))))⟩
end
section
variable{X:Cx}{pins:List (aX×Obj)}{σ:St}{H:Hp}{s:aY}{t:Bool}{a:aX}{xs ys:List V}
theorem Inv.sqB(I:Inv X pins σ H s)(h:SqB t X.K H a xs):∃its:List Value,Vals xs its/\IsB t s.heap a its.toArray:=by
 cases t
 ·obtain⟨its,r,p,_⟩:=I.list h;exact⟨its,r,p.isList⟩
 ·obtain⟨its,r,p,_⟩:=I.tuple h;exact⟨its,r,p⟩
theorem Inv.sqB_inj(I:Inv X pins σ H s)(h:SqB t X.K H a xs)(h' :SqB t X.K H a ys):xs=ys:=by
 cases t
 ·exact I.list_inj h h'
 ·exact I.tuple_inj h h'
end
noncomputable def ItzB(t t' :Bool)(K:aQ)(a b:aX):It:=
 ⟨fun i H=>∃c d x y,SqB t K H a c/\SqB t' K H b d/\c[i]?=some x/\d[i]?=some y,
  fun i H v e =>∃p,v=.ref p/\H p=none/\∀c d x y,SqB t K H a c->SqB t' K H b d->c[i]?=some x->d[i]?=some y->e =upd H p (.tup [x,y]),
  fun i H=>∃c d,SqB t K H a c/\SqB t' K H b d/\(c.length<=i\/d.length<=i)⟩
noncomputable def StB(t t' :Bool)(a b z TI TO c i2:aX)(i:Nat)(h:Heap):Prop:=IsZip h z TI TO .none /\IsPair h TI (.ref c) (.ref i2)/\(∃x y,IsPair h TO x y)/\ItB t h c a i/\ItB t' h i2 b i
theorem StB.obj{t:Bool}{a b z TI TO d i2 c:aX}{i:Nat}{h:Heap}(st:StB t t' a b z TI TO d i2 i h)(j:c∈ [z,TI,TO,d,i2]):∃o,h.get? c=some o/\∀v,o.data≠ .cell v:=by
 obtain⟨k,e,⟨x,y,f⟩,l,m⟩:=st;have g :c=z\/c=TI\/c=TO\/c=d\/c=i2:=by simpa using j
 rcases g with rfl|rfl|rfl|rfl|rfl
 ·exact⟨_,k,fun v q=>by cases q⟩
 ·exact⟨_,e,fun v q=>by cases q⟩
 ·exact⟨_,f,fun v q=>by cases q⟩
 ·exact l.obj
 ·exact m.obj
theorem jZ0{P:aA}{K:aQ}{t:Bool}(a b z TI TO q i2:aX)(D:ZipApart z TI TO q i2 a b):
  Turn P w K (.Tuple elts kk pos) (ItzB t t' K a b) [z,TI,TO,q,i2] z (StB t t' a b z TI TO q i2) where
 mem:=by simp
 obj:=fun i h st c d=>st.obj d
 keep:=fun i h V st k=>by
  obtain⟨r,f,⟨x,y,g⟩,A,B⟩:=st;exact⟨k z (by simp) _ r,k TI (by simp) _ f,⟨x,y,k TO (by simp) _ g⟩,A.to fun o e=>k q (by simp) o e,B.to fun o e=>k i2 (by simp) o e⟩
 item:=by
  intro X G J L d i C s σ H E I hf st hg;subst G J L;obtain⟨xs,ys,x,y,l,m,W,Y⟩:=hg;obtain⟨n,M,N⟩:=I.sqB l;obtain⟨j,p,O⟩:=I.sqB m;obtain⟨u,hu,ru⟩:=M.get W;obtain⟨v,hv,Q⟩:=p.get Y;have R :=st;obtain⟨r,f,⟨ta,tb,g⟩,A,B⟩:=st;refine vKg (vXu t D.l1i1 n.toArray) (vXu t' D.l2i2 j.toArray) D r f g ⟨A,N⟩ ⟨B,O⟩ (x:=u) (y:=v) (by simpa using hu) (by simpa using hv) fun V a1 a2 a3 a4 a5 S=>?_
  refine⟨_,rfl,wpAny_letOwnedTupleGo_zip a1 fun T F sb=>?_⟩;have nz:s.heap.objs.size≠z:=dD (aE r);have U:∀c o,c∉ [z,TI,TO,q,i2]->s.heap.get? c=some o->T.get? c=some o:=fun c o d e=>by
   simp only[aG,List.not_mem_nil,or_false,not_or]at d;exact sb.extBut c o d.1 (S c o d.1 d.2.2.1 d.2.2.2.1 d.2.2.2.2 e)
  refine⟨.ref s.heap.objs.size,upd H s.heap.objs.size (.tup [x,y]),I.turnedLaid (t' :=s.toks) U hf (aC _) ⟨zVq,[u,v],.cons ru (.cons Q .nil),⟨_,sb.extBut _ _ nz a5,rfl,_,rfl⟩⟩,rfl,
   ⟨_,rfl,I.hok.fresh (aC _),fun xs' ys' x' y' e1 e2 e3 e4=>?_⟩,⟨F,sb.extBut _ _ D.TIz (S _ _ D.TIz D.TITO D.TIi1 D.TIi2 f),⟨_,_,sb.extBut _ _ D.TOz a2⟩,a3.1.to fun o e=>sb.extBut _ _ D.i1z e,a4.1.to fun o e=>sb.extBut _ _ D.i2z e⟩,fun c d=>?_⟩
  ·rw [I.sqB_inj e1 l,W] at e3;rw[I.sqB_inj e2 m,Y]at e4;grind
  ·obtain⟨o,e,_⟩:=R.obj d;rw[qT (bQ (aE e))];exact(hf c d).1
 done:=by
  intro X G J L d i C s σ H E I hf st hg;subst G J L;obtain⟨xs,ys,l,m,Z⟩:=hg;obtain⟨n,M,N⟩:=I.sqB l;obtain⟨j,p,O⟩:=I.sqB m;obtain⟨r,f,⟨ta,tb,g⟩,A,B⟩:=st;have l1:=M.length;have l2:=p.length;refine zZu (I.ok.hd d) (vXu t D.l1i1 n.toArray) (vXu t' D.l2i2 j.toArray) D r f g ⟨A,N⟩ ⟨B,O⟩ ?_ fun V S=>⟨rfl,I.turnedAll (t' :=s.toks) (ch:=[z,TI,TO,q,i2]) (fun c o d e=>?_) hf⟩
  ·grind
  ·grind
 self:=fun _ _ _ _ _ st h=>wpAny_pyIter_zip st.1 h
noncomputable def jJ4(K:aQ)(e:TA):TI:=fun σ H R=>e σ H fun f c=>∃a b t d g h,f=[.ref a,.ref b]/\SqB t K c a g/\SqB d K c b h/\R (ItzB t d K a b) c
theorem zX0{X:Cx}{e:Pos}{e1 e2:Expr}{o:TA}{p:Pos}(y:Gl X "zip")(z:X.mg "zip"=none)(ha:PA X [e1,e2] o)(hs:aK [e1,e2] X.env=[(false,eval e1 X.env),(false,eval e2 X.env)])(f:aK [e2] X.env=[(false,eval e2 X.env)]):PI X (.Tuple elts kk e) (.Call (.Name "zip" p) [e1,e2] [] pos) (jJ4 X.K o):=by
 intro g s σ H R I h;refine Call_ (qQv I y z Boot.«zip» (bH (thn (ha pos g s σ H _ I h) fun L d ⟨M,A,i,B,C⟩=>?_) (by rw[hs,f]) (by rw[f];rfl)));obtain⟨a,b,t,t',N,O,rfl,D,E,q⟩:=C;cases B with
 | cons r rr=>
   cases rr with
   | cons r' rr=>
     cases rr;cases r;cases r';obtain⟨F,P,u⟩:=i.sqB D;obtain⟨v,G,w⟩:=i.sqB E;refine jWm u w fun Q x k l m n J=>?_
     refine wpAny_pyIter_zip x ?_
     refine⟨d.heap.objs.size+4,[d.heap.objs.size+4,d.heap.objs.size+2,d.heap.objs.size+3,d.heap.objs.size,d.heap.objs.size+1],_,_,A,rfl,i.kept (t' :=d.toks) J,jZ0 a b _ _ _ _ _ (zipApart_new u.lt w.lt),⟨x,k,⟨_,_,l⟩,m,n⟩,fun c S=>?_,q⟩;have j :d.heap.objs.size<=c:=by
      grind
     exact i.fpOk j (i.hok.fresh j)
end L2
namespace DX
open PySem L2 PyProof.Rows
section
variable{K:aQ}{c:Nat->aX}{F G:Hp}{a b:aX}{t t' :Bool}{xs ys:List V}{ds es:List D}
theorem qQ7(e:Same F G)(h:SqB t K F a xs):SqB t K G a xs:=by
 cases t
 ·exact jG e h
 ·exact e.tup h
theorem zJ2(h1:SqB t K F a xs)(h2:SqB t' K F b ys)(g:DsAt K c F xs ds)(h:DsAt K c F ys es):ItD K c F (ItzB t t' K a b) (zipD ds es):=by
 intro i H T f hb;have g1:=qQ7 qS (qQ7 f h1);have g2:=qQ7 qS (qQ7 f h2);refine⟨fun z l=>?_,fun m=>⟨xs,ys,g1,g2,by rw[wF,←g.len,←h.len]at m;omega⟩⟩;obtain⟨d,e,n,o,rfl⟩:=zipD_get l;obtain⟨v,j,q⟩:=g.get n;obtain⟨u,k,r⟩:=h.get o;refine⟨⟨xs,ys,v,u,g1,g2,j,k⟩,fun x A y=>?_⟩;obtain⟨p,rfl,s,w⟩:=y;rw[w xs ys v u g1 g2 j k];exact vJl s hb (q.same f) (r.same f)
noncomputable def sqOf:Bool->D->Option (List D)
 |true=>vQm
 |false=>qQl
theorem vX6{u:V}{d:D}(h:DAt K c F u d)(e:sqOf t d=some ds):∃p vs,u=.ref p/\SqB t K F p vs/\DsAt K c F vs ds:=by
 cases t
 ·exact qKk h e
 ·exact zZy h e
theorem jQj{a:List D}{r:List D}(e:zpA a=some r):∃x y t t' ds es,a=[x,y]/\sqOf t x=some ds/\sqOf t' y=some es/\r=zipD ds es:=by
 have k:∀{t t'} {x y:D},((sqOf t x).bind fun ds=>(sqOf t' y).bind fun es=>some (zipD ds es))=some r->∃b c t t' ds es,[x,y]=[b,c]/\sqOf t b =some ds/\sqOf t' c =some es/\r=zipD ds es:=fun {t t' x y} h=>by
  obtain⟨ds,d,h⟩:=bnd h;obtain⟨es,f,h⟩:=bnd h;cases h;exact⟨x,y,t,t',ds,es,rfl,d,f,rfl⟩
 match a,e with
 | [x,y],e=>
   unfold zpA at e;split at e
   ·rename_i h;cases e;exact k (t:=false) (t' :=false) h
   ·split at e
    ·rename_i h;cases e;exact k (t:=true) (t' :=true) h
    ·exact k (t:=true) (t' :=false) e
 |[],e=>cases e
 |[_],e=>cases e
 |_::_::_::_,e=>cases e
end
theorem vYw{X:Cx}{c:Nat->aX}{E:XK}{e1 e2:Expr}{j:List SV}{p f d:Pos}{e:List Expr}{n:Nat}(o:Gl X "zip")(s:X.mg "zip"=none)(ha:VsD X c E [e1,e2] j)(hs:aK [e1,e2] X.env=[(false,eval e1 X.env),(false,eval e2 X.env)]:=by rfl)(i:aK [e2] X.env=[(false,eval e2 X.env)]:=by rfl):
  ID' X c E (.Tuple e n d) (.Call (.Name "zip" p) [e1,e2] [] f) (iL zpA j):=by
 refine⟨PI.imp (zX0 o s ha.h hs i) fun σ H R=>?_⟩;rintro⟨env,B,W,z,w⟩;refine qVe z (qY.mp w) fun r A N C D g=>?_
 obtain⟨ds,e1,F⟩:=qB A;have k:=g.at_;obtain⟨x,y,t,G,ds,O,e2,I,J,rfl⟩:=jQj e1;rw[e2]at k;obtain⟨u,v,rfl,a,b⟩:=ds2 k;obtain⟨q,P,rfl,l,c2⟩:=vX6 a I;obtain⟨K,L,rfl,m,M⟩:=vX6 b J;exact⟨q,K,t,G,_,_,rfl,qQ7 qS l,qQ7 qS m,F _ C D g.st g.cf (zJ2 l m c2 M)⟩
end DX
namespace X52
open PySem L2 DX FP LWF PyProof.Rows
theorem qYa:FnScope ["self","steps","draws","slots"] ["self","steps","draws","slots"] (qP qQd):=scA
theorem qX1:FnScope ["term","kind"] ["term"] (qP qJ3):=scA
theorem qJs:FnScope ["row","term","names","helpers","kind","part"] ["row","term","names","helpers"] (qP qV0):=scA
theorem xQ:FnScope ["program","names","helpers","number","row","kind"] ["program"] (qP qQ0):=scA
theorem vQb:FnScope ["program"] ["program"] (qP qV1):=scA
theorem vW0:FnScope ["term"] ["term"] (qP qXg):=scA
theorem qJq:FnScope ["term","parts","kind"] ["term","parts"] (qP qVx):=scA
theorem qX9:FnScope ["self"] ["self"] (qP qQc):=scA
theorem qJb:FnScope ["self"] ["self"] (qP j7):=scA
theorem qWa:FnScope ["self"] ["self"] (qP xW):=scA
theorem qWb:FnScope ["self","draw"] ["self","draw"] (qP xX):=scA
theorem vD:FnScope ["self","term","names","helper","own_names","binds","name","part","inner","whole","slot"] ["self","term","names"] (qP wB):=scA
theorem j6:FnScope ["self","term","names","kind","parts","part"] ["self","term","names"] (qP wU):=scA
theorem qQh:FnScope ["self","name","term","inner"] ["self","name","term"] (qP xJ):=scA
theorem wP:FnScope ["self","row","kind","turn","inner"] ["self","row"] (qP xZ):=scA
theorem vQ0:FnScope ["program","opener","row"] ["program"] (qP qKf):=scA
theorem qQx:FnScope ["term","kind","found","part"] ["term"] (qP qVy):=scA
theorem qKd:FnScope ["one","places","found","place","step"] ["one"] (qP vV1):=scA
theorem qKv:FnScope ["one","last"] ["one"] (qP qXf):=scA
theorem qW3:FnScope ["places","leaning","found","place","each"] ["places","leaning"] (qP qZy):=scA
theorem vKr:FnScope ["one"] ["one"] (qP qKe):=scA
theorem zXa:FnScope ["one"] ["one"] (qP vWi):=scA
theorem vZg:FnScope ["_law_term_here"] ["_law_term_here"] (qP qZz):=scA
theorem vZh:FnScope ["_law_term_here"] ["_law_term_here"] (qP qZ3):=scA
theorem qVw:FnScope ["_law_more","_law_coin","_law_pairs","_law_low"] ["_law_more","_law_coin"] (qP qZ2):=scA
theorem wG:FnScope ["_law_number","_law_known","_law_coin","_law_deep","_law_kind","_law_more","_law_draw","_law_one","_law_other"] ["_law_number","_law_known","_law_coin","_law_deep"] (qP qJ4):=scA
theorem zZ:FnScope ["_law_cells","_law_room","_law_tail","_law_rows_here","_law_known","_law_k","_law_cell","_law_number","_law_word","_law_rounds","_law_term_here"] ["_law_cells","_law_room","_law_tail"] (qP qJ5):=scA
theorem qQb:FnScope ["_law_twice","_law_once"] [] (qP qQz):=scA
theorem qK7:FnScope ["_law_cells","_law_room"] ["_law_cells","_law_room"] (qP qQy):=scA
theorem qVv:FnScope ["_law_term_here","_law_found","_law_part"] ["_law_term_here"] (qP qZ0):=scA
theorem wS:FnScope ["_law_program_here","_law_latest","_law_found","_law_row","_law_rounds","_law_turn"] ["_law_program_here"] (qP qZ1):=scA
theorem xM:FnScope ["_law_program_here","_law_at","_law_found","_law_row"] ["_law_program_here"] (qP qJ6):=scA
theorem qJr:FnScope ["_law_leaning","_law_at","_law_held","_law_k","_law_other"] ["_law_leaning","_law_at"] (qP qVz):=scA
theorem vZi:FnScope ["_law_found","_law_steps","_law_draws","_law_slots"] ["_law_found","_law_steps","_law_draws","_law_slots"] (qP qZ4):=scA
theorem yM:FnScope ["_law_script","_law_program_here","_law_one","_law_steps","_law_draws","_law_leaning","_law_held","_law_end","_law_closed_here","_law_due","_law_found"] ["_law_script"] (qP zVh):=scA
set_option genInjectivity false
set_option genSizeOf false
structure Fs(K:aQ)(mg:Str->Option Value)(c:Nat->aX) where
 b0:aX
 c0:bJ
 d0:MethAt K "__init__" "Opened.__init__" qQd ["self","steps","draws","slots"] b0 c0
 e0:aX
 f0:bJ
 g0:FnAt K mg "parts_of" qJ3 ["term"] e0 f0
 h0:aX
 i0:bJ
 j0:FnAt K mg "check_term" qV0 ["row","term","names","helpers"] h0 i0
 k0:aX
 l0:bJ
 m0:FnAt K mg "check_names" qQ0 ["program"] k0 l0
 n0:aX
 o0:bJ
 p0:FnAt K mg "check_defs" qV1 ["program"] n0 o0
 q0:aX
 r0:bJ
 s0:FnAt K mg "draw_of" qXg ["term"] q0 r0
 t0:aX
 u0:bJ
 v0:FnAt K mg "with_parts" qVx ["term","parts"] t0 u0
 w0:aX
 x0:bJ
 y0:MethAt K "__init__" "Opener.__init__" qQc ["self"] w0 x0
 z0:aX
 A0:bJ
 B0:MethAt K "count_term" "Opener.count_term" j7 ["self"] z0 A0
 C0:aX
 D0:bJ
 E0:MethAt K "new_slot" "Opener.new_slot" xW ["self"] C0 D0
 F0:aX
 G0:bJ
 H0:MethAt K "new_draw" "Opener.new_draw" xX ["self","draw"] F0 G0
 I0:aX
 J0:bJ
 K0:MethAt K "open_call" "Opener.open_call" wB ["self","term","names"] I0 J0
 L0:aX
 M0:bJ
 N0:MethAt K "open_term" "Opener.open_term" wU ["self","term","names"] L0 M0
 O0:aX
 P0:bJ
 Q0:MethAt K "open_let" "Opener.open_let" xJ ["self","name","term"] O0 P0
 R0:aX
 S0:bJ
 T0:MethAt K "open_row" "Opener.open_row" xZ ["self","row"] R0 S0
 U0:aX
 V0:bJ
 W0:FnAt K mg "opened" qKf ["program"] U0 V0
 X0:aX
 Y0:bJ
 Z0:FnAt K mg "slots_read" qVy ["term"] X0 Y0
 a1:aX
 b1:bJ
 c1:FnAt K mg "leans" vV1 ["one"] a1 b1
 d1:aX
 e1:bJ
 f1:FnAt K mg "seekers" qXf ["one"] d1 e1
 g1:aX
 h1:bJ
 i1:FnAt K mg "wanted_by" qZy ["places","leaning"] g1 h1
 j1:aX
 k1:bJ
 l1:FnAt K mg "wanted" qKe ["one"] j1 k1
 m1:aX
 n1:bJ
 p1:FnAt K mg "left" vWi ["one"] m1 n1
 q1:aX
 r1:bJ
 s1:FnAt K mg "_law_parts" qZz ["_law_term_here"] q1 r1
 t1:aX
 u1:bJ
 v1:FnAt K mg "_law_count" qZ3 ["_law_term_here"] t1 u1
 w1:aX
 x1:bJ
 y1:FnAt K mg "_law_drawn" qZ2 ["_law_more","_law_coin"] w1 x1
 z1:aX
 A1:bJ
 B1:FnAt K mg "_law_term" qJ4 ["_law_number","_law_known","_law_coin","_law_deep"] z1 A1
 C1:aX
 D1:bJ
 E1:FnAt K mg "_law_rows" qJ5 ["_law_cells","_law_room","_law_tail"] C1 D1
 F1:aX
 G1:bJ
 H1:FnAt K mg "_law_helpers" qQz [] F1 G1
 I1:aX
 J1:bJ
 K1:FnAt K mg "_law_program" qQy ["_law_cells","_law_room"] I1 J1
 L1:aX
 M1:bJ
 N1:FnAt K mg "_law_names" qZ0 ["_law_term_here"] L1 M1
 O1:aX
 P1:bJ
 Q1:FnAt K mg "_law_leans" qZ1 ["_law_program_here"] O1 P1
 R1:aX
 S1:bJ
 T1:FnAt K mg "_law_ends" qJ6 ["_law_program_here"] R1 S1
 U1:aX
 V1:bJ
 W1:FnAt K mg "_law_closed" qVz ["_law_leaning","_law_at"] U1 V1
 X1:aX
 Y1:bJ
 Z1:FnAt K mg "_law_alike" qZ4 ["_law_found","_law_steps","_law_draws","_law_slots"] X1 Y1
 a2:aX
 b2:bJ
 c2:FnAt K mg "law" zVh ["_law_script"] a2 b2
 d2:IsoK K (c 1)
 e2:Cls K (c 1)
 f2:Cls K (c 2)
 g2:Mk K (c 1) b0
 h2:Mk K (c 2) w0
 i2:mg "Opened"=some (.ref (c 1))
 j2:mg "Opener"=some (.ref (c 2))
 k2:Meth K (c 2) "count_term" z0
 l2:Meth K (c 2) "new_draw" F0
 m2:Meth K (c 2) "new_slot" C0
 n2:Meth K (c 2) "open_call" I0
 p2:Meth K (c 2) "open_let" O0
 q2:Meth K (c 2) "open_row" R0
 r2:Meth K (c 2) "open_term" L0
 s2:xP K c [1] "draws"
 t2:xP K c [1] "slots"
 u2:xP K c [1] "steps"
 v2:xP K c [2] "draws"
 w2:xP K c [2] "helpers"
 x2:xP K c [2] "names"
 y2:xP K c [2] "slots"
 z2:xP K c [2] "steps"
 A2:xP K c [2] "terms"
 B2:mg "bool"=none
 C2:mg "dict"=none
 D2:mg "enumerate"=none
 E2:mg "int"=none
 F2:mg "isinstance"=none
 G2:mg "len"=none
 H2:mg "list"=none
 I2:mg "range"=none
 J2:mg "reversed"=none
 K2:mg "set"=none
 M2:mg "sorted"=none
 N2:mg "sum"=none
 O2:mg "tuple"=none
 P2:mg "zip"=none
 Q2:Tok
 R2:mg "MOST_DEFS"=some (.int 3 Q2)
 S2:Tok
 T2:mg "MOST_DRAWS"=some (.int 60 S2)
 U2:Tok
 V2:mg "MOST_SIZE"=some (.int 600 U2)
section
variable{P:aA}{w:bW}{K:aQ}{c:Nat->aX}{mg:Str->Option Value}{base:Heap}(S:Fs K mg c)
set_option maxHeartbeats 4000000
theorem qZ9:FnOk P w K mg base (CXd P w) 1 S.b0 S.c0 ["self","steps","draws","slots"] (spD K c 4 xV):=fnD S.d0.F qYa fun _ _ _ _ _ _ a=>(qQ (qVh S.u2 (nA 0) (qJ2 rfl S.H2 (nA 1)))
   (qQ (qVh S.s2 (nA 0) (jU rfl (Nc:=["draw"]) (cs:=[]) (qZj rfl (by decide +kernel) (by decide +kernel) (by decide +kernel)) (zP (OD.val (nA 2))) (fun _ _ _ _=>gA) (fun _ _ _ _=>wJ) (fun _ _ _ _=>(ev_e (qJ2 rfl S.H2 (nA 0))))))
   (qZ (qVh S.t2 (nA 0) (OD.ow (nA 3))))))
theorem qJ9:FnOk P w K mg base (CXd P w) 1 S.e0 S.f0 ["term"] (spD K c 1 qO):=fnD S.g0.F qX1 fun _ _ _ _ _ _ a=>(qQ (sA qX1.nd (OD.ow (xA 0 a qV)))
   (qQ (vV (vK (nA 1) qW) (qZ (qF (vM (vA (xA 0 a qV) (vA (xA 0 a qV) (vA (xA 0 a qV) qX)))))) qE)
   (qQ (vV (t_in a (nA 1) (od_v (qL (vA qW (vA qW qX))))) (qZ (qF (vM (vA (xA 0 a qV) (vA (xA 0 a qV) qX))))) qE)
   (qQ (vV (t_in a (nA 1) (od_v (qL (vA qW (vA qW qX))))) (qZ (qF (vM (vA (xA 0 a qV) qX)))) qE)
   (qQ (vV (vK (nA 1) qW) (qZ (qF (jU rfl (Nc:=["name","part"]) (cs:=[]) (qZj rfl (by decide +kernel) (by decide +kernel) (by decide +kernel)) (zP (OD.val (xA 0 a qV))) (fun _ _ _ _=>(qZi rfl (v9 gA (v9 gA qQo)))) (fun _ _ _ _=>wJ) (fun _ _ _ _=>(OD.val (nA 1)))))) qE)
   (qQ (vV (vK (nA 1) qW) (qZ (qF (qJ2 rfl S.H2 (xA 0 a qV)))) qE)
   (qZ (qF (vM qX)))))))))
theorem qV3:∀h:Nat,FnOk P w K mg base (CXd P w) (1 * h+3) S.h0 S.i0 ["row","term","names","helpers"] (spD K c 4 (vI h))
 | 0=>fnNo
 | h + 1=>by
   have d:=qV3 h
   exact FnOk.lv (by omega) (fnD (k:=1 * h+3) S.j0.F qJs fun _ _ _ _ _ _ a=>(qQ (sA qJs.nd (OD.ow (xA 1 a qV)))
    (qQ (vV (td_w (qZe (vK (nA 4) qW) (qJc (vXz a (xA 1 a qV) (nA 2))))) (qZ qYq) qE)
    (qQ (vV (td_w (qZe (vK (nA 4) qW) (qJc (vQn (od_v (zY6 (qV8 a) (nA 3) (xA 1 a qV) ⟨rfl,rfl,rfl,rfl⟩)) (xH rfl S.G2 (xA 1 a qV)))))) (qZ qYq) qE)
    (qZ (jV bY rfl (zP (ev_e (cA S.g0 (qJ9 S) a (oA (nA 1) qH)))) gA (qZ (vG (qVn d (a.mono (by omega)) rfl S.j0.m S.j0.F.kp S.j0.b v7 (oA (nA 0) (oA (nA 5) (oA (nA 2) (oA (nA 3) qH)))))))))))))
theorem vQi:FnOk P w K mg base (CXd P w) 35 S.k0 S.l0 ["program"] (spD K c 1 xG):=fnD S.m0.F xQ fun _ _ _ _ _ _ a=>(qQ (sA xQ.nd qVm)
   (qQ (sA xQ.nd qVm)
   (qZ (jV bY rfl (qYi rfl S.D2 (vA (nA 0) qX)) (qZi rfl (v9 gA (v9 gA qQo))) (qQ (sA xQ.nd (OD.ow (xA 4 a qV)))
   (qZ (vV (vK (nA 5) qW) (qQ (vV (t_in a (xA 4 a qV) (nA 2)) (qZ qYq) qE)
   (qQ (vG (cA S.j0 (qV3 S 30) a (oA (nA 3) (oA (xA 4 a qV) (oA (xA 4 a qV) (vO (qYs (nA 2)) qH))))))
   (qZ (qZh (qV8 a) (nA 2) (xA 4 a qV) (OD.ow (xH rfl S.G2 (xA 4 a qV))))))) (qQ (vV (td_w (qZe (vK (nA 5) qW) (qJc (vXz a (xA 4 a qV) (nA 1))))) (qZ qYq) qE)
   (qQ (vG (cA S.j0 (qV3 S 30) a (oA (nA 3) (oA (xA 4 a (qXx qV)) (vO (qYs (nA 1)) (vO (qYs (nA 2)) qH))))))
   (qZ (vV (vK (nA 5) qW) (qZ (qZh (qV8 a) (nA 1) (xA 4 a qV) (OD.ow qZc))) qE)))))))))))
theorem vZr:FnOk P w K mg base (CXd P w) 1 S.n0 S.o0 ["program"] (spD K c 1 yD):=fnD S.p0.F vQb fun _ _ _ _ _ _ a=>(qZ (vV (t_gt (xH rfl S.G2 (od_e (jU rfl (Nc:=["row"]) (cs:=[]) (qZj rfl (by decide +kernel) (by decide +kernel) (by decide +kernel)) (zP (OD.val (nA 0))) (fun _ _ _ _=>gA) (fun _ _ _ _=>(qWm (vK (xA 0 a qV) qW))) (fun _ _ _ _=>(OD.val (nA 0)))))) (od_c (qYe (v:=.int 3) rfl S.R2 ⟨_,rfl⟩) (fun _=>.int _))) (qZ qYq) qE))
theorem zQu:FnOk P w K mg base (CXd P w) 1 S.q0 S.r0 ["term"] (spD K c 1 qJn):=fnD S.s0.F vW0 fun _ _ _ _ _ _ a=>(qQ (vV (vK (xA 0 a qV) qW) (qZ (qF (vM (vP (qL (vA qV (vA (qYt (xA 0 a qV) (xA 0 a qV)) qX))) (vP (qL (vA qV (vA (xA 0 a qV) qX))) qX))))) qE)
   (qZ (qF (qJ2 rfl S.H2 (xA 0 a qV)))))
theorem vZp:FnOk P w K mg base (CXd P w) 1 S.t0 S.u0 ["term","parts"] (spD K c 2 v5):=fnD S.v0.F qJq fun _ _ _ _ _ _ a=>(qQ (sA qJq.nd (OD.ow (xA 0 a qV)))
   (qQ (vV (vK (nA 2) qW) (qZ (qF (ed_v (qL (vA qW (vA (xA 1 a qV) (vA (xA 1 a qV) (vA (xA 1 a qV) qX)))))))) qE)
   (qQ (vV (vK (nA 2) qW) (qZ (qF (ed_v (qL (vA qW (vA (xA 0 a qV) (vA (xA 1 a qV) (vA (xA 1 a qV) qX)))))))) qE)
   (qQ (vV (vK (nA 2) qW) (qZ (qF (ed_v (qL (vA qW (vP (vXx rfl S.O2 (od_e (jU rfl (Nc:=["field","part"]) (cs:=[]) (qZj rfl (by decide +kernel) (by decide +kernel) (by decide +kernel)) (vYw rfl S.P2 (vA (xA 0 a qV) (vA (nA 1) qX))) (fun _ _ _ _=>(qZi rfl (v9 gA (v9 gA qQo)))) (fun _ _ _ _=>wJ) (fun _ _ _ _=>(qL (vA (xA 0 a qV) (vA (nA 1) qX))))))) qX)))))) qE)
   (qZ (qF (ed_v (qL (vA (nA 2) (vA (xA 1 a qV) (vA (xA 0 a qV) qX)))))))))))
theorem qK9:FnOk P w K mg base (CXd P w) 1 S.w0 S.x0 ["self"] (spD K c 1 qQe):=fnD S.y0.F qX9 fun _ _ _ _ _ _ a=>(qQ (qVh S.w2 (nA 0) qVm)
   (qQ (qVh S.x2 (nA 0) qVm)
   (qQ (qVh S.z2 (nA 0) (vM qX))
   (qQ (qVh S.v2 (nA 0) (vM qX))
   (qQ (qVh S.y2 (nA 0) (OD.ow qV))
   (qZ (qVh S.A2 (nA 0) (OD.ow qV))))))))
theorem yW:FnOk P w K mg base (CXd P w) 1 S.z0 S.A0 ["self"] (spD K c 1 zM):=fnD S.B0.F qJb fun _ _ _ _ _ _ a=>(qQ (zVz S.A2 (nA 0) (OD.val qV) zZe (zV2 _))
   (qZ (vV (t_gt (vB S.A2 (nA 0)) (od_c (qYe (v:=.int 600) rfl S.V2 ⟨_,rfl⟩) (fun _=>.int _))) (qZ qYq) qE)))
theorem xY:FnOk P w K mg base (CXd P w) 1 S.C0 S.D0 ["self"] (spD K c 1 vL):=fnD S.E0.F qWa fun _ _ _ _ _ _ a=>(qQ (zVz S.y2 (nA 0) (OD.val qV) zZe (zV2 _))
   (qZ (qF (OD.ow (qYt (vB S.y2 (nA 0)) qV)))))
theorem qW6:FnOk P w K mg base (CXd P w) 1 S.F0 S.G0 ["self","draw"] (spD K c 2 xK):=fnD S.H0.F qWb fun _ _ _ _ _ _ a=>(qQ (vG (jX (vB S.v2 (nA 0)) (OD.ow (nA 1))))
   (qQ (vV (t_gt (xH rfl S.G2 (vB S.v2 (nA 0))) (od_c (qYe (v:=.int 60) rfl S.T2 ⟨_,rfl⟩) (fun _=>.int _))) (qZ qYq) qE)
   (qZ (qF (OD.ow (qYt (xH rfl S.G2 (vB S.v2 (nA 0))) qV))))))
theorem qWc{R:Fn}{k:Nat}(G:FnOk P w K mg base (CXd P w) k S.L0 S.M0 ["self","term","names"] (spD K c 3 R)):FnOk P w K mg base (CXd P w) (k+2) S.I0 S.J0 ["self","term","names"] (spD K c 3 (wC R)):=fnD (k:=k+1) S.K0.F vD fun _ _ _ _ _ _ a=>(qQ (sA vD.nd (OD.ow (o_ix a (vB S.w2 (nA 0)) (xA 1 a qV))))
   (qQ (sA vD.nd qVm)
   (qQ (sA vD.nd (vM qX))
   (qQ (jV bY rfl (vYw rfl S.P2 (vA (xA 3 a qV) (vA (xA 1 a qV) qX))) (qZi rfl (v9 gA (v9 gA qQo))) (qQ (vG (m0A (yZ (pv 0)) S.f2 S.k2 S.B0 (yW S) a))
   (qQ (sA vD.nd (mA (yZ (pv 0)) S.f2 S.r2 S.N0 G a (oA (nA 7) (oA (nA 2) qH))))
   (qQ (qZh (qV8 a) (nA 4) (nA 6) (m0A (yZ (pv 0)) S.f2 S.m2 S.E0 (xY S) a))
   (qZ (vG (jX (nA 5) (ed_v (qL (vA (xA 4 a (nA 6)) (vA (nA 8) qX)))))))))))
   (qQ (sA vD.nd (mA (yZ (pv 0)) S.f2 S.r2 S.N0 G a (oA (xA 3 a qV) (oA (nA 4) qH))))
   (qQ (jV bY rfl (jZk rfl S.J2 (vA (nA 5) qX)) (qZi rfl (v9 gA (v9 gA qQo))) (qZ (sA vD.nd (ed_v (qL (vA qW (vA (nA 10) (vA (nA 8) (vA (nA 9) qX)))))))))
   (qZ (qF (qJp (pv 9))))))))))
theorem jJ:∀h:Nat,FnOk P w K mg base (CXd P w) (3 * h+3) S.L0 S.M0 ["self","term","names"] (spD K c 3 (F_Opener_open_term h))
 | 0=>fnNo
 | h + 1=>by
   have d:=jJ h
   exact FnOk.lv (by omega) (fnD (k:=3 * h+5) S.N0.F j6 fun _ _ _ _ _ _ a=>(qQ (sA j6.nd (OD.ow (xA 1 a qV)))
    (qQ (vV (vK (nA 3) qW) (qZ (qF (mA (yZ (pv 0)) S.f2 S.n2 S.K0 (qWc S d) a (oA (nA 1) (oA (nA 2) qH))))) qE)
    (qQ (vG (m0A (yZ (pv 0)) S.f2 S.k2 S.B0 (yW S) a))
    (qQ (vV (vK (nA 3) qW) (qZ (qF (qJp (pv 1)))) qE)
    (qQ (vV (vK (nA 3) qW) (qZ (qF (ed_v (qL (vA qW (vA (xA 2 a (xA 1 a qV)) qX)))))) qE)
    (qQ (vV (t_in a (nA 3) (od_v (qL (vA qW (vA qW qX))))) (qZ (qF (ed_v (qL (vA qW (vP (ev_e (mA (yZ (pv 0)) S.f2 S.l2 S.H0 (qW6 S) a (vO (od_v (ev_e (cA S.s0 (zQu S) a (oA (nA 1) qH)))) qH))) qX)))))) qE)
    (qQ (sA j6.nd (vM qX))
    (qQ (jV bY rfl (zP (ev_e (cA S.g0 (qJ9 S) a (oA (nA 1) qH)))) gA (qZ (vG (jX (nA 4) (vY4 (yZ (pv 0)) S.f2 S.r2 d (a.mono (by omega)) S.N0.b v7 (oA (nA 5) (oA (nA 2) qH)))))))
    (qZ (qF (cA S.v0 (vZp S) a (oA (nA 1) (vO (qYs (nA 4)) qH))))))))))))))
theorem qQt:FnOk P w K mg base (CXd P w) 94 S.O0 S.P0 ["self","name","term"] (spD K c 3 jD):=fnD S.Q0.F qQh fun _ _ _ _ _ _ a=>(qQ (sA qQh.nd (qKp (yZ (pv 0)) S.f2 S.r2 (jJ S 30) (a.mono (by decide)) S.N0.b v7 (oA (nA 2) (vO (qYs (vB S.x2 (nA 0))) qH))))
   (qQ (qZh (qV8 a) (vB S.x2 (nA 0)) (nA 1) (m0A (yZ (pv 0)) S.f2 S.m2 S.E0 (xY S) a))
   (qZ (vG (jX (vB S.z2 (nA 0)) (ed_v (qL (vA (o_ix a (vB S.x2 (nA 0)) (nA 1)) (vA (nA 3) qX)))))))))
theorem qW5:FnOk P w K mg base (CXd P w) 95 S.R0 S.S0 ["self","row"] (spD K c 2 jC):=fnD S.T0.F wP fun _ _ _ _ _ _ a=>(qQ (sA wP.nd (OD.ow (xA 1 a qV)))
   (qZ (vV (vK (nA 2) qW) (qZ (qZh (qV8 a) (vB S.w2 (nA 0)) (xA 1 a qV) (OD.ow (nA 1)))) (qZ (vV (vK (nA 2) qW) (qZ (vG (mA (yZ (pv 0)) S.f2 S.p2 S.Q0 (qQt S) a (oA (xA 1 a qV) (oA (xA 1 a qV) qH))))) (qZ (vV (vK (nA 2) qW) (qZ (jV bY rfl (qVb rfl S.I2 (vA (xA 1 a qV) qX)) gA (qZ (vG (mA (yZ (pv 0)) S.f2 S.p2 S.Q0 (qQt S) a (oA (xA 1 a qV) (oA (xA 1 a qV) qH))))))) (qZ (vV (vK (nA 2) qW) (qZ (vG (jX (vB S.z2 (nA 0)) (ed_v (qL (vA (qXx qV) (vP (ev_e (qKp (yZ (pv 0)) S.f2 S.r2 (jJ S 30) (a.mono (by decide)) S.N0.b v7 (oA (xA 1 a qV) (vO (qYs (vB S.x2 (nA 0))) qH)))) qX))))))) (qQ (sA wP.nd (qKp (yZ (pv 0)) S.f2 S.r2 (jJ S 30) (a.mono (by decide)) S.N0.b v7 (oA (xA 1 a qV) (vO (qYs (vB S.x2 (nA 0))) qH))))
   (qZ (vG (jX (vB S.z2 (nA 0)) (ed_v (qL (vP (ev_e (m0A (yZ (pv 0)) S.f2 S.m2 S.E0 (xY S) a)) (vA (nA 4) qX)))))))))))))))))
theorem zWq:FnOk P w K mg base (CXd P w) 97 S.U0 S.V0 ["program"] (spD K c 1 qZx):=fnD S.W0.F vQ0 fun _ _ _ _ _ _ a=>(qQ (vG (cA S.m0 (vQi S) a (oA (nA 0) qH)))
   (qQ (vG (cA S.p0 (vZr S) a (oA (nA 0) qH)))
   (qQ (sA vQ0.nd (zWh S.h2 (qK9 S) (a.mono (by decide)) rfl S.j2 S.y0.b v7))
   (qQ (jV bY rfl (zP (OD.val (nA 0))) gA (qZ (vG (mA (yZ (pv 1)) S.f2 S.q2 S.T0 (qW5 S) a (oA (nA 2) qH)))))
   (qZ (qF (vY5 S.g2 (qZ9 S) (a.mono (by decide)) rfl S.i2 S.d0.b v7 (oA (vB S.z2 (nA 1)) (oA (vB S.v2 (nA 1)) (oA (vB S.y2 (nA 1)) qH))))))))))
theorem qW4:∀h:Nat,FnOk P w K mg base (CXd P w) (1 * h+2) S.X0 S.Y0 ["term"] (spD K c 1 (F_slots_read h))
 | 0=>fnNo
 | h + 1=>by
   have d:=qW4 h
   exact FnOk.lv (by omega) (fnD (k:=1 * h+2) S.Z0.F qQx fun _ _ _ _ _ _ a=>(qQ (sA qQx.nd (OD.ow (xA 0 a qV)))
    (qQ (vV (vK (nA 1) qW) (qZ (qF (vM (vA (xA 0 a qV) qX)))) qE)
    (qQ (vV (vK (nA 1) qW) (qZ (qF (qY5 (od_e (qVn d (a.mono (by omega)) rfl S.Z0.m S.Z0.F.kp S.Z0.b v7 (oA (xA 0 a qV) qH))) (od_e (jU rfl (Nc:=["slot","term"]) (cs:=[(1,0)]) (qWl (cl:=[("term",_)]) [(1,0)] [(".0",.local),("slot",.local),("term",.cell)] ["term"] rfl rfl rfl rfl (by decide +kernel) (by decide +kernel) ⟨rfl,trivial⟩ (by decide +kernel) ⟨⟨_,rfl,rfl,rfl,rfl⟩,trivial⟩) (zP (ev_e (qVn d (a.mono (by omega)) rfl S.Z0.m S.Z0.F.kp S.Z0.b v7 (oA (xA 0 a qV) qH)))) (fun _ _ _ _=>gA) (fun _ _ _ _=>(qWm (vQn (nA 0) (xA 1 a qV)))) (fun _ _ _ _=>(OD.val (nA 0)))))))) qE)
    (qQ (sA qQx.nd (vM qX))
    (qQ (jV bY rfl (zP (ev_e (cA S.g0 (qJ9 S) a (oA (nA 0) qH)))) gA (qZ (vG (zWr (nA 2) (qVn d (a.mono (by omega)) rfl S.Z0.m S.Z0.F.kp S.Z0.b v7 (oA (nA 3) qH))))))
    (qZ (qF (qJp (pv 2))))))))))
theorem zKd:FnOk P w K mg base (CXd P w) 63 S.a1 S.b1 ["one"] (spD K c 1 qYp):=fnD S.c1.F qKd fun _ _ _ _ _ _ a=>(qQ (qVg qKd.nd rfl (Or.inr rfl) qVm)
   (qQ (sA qKd.nd (vM qX))
   (qQ (jV bY rfl (qYi rfl S.D2 (vA (vB S.u2 (nA 0)) qX)) (qZi rfl (v9 gA (v9 gA qQo))) (qQ (vG (jX (nA 2) (vKc rfl rfl S.K2 rfl S.M2 (od_e (jU rfl (Nc:=["slot","places"]) (cs:=[(1,1)]) (qWl (cl:=[("places",_)]) [(1,1)] [(".0",.local),("slot",.local),("places",.cell)] ["places"] rfl rfl rfl rfl (by decide +kernel) (by decide +kernel) ⟨rfl,trivial⟩ (by decide +kernel) ⟨⟨_,rfl,rfl,rfl,rfl⟩,trivial⟩) (zP (ev_e (cA S.Z0 (qW4 S 60) a (oA (xA 4 a qV) qH)))) (fun _ _ _ _=>gA) (fun _ _ _ _=>wJ) (fun _ _ _ _=>(OD.val (xA 1 a (nA 0)))))))))
   (qZ (vV (vQn (xA 4 a qV) (qXx qV)) (qZ (qZh (qV8 a) (nA 1) (xA 4 a qV) (OD.ow (nA 3)))) qE))))
   (qZ (qF (qJp (pv 2)))))))
theorem zQs:FnOk P w K mg base (CXd P w) 1 S.d1 S.e1 ["one"] (spD K c 1 qJm):=fnD S.f1.F qKv fun _ _ _ _ _ _ a=>(qQ (qVg qKv.nd rfl (Or.inr rfl) (OD.ow (qYt (xH rfl S.G2 (vB S.u2 (nA 0))) qV)))
   (qZ (qF (jU rfl (Nc:=["place","step","last"]) (cs:=[(2,1)]) (qWl (cl:=[("last",_)]) [(2,1)] [(".0",.local),("place",.local),("step",.local),("last",.cell)] ["last"] rfl rfl rfl rfl (by decide +kernel) (by decide +kernel) ⟨rfl,trivial⟩ (by decide +kernel) ⟨⟨_,rfl,rfl,rfl,rfl⟩,trivial⟩) (qYi rfl S.D2 (vA (vB S.u2 (nA 0)) qX)) (fun _ _ _ _=>(qZi rfl (v9 gA (v9 gA qQo)))) (fun _ _ _ _=>(qWm (td_w (qXt (vK (xA 1 a qV) (qXx qV)) (qJy (vK (nA 0) (nA 2))))))) (fun _ _ _ _=>(OD.val (nA 0)))))))
theorem vJ9:FnOk P w K mg base (CXd P w) 1 S.g1 S.h1 ["places","leaning"] (spD K c 2 qZ7):=fnD S.i1.F qW3 fun _ _ _ _ _ _ a=>(qQ (sA qW3.nd (zKe rfl rfl S.C2 (od_e (jU rfl (Nc:=["place"]) (cs:=[]) (qZj rfl (by decide +kernel) (by decide +kernel) (by decide +kernel)) (zP (OD.val (nA 0))) (fun _ _ _ _=>gA) (fun _ _ _ _=>wJ) (fun _ _ _ _=>(qL (vA (nA 0) (vA qZc qX))))))))
   (qQ (jV bY rfl (zQh rfl S.I2 (vA (qYt (xH rfl S.G2 (nA 1)) qV) (vA (qXx qV) (vA (qXx qV) qX)))) gA (qZ (vV (t_in a (nA 3) (nA 2)) (qZ (jV bY rfl (zP (OD.val (xA 1 a (nA 3)))) gA (qZ (qZh (qV8 a) (nA 2) (nA 4) (OD.ow qZc))))) qE)))
   (qZ (qF (zQq rfl S.M2 (nA 2))))))
theorem zWp:FnOk P w K mg base (CXd P w) 64 S.j1 S.k1 ["one"] (spD K c 1 yT):=fnD S.l1.F vKr fun _ _ _ _ _ _ a=>(qZ (qF (cA S.i1 (vJ9 S) a (vO (od_v (ev_e (cA S.f1 (zQs S) a (oA (nA 0) qH)))) (vO (od_v (ev_e (cA S.c1 (zKd S) a (oA (nA 0) qH)))) qH)))))
theorem zZq:FnOk P w K mg base (CXd P w) 66 S.m1 S.n1 ["one"] (spD K c 1 qZl):=fnD S.p1.F zXa fun _ _ _ _ _ _ a=>(qZ (qF (vY5 S.g2 (qZ9 S) (a.mono (by decide)) rfl S.i2 S.d0.b v7 (vO (od_v (ev_e (jU rfl (Nc:=["place","one"]) (cs:=[(1,0)]) (qWl (cl:=[("one",_)]) [(1,0)] [(".0",.local),("place",.local),("one",.cell)] ["one"] rfl rfl rfl rfl (by decide +kernel) (by decide +kernel) ⟨rfl,trivial⟩ (by decide +kernel) ⟨⟨_,rfl,rfl,rfl,rfl⟩,trivial⟩) (zP (ev_e (cA S.l1 (zWp S) a (oA (nA 0) qH)))) (fun _ _ _ _=>gA) (fun _ _ _ _=>wJ) (fun _ _ _ _=>(OD.val (o_ix a (vB S.u2 (nA 1)) (nA 0))))))) (oA (vB S.s2 (nA 0)) (oA (vB S.t2 (nA 0)) qH))))))
theorem qX5:FnOk P w K mg base (CXd P w) 1 S.q1 S.r1 ["_law_term_here"] (spD K c 1 qZ8):=fnD S.s1.F vZg fun _ _ _ _ _ _ a=>(qQ (vV (vK (xA 0 a qV) qW) (qZ (qF (vM (vA (xA 0 a qV) (vA (xA 0 a qV) qX))))) qE)
   (qQ (vV (vK (xA 0 a qV) qW) (qZ (qF (vM (vA (xA 0 a qV) (vA (xA 0 a qV) (vA (xA 0 a qV) qX)))))) qE)
   (qQ (vV (td_w (qXt (vK (xA 0 a qV) qW) (qJy (vK (xA 0 a qV) qW)))) (qZ (qF (vM (vA (xA 0 a qV) qX)))) qE)
   (qQ (vV (vK (xA 0 a qV) qW) (qZ (qF (jU rfl (Nc:=["_law_pair"]) (cs:=[]) (qZj rfl (by decide +kernel) (by decide +kernel) (by decide +kernel)) (zP (OD.val (xA 0 a qV))) (fun _ _ _ _=>gA) (fun _ _ _ _=>wJ) (fun _ _ _ _=>(OD.val (xA 0 a qV)))))) qE)
   (qQ (vV (vK (xA 0 a qV) qW) (qZ (qF (qJ2 rfl S.H2 (xA 0 a qV)))) qE)
   (qZ (qF (vM qX))))))))
theorem qX7:∀h:Nat,FnOk P w K mg base (CXd P w) (1 * h+2) S.t1 S.u1 ["_law_term_here"] (spD K c 1 (wH h))
 | 0=>fnNo
 | h + 1=>by
   have d:=qX7 h
   exact FnOk.lv (by omega) (fnD (k:=1 * h+2) S.v1.F vZh fun _ _ _ _ _ _ a=>(qQ (vV (td_w (qXt (vK (xA 0 a qV) qW) (qJy (vK (xA 0 a qV) qW)))) (qZ (qF (OD.ow qV))) qE)
    (qZ (qF (OD.ow (jJq rfl rfl S.N2 (od_e (jU rfl (Nc:=["_law_part"]) (cs:=[]) (qZj rfl (by decide +kernel) (by decide +kernel) (by decide +kernel)) (zP (ev_e (cA S.s1 (qX5 S) a (oA (nA 0) qH)))) (fun _ _ _ _=>gA) (fun _ _ _ _=>wJ) (fun _ _ _ _=>(ev_e (qVn d (a.mono (by omega)) rfl S.v1.m S.v1.F.kp S.v1.b jVs (oA (nA 0) qH))))))))))))
theorem vWb:FnOk P w K mg base (CXd P w) 1 S.w1 S.x1 ["_law_more","_law_coin"] (spD K c 2 qQs):=fnD S.y1.F qVw fun _ _ _ _ _ _ a=>(qQ (vV (vVi (qJz (nA 1))) (qZ (qF (ed_v (qL (vA qW (vA (jT (nA 0) qV) qX)))))) qE)
   (qQ (vV (vK (jT (nA 0) qV) qV) (qQ (vV0 rfl qVw.nd rfl (Or.inl rfl) (Nc:=["_law_k","_law_more"]) (cs:=[(1,0)]) (qWl (cl:=[("_law_more",_)]) [(1,0)] [(".0",.local),("_law_k",.local),("_law_more",.cell)] ["_law_more"] rfl rfl rfl rfl (by decide +kernel) (by decide +kernel) ⟨rfl,trivial⟩ (by decide +kernel) ⟨⟨_,rfl,rfl,rfl,rfl⟩,trivial⟩) (qVb rfl S.I2 (vA (qQk qV (jT (qQj (nA 0) qV) qV)) qX)) (fun _ _ _ _=>gA) (fun _ _ _ _=>wJ) (fun _ _ _ _=>(qL (vA (qQk (jT (qQj (nA 1) qV) qV) (vQs qV (nA 0))) (vA (qQk qV (jT (qQj (nA 1) (qQk (nA 0) qV)) qV)) qX)))))
   (qZ (qF (ed_v (qL (vA qW (vP (vXx rfl S.O2 (nA 2)) qX))))))) qE)
   (qQ (sA qVw.nd (OD.ow (qQk qV (jT (qQj (nA 0) qV) qV))))
   (qZ (qF (ed_v (qL (vA qW (vA (nA 3) (vA (qQk (qQk (nA 3) qV) (jT (qQj (nA 0) qV) qV)) qX))))))))))
theorem qK3:FnOk P w K mg base (CXd P w) 2 S.z1 S.A1 ["_law_number","_law_known","_law_coin","_law_deep"] (spD K c 4 xD):=fnD S.B1.F wG fun _ _ _ _ _ _ a=>(qQ (sA wG.nd (OD.ow (jT (nA 0) qV)))
   (qQ (sA wG.nd (OD.ow (qQj (nA 0) qV)))
   (qQ (sA wG.nd (cA S.y1 (vWb S) a (oA (qQj (nA 5) qV) (oA (nA 2) qH))))
   (qQ (vV (jZ1 a (nA 1) (od_e (vM qX))) (qZ (qF (qJp (pv 6)))) qE)
   (qQ (sA wG.nd (ed_v (qL (vA qW (vA (xA 1 a (jT (nA 5) (xH rfl S.G2 (nA 1)))) qX)))))
   (qQ (sA wG.nd (ed_v (qL (vA qW (vA (xA 1 a (jT (qQj (nA 5) qV) (xH rfl S.G2 (nA 1)))) qX)))))
   (qQ (vV (vK (nA 4) qV) (qZ (qF (ed_v (qL (vA qW (vA qW (vA (nA 7) (vA (nA 6) qX)))))))) qE)
   (qQ (vV (vK (nA 4) qV) (qZ (qF (ed_v (qL (vA qW (vA (nA 7) (vA (nA 6) (vA (nA 8) qX)))))))) qE)
   (qQ (vV (vK (nA 4) qV) (qZ (qF (ed_v (qL (vA qW (vA (o_ix a qW (jT (qQj (nA 5) qV) qV)) (vA (nA 7) (vA (nA 8) qX)))))))) qE)
   (qQ (vV (vK (nA 4) qV) (qZ (qF (ed_v (qL (vA qW (vP (qL (vA qW (vA qW (vA (nA 7) (vP (qL (vA qW (vA (jT (nA 5) qV) qX))) qX))))) (vA (qQk qV (jT (nA 5) qV)) qX))))))) qE)
   (qQ (vV (vK (nA 4) qV) (qZ (qF (ed_v (qL (vA qW (vP (qL (vA qW (vP (qL (vP (qL (vA qW (vA (nA 7) qX))) (vP (qL (vA qW (vA (nA 6) qX))) qX))) qX))) (vA (o_ix a qW (jT (qQj (nA 5) qV) qV)) qX))))))) qE)
   (qQ (vV (td_w (qZe (vK (nA 4) qV) (qZe (qJz (nA 3)) (qJc (vK (jT (qQj (nA 5) qV) qV) qV))))) (qZ (qF (ed_v (qL (vA qW (vA qW (vP (qL (vA (nA 7) qX)) qX))))))) qE)
   (qQ (vV (vK (nA 4) qV) (qZ (qF (ed_v (qL (vA qW (vA qW (vP (qL (vA (nA 7) (vA (nA 6) qX))) qX))))))) qE)
   (qZ (qF (qJp (pv 6)))))))))))))))))
theorem vXi:FnOk P w K mg base (CXd P w) 33 S.C1 S.D1 ["_law_cells","_law_room","_law_tail"] (spD K c 3 qVt):=fnD S.E1.F zZ fun _ _ _ _ _ _ a=>(qQ (sA zZ.nd (vM qX))
   (qQ (sA zZ.nd (vM qX))
   (qQ (jV bY rfl (qYi rfl S.D2 (vA (nA 0) qX)) (qZi rfl (v9 gA (v9 gA qQo))) (qQ (sA zZ.nd (OD.ow (jT (vQs (qQk (qQk (jT (nA 6) (jJr qV qV)) (vQs (vQs qV (nA 5)) (nA 5))) qV) qV) qV)))
   (qQ (qVg zZ.nd rfl (Or.inr rfl) (OD.ow (jV2 (o_ix a qW (jT (qQj (nA 7) qV) qV)) (nA 2))))
   (qQ (sA zZ.nd (OD.ow qV))
   (qQ (vV (td_w (qZe (vK (jT (nA 7) qV) qV) (qZe (t_lt (nA 5) qV) (qJc (t_in a (nA 8) (nA 4)))))) (qZ (sA zZ.nd (OD.ow (jT (qQj (nA 7) qV) qV)))) qE)
   (qQ (sA zZ.nd (cA S.B1 (qK3 S) a (oA (qQj (nA 7) qV) (oA (nA 4) (oA (o_le (nA 9) (nA 1)) (oA (vVo (o_lt (nA 5) qV) (vVn (zK0 (nA 9) qV))) qH))))))
   (qQ (sA zZ.nd (OD.ow (qYt (nA 1) (vQs (nA 9) (od_e (cA S.v1 (qX7 S 30) a (oA (nA 10) qH)))))))
   (qZ (vV (vK (jT (nA 7) qV) qV) (qZ (vG (jX (nA 3) (ed_v (qL (vA qW (vA (nA 10) qX))))))) (qZ (vV (td_w (qZe (vK (jT (nA 7) qV) qV) (qJc (t_in a (nA 8) (nA 4))))) (qZ (vG (jX (nA 3) (ed_v (qL (vA qW (vA (nA 9) (vA (nA 8) (vA (nA 10) qX))))))))) (qQ (vG (jX (nA 3) (ed_v (qL (vA qW (vA (nA 8) (vA (nA 10) qX)))))))
   (qZ (sA zZ.nd (qY5 (od_e (jU rfl (Nc:=["_law_one","_law_word"]) (cs:=[(1,8)]) (qWl (cl:=[("_law_word",_)]) [(1,8)] [(".0",.local),("_law_one",.local),("_law_word",.cell)] ["_law_word"] rfl rfl rfl rfl (by decide +kernel) (by decide +kernel) ⟨rfl,trivial⟩ (by decide +kernel) ⟨⟨_,rfl,rfl,rfl,rfl⟩,trivial⟩) (zP (OD.val (nA 4))) (fun _ _ _ _=>gA) (fun _ _ _ _=>(qWm (vQn (nA 0) (nA 1)))) (fun _ _ _ _=>(OD.val (nA 0))))) (od_e (vM (vA (nA 8) qX))))))))))))))))))
   (qZ (qF (qY5 (nA 3) (od_e (vM (vP (qL (vA qW (vP (ev_e (cA S.B1 (qK3 S) a (oA (qQk (vQs (xH rfl S.G2 (nA 0)) qV) qV) (oA (nA 4) (oA (o_gt (nA 1) qV) (oA qZc qH)))))) qX))) qX)))))))))
theorem vQh:FnOk P w K mg base (CXd P w) 1 S.F1 S.G1 [] (spD K c 0 xF):=fnD S.H1.F qQb fun _ _ _ _ _ _ a=>(qQ (sA qQb.nd (ed_v (qL (vA qW (vA qW (vP (qL (vA qW (vA qW qX))) (vP (qL (vA qW (vA qW qX))) qX)))))))
   (qQ (sA qQb.nd (ed_v (qL (vA qW (vA qW (vP (qL (vP (qL (vA qW (vA qW qX))) (vP (qL (vA qW (vA qW qX))) qX))) qX))))))
   (qZ (qF (vM (vP (qL (vA qW (vA qW (vP (qL (vA qW (vA qW qX))) (vA (nA 0) qX))))) (vP (qL (vA qW (vA qW (vP (qL (vA qW qX)) (vP (qL (vA qW (vA qW (vP (qL (vP (qL (vA qW (vA qW qX))) (vA (nA 1) qX))) qX)))) qX))))) qX)))))))
theorem vQg:FnOk P w K mg base (CXd P w) 34 S.I1 S.J1 ["_law_cells","_law_room"] (spD K c 2 wZ):=fnD S.K1.F qK7 fun _ _ _ _ _ _ a=>(qZ (qF (qY5 (od_e (zWj (vQh S) (a.mono (by decide)) rfl S.H1.m S.H1.F.kp S.H1.b v7)) (od_e (cA S.E1 (vXi S) a (oA (nA 0) (oA (nA 1) (oA qW qH))))))))
theorem qX6:∀h:Nat,FnOk P w K mg base (CXd P w) (1 * h+2) S.L1 S.M1 ["_law_term_here"] (spD K c 1 (jI h))
 | 0=>fnNo
 | h + 1=>by
   have d:=qX6 h
   exact FnOk.lv (by omega) (fnD (k:=1 * h+2) S.N1.F qVv fun _ _ _ _ _ _ a=>(qQ (vV (vK (xA 0 a qV) qW) (qZ (qF (vM (vA (xA 0 a qV) qX)))) qE)
    (qQ (sA qVv.nd (vM qX))
    (qQ (jV bY rfl (zP (ev_e (cA S.s1 (qX5 S) a (oA (nA 0) qH)))) gA (qZ (sA qVv.nd (qY5 (nA 1) (od_e (qVn d (a.mono (by omega)) rfl S.N1.m S.N1.F.kp S.N1.b v7 (oA (nA 2) qH)))))))
    (qZ (qF (qJp (pv 1))))))))
theorem vWa:FnOk P w K mg base (CXd P w) 33 S.O1 S.P1 ["_law_program_here"] (spD K c 1 qQr):=fnD S.Q1.F wS fun _ _ _ _ _ _ a=>(qQ (qVg wS.nd rfl (Or.inr rfl) qVm)
   (qQ (sA wS.nd (vM qX))
   (qQ (jV bY rfl (zP (OD.val (nA 0))) gA (qQ (sA wS.nd (OD.ow (jJt rfl S.E2 (jJs (xA 3 a qV) qW))))
   (qQ (vV (vK (xA 3 a qV) qW) (qZ (sA wS.nd (OD.ow (xA 3 a qV)))) qE)
   (qZ (jV bY rfl (qVb rfl S.I2 (vA (nA 4) qX)) gA (qQ (vG (jX (nA 2) (vKc rfl rfl S.K2 rfl S.M2 (od_e (jU rfl (Nc:=["_law_word","_law_latest"]) (cs:=[(1,1)]) (qWl (cl:=[("_law_latest",_)]) [(1,1)] [(".0",.local),("_law_word",.local),("_law_latest",.cell)] ["_law_latest"] rfl rfl rfl rfl (by decide +kernel) (by decide +kernel) ⟨rfl,trivial⟩ (by decide +kernel) ⟨⟨_,rfl,rfl,rfl,rfl⟩,trivial⟩) (zP (ev_e (cA S.N1 (qX6 S 30) a (oA (xA 3 a (qXx qV)) qH)))) (fun _ _ _ _=>gA) (fun _ _ _ _=>wJ) (fun _ _ _ _=>(OD.val (xA 1 a (nA 0)))))))))
   (qZ (vV (td_w (qXt (vK (xA 3 a qV) qW) (qJy (vK (xA 3 a qV) qW)))) (qZ (qZh (qV8 a) (nA 1) (xA 3 a (qXx qV)) (OD.ow (qYt (xH rfl S.G2 (nA 2)) qV)))) qE))))))))
   (qZ (qF (qJp (pv 2)))))))
theorem vXj:FnOk P w K mg base (CXd P w) 1 S.R1 S.S1 ["_law_program_here"] (spD K c 1 qVu):=fnD S.T1.F xM fun _ _ _ _ _ _ a=>(qQ (sA xM.nd (OD.ow qV))
   (qQ (sA xM.nd (vM qX))
   (qQ (jV bY rfl (zP (OD.val (nA 0))) gA (qQ (vV (td_w (qXt (vK (xA 3 a qV) qW) (qJy (vK (xA 3 a qV) qW)))) (qZ (vG (jX (nA 2) (OD.ow (nA 1))))) qE)
   (qZ (vV (vK (xA 3 a qV) qW) (qZ (sA xM.nd (OD.ow (qQk (nA 1) (xA 3 a qV))))) (qZ (vV (vQn (xA 3 a qV) qW) (qZ (sA xM.nd (OD.ow (qQk (nA 1) qV)))) qE))))))
   (qZ (qF (qJp (pv 2)))))))
theorem vZq:FnOk P w K mg base (CXd P w) 1 S.U1 S.V1 ["_law_leaning","_law_at"] (spD K c 2 yC):=fnD S.W1.F qJr fun _ _ _ _ _ _ a=>(qQ (sA qJr.nd (vY3 (od_e (vM (vA qZc qX))) (xH rfl S.G2 (nA 0))))
   (qQ (vVz (nA 2) (nA 1) (OD.ow qZc))
   (qQ (jV bY rfl (jJ3 rfl S.J2 rfl S.I2 (vA (qQk (nA 1) qV) qX)) gA (qZ (vV (qJz (xA 2 a (nA 3))) (qZ (jV bY rfl (zP (OD.val (xA 0 a (nA 3)))) gA (qZ (vVz (nA 2) (nA 4) (OD.ow qZc))))) qE)))
   (qZ (qF (qJp (pv 2)))))))
theorem qX8:FnOk P w K mg base (CXd P w) 1 S.X1 S.Y1 ["_law_found","_law_steps","_law_draws","_law_slots"] (spD K c 4 wI):=fnD S.Z1.F vZi fun _ _ _ _ _ _ a=>(qQ (vV (td_w (qXt (vVi (qJz (jV1 S.e2 S.d2 S.F2 S.i2 (nA 0)))) (qXt (zKm a (vB S.u2 (nA 0)) (nA 1)) (qJy (zKm a (vB S.s2 (nA 0)) (nA 2)))))) (qZ (qF (OD.ow qZc))) qE)
   (qZ (qF (OD.ow (vVo (zV6 (n:="int") (by decide) rfl S.F2 Boot.«isinstance» rfl S.E2 Boot.«int» (vB S.t2 (nA 0))) (vVo (jV0 (zV6 (n:="bool") (by decide) rfl S.F2 Boot.«isinstance» rfl S.B2 Boot.«bool» (vB S.t2 (nA 0)))) (vVn (zK0 (vB S.t2 (nA 0)) (nA 3)))))))))
theorem jWi:FnOk P w K mg base (CXd P w) 98 S.a2 S.b2 ["_law_script"] (spD K c 1 zVo):=fnD S.c2.F yM fun _ _ _ _ _ _ a=>(qQ (sA yM.nd (cA S.K1 (vQg S) a (vO (od_v (ev_e (zWf (nA 0) zYa (zX9 (OD.val qV))))) (oA qV qH))))
   (qQ (sA yM.nd (cA S.W0 (zWq S) a (oA (nA 1) qH)))
   (qQ (qVg yM.nd rfl (Or.inr rfl) (qJ2 rfl S.H2 (vB S.u2 (nA 2))))
   (qQ (vV0 rfl yM.nd rfl (Or.inl rfl) (Nc:=["_law_draw"]) (cs:=[]) (qZj rfl (by decide +kernel) (by decide +kernel) (by decide +kernel)) (zP (OD.val (vB S.s2 (nA 2)))) (fun _ _ _ _=>gA) (fun _ _ _ _=>wJ) (fun _ _ _ _=>(ev_e (qJ2 rfl S.H2 (nA 0)))))
   (qQ (sA yM.nd (cA S.Q1 (vWa S) a (oA (nA 1) qH)))
   (qQ (qVg yM.nd rfl (Or.inr rfl) (vY3 (od_e (vM (vA qZc qX))) (xH rfl S.G2 (nA 5))))
   (qQ (jV bY rfl (zP (ev_e (cA S.T1 (vXj S) a (oA (nA 1) qH)))) gA (qQ (qVg yM.nd rfl (Or.inr rfl) (cA S.W1 (vZq S) a (oA (nA 5) (oA (nA 7) qH))))
   (qZ (qVg yM.nd rfl (Or.inr rfl) (jU rfl (Nc:=["_law_k","_law_closed_here","_law_held"]) (cs:=[(1,8),(2,6)]) (qWl (cl:=[("_law_held",_),("_law_closed_here",_)]) [(1,8),(2,6)] [(".0",.local),("_law_k",.local),("_law_closed_here",.cell),("_law_held",.cell)] ["_law_held","_law_closed_here"] rfl rfl rfl rfl (by decide +kernel) (by decide +kernel) ⟨rfl,rfl,trivial⟩ (by decide +kernel) ⟨⟨_,rfl,rfl,rfl,rfl⟩,⟨_,rfl,rfl,rfl,rfl⟩,trivial⟩) (qVb rfl S.I2 (vA (xH rfl S.G2 (nA 6)) qX)) (fun _ _ _ _=>gA) (fun _ _ _ _=>wJ) (fun _ _ _ _=>(OD.val (jJo (xA 2 a (nA 0)) (vVn (xA 1 a (nA 0)))))))))))
   (qQ (vV (vQn (xH rfl S.G2 (nA 3)) (xH rfl S.G2 (nA 6))) (qZ (qF (OD.ow qZc))) qE)
   (qQ (vV0 rfl yM.nd rfl (Or.inl rfl) (Nc:=["_law_k","_law_held","_law_steps"]) (cs:=[(1,6),(2,3)]) (qWl (cl:=[("_law_steps",_),("_law_held",_)]) [(1,6),(2,3)] [(".0",.local),("_law_k",.local),("_law_held",.cell),("_law_steps",.cell)] ["_law_steps","_law_held"] rfl rfl rfl rfl (by decide +kernel) (by decide +kernel) ⟨rfl,rfl,trivial⟩ (by decide +kernel) ⟨⟨_,rfl,rfl,rfl,rfl⟩,⟨_,rfl,rfl,rfl,rfl⟩,trivial⟩) (qVb rfl S.I2 (vA (xH rfl S.G2 (nA 3)) qX)) (fun _ _ _ _=>gA) (fun _ _ _ _=>(qWm (qJz (xA 1 a (nA 0))))) (fun _ _ _ _=>(OD.val (xA 2 a (nA 0)))))
   (qQ (sA yM.nd (cA S.p1 (zZq S) a (oA (nA 2) qH)))
   (qQ (vV (td_w (qXt (vVi (qJz (od_e (cA S.Z1 (qX8 S) a (oA (nA 10) (oA (nA 9) (oA (nA 4) (oA (vB S.t2 (nA 2)) qH)))))))) (qJy (vVi (qJz (od_e (cA S.Z1 (qX8 S) a (vO (od_v (ev_e (cA S.p1 (zZq S) a (oA (nA 10) qH)))) (oA (nA 9) (oA (nA 4) (oA (vB S.t2 (nA 2)) qH))))))))))) (qZ (qF (OD.ow qZc))) qE)
   (qZ (qF (OD.ow (vVo (zKz a (vB S.u2 (nA 2)) (nA 3)) (vVn (zKz a (vB S.s2 (nA 2)) (nA 4))))))))))))))))))
end
end X52
namespace X52
open PySem L2 DX FP PyProof.Rows
def cm:Nat->aX:=fun n=>match n with | 1=>73 | 2=>179|_=>0
end X52
open PySem PySem.W PyProof.Rows L2 DX
set_option maxHeartbeats 0 in
theorem PySem.Challenge.cw_flipwright_k52_left_holds : PySem.Challenge.rw_flipwright_k52_left.Holds := by
 w_on;o_law;refine holds_open (q:=X52.vw) (loose:=X52.pg.boundNames) (Xt:=fun s=>xlAt X52.vw [] s && recOk (RowW.records (OpenRow.toRowW PySem.Challenge.rw_flipwright_k52_left.row)) s) (XP:=XL X52.vw []) (Yf:=Hook.obs (kHook X52.KF X52.KA X52.KAs)) (Ya:=Hook.val (kHook X52.KF X52.KA X52.KAs)) (YP:=Hook.says (kHook X52.KF X52.KA X52.KAs)) (N:=4404) ?hl (Hook.of _) (Hook.keeps _) (fun s e=>xl_of s (Bool.and_eq_true_iff.mp e).1) XL.keeps (by rfl) (by rfl) (by rfl) (fun s e=>recFacts_of (Bool.and_eq_true_iff.mp e).2) (by rfl) (by first|assumption|decide +kernel) (by decide +kernel) ⟨rfl,rfl,rfl,rfl,rfl,by decide +kernel⟩ ?hw ?hc
 (case hw=>w_witness2);(case hl=>exact TH.left (k0:=12) rfl (by rfl) (fun _=>rfl) X52.zY0 X52.jZm X52.zYz X52.zWb X52.jZl (by rfl));k_fill;refine DX.jZz (l:=PySem.Challenge.rw_flipwright_k52_left) (k:=98) (x:="_law_script") rfl rfl ⟨rfl,by decide,by decide,rfl⟩ (fun w h Y=>PySem.W.kIn_of Y) X52.zJx ?F
 case F=>
  intro w f g h b G c;let S:X52.Fs (X52.KF w.params) f X52.cm:=by
   constructor
   iterate 2 all_goals try first
    |exact faM b G (by k_is) (by k_is) (by k_is) (by k_is)
    |exact PySem.W.mg_of b G (by k_is)
    |exact PySem.W.mg_none_of b G (by k_is)
    |exact⟨by k_is,by k_is,by k_is⟩
    |exact⟨by k_is,by k_is,by k_is,by k_is⟩
    |k_is
    |exact qJl (by k_is) (by k_is) (by k_is) (fun _ _ _ _ _ _ a hl=>match a,hl with|[_],_=>rfl)
    |exact qJl (by k_is) (by k_is) (by k_is) (fun _ _ _ _ _ _ a hl=>match a,hl with|[_,_],_=>rfl)
    |exact qJl (by k_is) (by k_is) (by k_is) (fun _ _ _ _ _ _ a hl=>match a,hl with|[_,_,_],_=>rfl)
    |exact qJl (by k_is) (by k_is) (by k_is) (fun _ _ _ _ _ _ a hl=>match a,hl with|[_,_,_,_],_=>rfl)
    |exact vYz b G (by k_is) (by k_is) (by k_is) (by k_is) (fun _ _ _ _ _ _ a hl=>match a,hl with|[],_=>rfl)
    |exact(by unfold L2.xB;k_is)
    |exact⟨DX.ini_ob (by kernel_rfl),by k_is,by k_is,by k_is,by k_is⟩
    |exact exs_cons ⟨⟨by k_is,by k_is,by k_is,by k_is,by k_is⟩,by kit_is⟩ exs_nil
    |exact exc_cons (by kts_exm) exc_nil
    |exact exl_cons ⟨⟨by k_is,by k_is,by k_is,by k_is,by k_is⟩,by k_is,by k_is⟩ exl_nil
    |exact vJv (C:=1) ⟨by k_is,by k_is,by k_is,by k_is⟩ (by unfold L2.xB;k_is) vY0
    |exact vJv (C:=2) ⟨by k_is,by k_is,by k_is,by k_is⟩ (by unfold L2.xB;k_is) vY0
  have e:g=S.a2:=by have e:=c.symm.trans S.c2.m;cases e;rfl
  rw[e];exact⟨X52.cm,S.b2,rfl,fun s u=>.of_eq rfl,fun d _ _=>X52.jWi S⟩
