import PyProof.Rows.All
import Wide.All
import OpenK.AllK
import Wide.FinOn
import PyProof.EqAt
import PyProof.EqKinds
import PyProof.TupleCall
import Lean
import PySem.Challenge.RW_flipwright_k25_too_much
set_option Elab.async false
set_option linter.all false
set_option maxRecDepth 100000
set_option compiler.extract_closed false
set_option bootstrap.genMatcherCode false
open PySem.W renaming Frag → aQ, findIn → bF, fnOf → bM, kitOne → cJ, keepIn → cX, emptyDict → cY, instObj → cM, behindTheImports → cN
open PySem renaming Addr → aV, wpAny_bind → aZ, Shared → aJ, starEach → aX, wpAny → aI, wpAny_pure → aL, sizeLine → aR, FuncData → bQ, Program → bV, World → bW, wpAny_mono → bU, backTo → bI, mainGlobals → bO, mem_of_lookup → bR, Around → bS, wpAny_loadPart_at → bA, compareOp → cV, wpAny_holding → cF, bootBuiltins → cI, wpAny_field → cL, wpAny_seqItems → dW, wpAny_setField_rec → dU, wpAny_Call_Name_kw → dB, wpAny_passesOwn → dD, cLine → dF, sysModules → dG
open List renaming length_cons → aY, length_map → aK, length_append → aB, mem_cons_of_mem → aC, size_toArray → aF, getElem?_eq_some_iff → aH, getElem?_eq_getElem → aN, map_cons → aS, mem_cons → aA, mem_append_right → bX, getElem?_set_ne → bK, zip_cons_cons → bP, append_nil → bG, mem_filterMap → bH, getD_eq_getElem?_getD → bL, map_append → bN, length_set → bT, append_assoc → cK, map_map → cU, filterMap_cons → cG, mem_cons_self → cH, nodup_cons → cS, mem_append → cT, getElem?_map → dZ, getElem?_cons_zero → dX, mem_singleton → dY, all_cons → dP
open PySem.Heap renaming get?_push_of_some → aW, lt_size → aU, get?_push_size → aT, size_push → dJ, SameBut → dI
open Bool renaming and_eq_true → aP, false_ne_true → aG
open Nat renaming le_refl → aD, lt_of_lt_of_le → aE, le_trans → aO, ne_of_lt → bJ, lt_irrefl → cW
open PySem.PyData renaming keyHash → aM
open Option renaming map_eq_some_iff → bZ, bind_some → cZ, bind_eq_some_iff → cC
open PySem.PassesOwn renaming leaving → bY
open PyProof.Rows renaming callWith_type1 → cB
open PySem.F renaming slot_tuple_iterator_next → cR, excBase_ValueError → dC
open Int renaming natCast_add → dQ
open PySem.SeqAt renaming EqAt → dH
namespace L2
open PySem
noncomputable def xD(s:Stmt)(j:Nat):Stmt:=match s with
 |.ClassDef _ _ _ body _ _ _ _ _ _ _=>body.getD j (.Pass ⟨0,0,0,0⟩)
 |_=> .Pass ⟨0,0,0,0⟩
noncomputable def wW(s:Stmt):Arguments:=match s with
 |.FunctionDef _ a _ _ _ _ _ _ _ _=>a
 |_=> {posonlyargs:=[],args:=[],vararg:=none,kwonlyargs:=[],kw_defaults:=[],kwarg:=none,defaults:=[]}
noncomputable def jW(s:Stmt):List Stmt:=match s with
 |.FunctionDef _ _ b _ _ _ _ _ _ _=>b
 |_=> []
noncomputable def qP(s:Stmt):Scope:=match s with
 |.FunctionDef _ _ _ _ _ _ sc _ _ _=>sc
 |_=> {kind:=.function,names:=[],isGenerator:=false,isCoroutine:=false}
end L2
namespace TH
open PySem PySem.W PySem.Calls PyProof.Rows
variable{N:Nat}{c:Code}{p:bV}{ann:Option Value}{env:Env}
noncomputable def vKr:List Obj->Nat->BT->BT
 |[],_,t=>t
 |o::l,n,t=>vKr l (n+1) (t.ins n o)
noncomputable def ofS(s:aJ):SharedT:=⟨vKr s.heap.objs.toList 0 .nil,s.heap.objs.size,s.heap.life,s.gens,s.drawn,s.toks,s.os⟩
section
variable{tb:String->Option Builtin}{p:bV}{w:bW}{n₀:Nat}{ann:Option Value}{env:Env}{q:Pos}
theorem app{n:Nat}{s s' r:aJ}{l:List Stmt}{c':Code}{pos p' :Pos}(h:segRun tb p w n₀ ann 1 n s (piecesOf l env c pos [topFrame q])=some (.next,s',c',p'))(k:topRun tb p w n₀ ann N s' (restOf [] env c' p' [topFrame q])=some r):topRun tb p w n₀ ann (n+N) s (restOf l env c pos [topFrame q])=some r:=by
 obtain⟨a,ha,hN⟩:=seg_top (res:=id) (K' :=fun f=>match f with|.next =>(execs [] env).wrap doneF (leaveH env) id id|f=>doneF f) (H' :=leaveH env) (B:=[topFrame q]) rfl n s (piecesOf l env c pos [topFrame q])
  ⟨(execs l env).wrap (fun f=>match f with|.next =>(execs [] env).wrap doneF (leaveH env) id id|f=>doneF f) (leaveH env) id id,c,pos,[topFrame q]⟩ _ _ _ _ ⟨rfl,rfl,.inl ⟨rfl,rfl,_,rfl,rfl⟩⟩ h
 obtain rfl:a=.next :=ha
 have:=hN N r k;rw[show l=l ++ [] by simp];unfold restOf;rw[execs_app_wrap];exact this
end
noncomputable def vJy{β:Type}(p:bV)(w:bW)(n₀:Nat)(ann:Option Value)(b:List Stmt)(env:Env)(c:Code)(pos q:Pos)(k:Nat)(s:SharedT)(look:aJ->β):Option β:=
 match segRunT treeTable p w n₀ ann 1 k s (piecesOf b env c pos [topFrame q]) with
 |some (.next,s',c',p')=>(topRun treeTable p w n₀ ann 5 s'.abs (restOf [] env c' p' [topFrame q])).map look
 |_=>none
theorem zJ5{β:Type}{w:bW}{n₀:Nat}{b:List Stmt}{pos q:Pos}{k:Nat}{s:SharedT}{look:aJ->β}{v:β}(h:vJy p w n₀ ann b env c pos q k s look=some v):∃r,topRun treeTable p w n₀ ann (k+5) s.abs (restOf b env c pos [topFrame q])=some r/\look r=v:=by
 unfold vJy at h;split at h
 ·next s' c' p' e=>
  obtain⟨r,hr,hv⟩:=bZ.mp h;exact⟨r,app (segRun_of e) hr,hv⟩
 ·cases h
noncomputable def vKh{α:Type}(p q:bV)(loose:List Str)(Xt:aJ->Bool)(Yf:aJ->α)(g0:Bool)(H₀:Heap)(s:aJ):=
 ((staticsOk (importedModules p.main.body) H₀ s.heap && namesBound p s.heap && gensDone s && laidKept H₀ s.heap),openSeen q loose (importedModules p.main.body) Xt g0 s,Yf s)
theorem left{q:bV}{loose:List Str}{Xt:aJ->Bool}{α:Type}{Yf:aJ->α}{Ya:bW->α}{g0:Bool}{m₀:Nat}{k0 k:Nat}{pos q0:Pos}{Sa:bW->OsState->aJ}(e:opening p=plainProg p.main.scope.names)(hN:Nat.ble 600 N=true)(f:∀s,fenceModules? p s=some s)(size:∀w:bW,((boot_heap w.params).isNs bO,(boot_heap w.params).objs.size,(boot_heap w.params).nsMap bO "__annotations__")=(true,m₀,ann))(pre:∀(w:bW) (os:OsState),topGo treeTable p w m₀ ann k0 ⟨boot_heap w.params,Array.mk [],boot_drawn,boot_toks,os⟩ (topStub p)=
   some (Sa w os,⟨denote treeTable (.body (cN p) env),.body (cN p) env,pos,[topFrame q0]⟩))(tree:∀w os,(ofS (Sa w os)).abs =Sa w os)(block:blockStart (cN p) env=.pure ())(run:∀w os,vJy p w m₀ ann (cN p) env (.body (cN p) env) pos q0 k (ofS (Sa w os)) (vKh p q loose Xt Yf g0 (boot_heap w.params))=some (true,openGood q loose,Ya w))(le:Nat.ble (k0+(1+(k+5))) N=true):LeftO p q loose Xt Yf Ya N g0:=fun w=>by
 obtain⟨⟨h,gs,d,kk,os⟩,e1,e'⟩:=bZ.mp (boot_open (N:=N) e hN f w);obtain⟨rfl,rfl,rfl,rfl⟩:h=boot_heap w.params/\gs=Array.mk []/\d=boot_drawn/\kk=boot_toks:=by simpa using e'
 obtain⟨z1,z2,z3⟩:_/\_/\_:=by simpa only[Prod.mk.injEq] using size w
 obtain⟨r,hr,hv⟩:=zJ5 (run w os);rw[tree w os]at hr;have hb:segRun treeTable p w m₀ ann 1 1 (Sa w os) (blockOf (cN p) env (.body (cN p) env) pos [topFrame q0])=some (.next,Sa w os,.body (cN p) env,pos):=by
  unfold blockOf;rw[block];rfl
 have r1:=go_top (pre w os) (piece_block hb hr);have r2:=topRun_mono (N - (k0+(1+(k+5)))) _ _ _ _ r1;rw[show(k0+(1+(k+5)))+(N - (k0+(1+(k+5))))=N by have:=Nat.le_of_ble_eq_true le;omega]at r2;obtain⟨l1,l2,l3⟩:_/\_/\_:=by simpa only[vKh,Prod.mk.injEq] using hv
 have t:topFrom treeTable p w N ⟨boot_heap w.params,Array.mk [],boot_drawn,boot_toks,os⟩=some r:=by
  unfold topFrom;dsimp only;rw[z1,z2,z3,r2];show(match staticsOk (importedModules p.main.body) (boot_heap w.params) r.heap && namesBound p r.heap && gensDone r && laidKept (boot_heap w.params) r.heap with|true=>_|false=>_)=_;rw[l1]
 unfold openEnds;rw[e1];show(topFrom treeTable p w N _).map _=_;rw[t];exact congrArg some (Prod.ext l2 l3)
end TH
namespace X25
open PySem L2 PyProof.Rows
noncomputable def top(i:Nat):Stmt:=PySem.Challenge.pw_flipwright_k25_too_much.main.body.getD i (.Pass ⟨0,0,0,0⟩)
noncomputable abbrev qZl:Stmt:=xD (top 4) 0
noncomputable abbrev qQf:Stmt:=xD (top 5) 0
noncomputable abbrev qQe:Stmt:=xD (top 14) 0
noncomputable abbrev qZ9:Stmt:=top 15
noncomputable abbrev qZ8:Stmt:=top 16
noncomputable abbrev vZl:Stmt:=top 17
noncomputable abbrev qVo:Stmt:=top 18
noncomputable abbrev qQz:Stmt:=top 19
noncomputable abbrev qVp:Stmt:=top 20
noncomputable abbrev qWe:Stmt:=top 21
noncomputable abbrev qVn:Stmt:=top 22
noncomputable abbrev qQd:Stmt:=xD (top 23) 0
noncomputable abbrev wM:Stmt:=xD (top 23) 1
noncomputable abbrev xR:Stmt:=xD (top 23) 2
noncomputable abbrev xS:Stmt:=xD (top 23) 3
noncomputable abbrev xY:Stmt:=xD (top 23) 5
noncomputable abbrev xX:Stmt:=xD (top 23) 4
noncomputable abbrev xO:Stmt:=xD (top 23) 6
noncomputable abbrev xN:Stmt:=xD (top 23) 7
noncomputable abbrev qX1:Stmt:=top 24
noncomputable abbrev qQy:Stmt:=top 26
noncomputable abbrev qWd:Stmt:=top 27
noncomputable abbrev qZg:Stmt:=top 28
noncomputable abbrev qZh:Stmt:=top 29
noncomputable abbrev qQw:Stmt:=top 30
noncomputable abbrev qQv:Stmt:=top 31
noncomputable abbrev qQx:Stmt:=top 32
noncomputable abbrev qZf:Stmt:=top 33
noncomputable abbrev qQu:Stmt:=top 34
noncomputable abbrev vKc:Stmt:=top 35
noncomputable def fO(x q:Str)(s:Stmt)(m:Str)(t c:Nat):Obj:=⟨(.type "function"),none,(.func ⟨x,q,wW s,.stmts (jW s),qP s,3,[],.none,.none,.none,(.str m t),none,(.ref c),.none,0⟩),#[]⟩
noncomputable def cO(x q:Str)(a b d:Nat)(l n v:Int)(e:Nat)(i:Int)(f g h j:Nat)(k o:Int)(p:Nat):Obj:=⟨(.type "code"),none,(.fields #[(.str x a),(.str q b),(.str "/claim/cut.py" d),(.int l 0),(.int n 0),(.int 0 0),(.int 0 0),(.int v 0),(.ref e),(.bool true),(.int i 0),(.ref f),.none,(.ref g),(.ref h),(.ref j),(.int k 0),(.int o 0),(.str "/claim/cut.py" p)]),#[]⟩
noncomputable def eR(P:Params)(x:Str)(t c:Nat):DictEntry:=⟨aM P x,.str x t,.ref c⟩
noncomputable def cQ(c:Nat)(x q:Str)(a:Nat)(l n:Int):Obj:=⟨(.type "code"),none,(.fields #[(.str x a),(.str q (a+1)),(.str "/claim/cut.py" (a+2)),(.int l 0),(.int n 0),(.int 0 0),(.int 0 0),(.int 3 0),(.ref (c - 3)),(.bool true),(.int 181 0),(.ref (c - 2)),.none,.none,.none,(.ref (c - 1)),(.int (a+3) 0),(.int l 0),(.str "/claim/cut.py" (a+4))]),#[]⟩
noncomputable def cP(c:Nat)(x:Str)(a:Nat)(l n:Int)(e:Nat):Obj:=cO x x a (a+1) (a+2) l n 3 (c - 5) 181 (c - 4) (c - 3) (c - 2) (c - 1) (e:Int) l (e+1)
noncomputable def g0(x:Str)(s:Stmt)(c:Nat):Obj:=fO x x s "flipwright.opening" 353 c
noncomputable def g1(x:Str)(s:Stmt)(c:Nat):Obj:=fO x x s "law_flipwright_k25_too_much" 566 c
noncomputable def x1:Obj:=⟨(.type "tuple"),none,(.seq #[(.ref 24)] 0),#[]⟩
noncomputable def x2:Obj:=⟨(.type "tuple"),none,(.seq #[] 0),#[]⟩
noncomputable def x3(c:Nat)(l:Int)(a:Nat)(P:Params):Obj:=⟨(.type "dict"),none,(.dict #[⟨aM P "__module__",(.str "__module__" (a+7)),(.str "flipwright.errors" 187)⟩,⟨aM P "__firstlineno__",(.str "__firstlineno__" (a+11)),(.int l (a+10))⟩,eR P "__static_attributes__" (a+12) (c+7),⟨aM P "__doc__",(.str "__doc__" (a+13)),.none⟩] 2),#[]⟩
noncomputable def x4(c:Nat)(x:Str)(a:Nat):Obj:=⟨(.type "type"),none,(.cls (.mk x [(.ref 24)] [(.ref (c+9)),(.ref 24),(.type "ValueError"),(.type "Exception"),(.type "BaseException"),(.type "object")] (c+8) x true [] [] false none false)),#[(some (.ref (c+0))),none,(some (.str x (a+0))),(some (.str x (a+8))),(some (.builtin "ValueError.__new__")),(some (.bool true))]⟩
noncomputable def KF:Params->aQ:=fun P=>
 (nat_lit 2,⟨.none,none,(.dict #[] 0),#[]⟩)::
 (nat_lit 3,⟨(.type "dict"),none,(.dict #[⟨aM P "__name__",(.str "__name__" 165),(.str "law_flipwright_k25_too_much" 566)⟩,⟨aM P "__doc__",(.str "__doc__" 166),.none⟩,⟨aM P "__package__",(.str "__package__" 167),.none⟩,⟨aM P "__loader__",(.str "__loader__" 168),(.builtin "__main__.__loader__#opaque")⟩,⟨aM P "__spec__",(.str "__spec__" 169),.none⟩,eR P "__annotations__" 170 6,eR P "__builtins__" 171 4,⟨aM P "__file__",(.str "__file__" 173),(.str "/claim/cut.py" 172)⟩,⟨aM P "__cached__",(.str "__cached__" 174),.none⟩,eR P "FlipError" 206 24,eR P "NoShare" 222 37,eR P "Never" 238 49,eR P "NoText" 263 68,eR P "NoName" 288 87,eR P "TooMuch" 304 99,eR P "NoOrder" 320 111,eR P "NoNumber" 336 123,eR P "NoRow" 352 135,⟨aM P "MOST_DEFS",(.str "MOST_DEFS" 356),(.int 3 355)⟩,⟨aM P "MOST_DRAWS",(.str "MOST_DRAWS" 358),(.int 60 357)⟩,⟨aM P "MOST_SIZE",(.str "MOST_SIZE" 360),(.int 600 359)⟩,eR P "Opened" 389 152,eR P "parts_of" 395 161,eR P "terms_in" 401 166,eR P "size" 408 173,eR P "check_term" 420 180,eR P "check_names" 432 187,eR P "check_defs" 438 192,eR P "draw_of" 445 199,eR P "with_parts" 451 204,eR P "Opener" 556 270,eR P "opened" 565 281,eR P "_law_cell_at" 575 288,eR P "_law_mix" 584 295,eR P "_law_chain" 596 302,eR P "_law_calls" 607 309,eR P "_law_numbers" 620 316,eR P "_law_program" 637 323,eR P "_law_measure" 649 330,eR P "_law_total" 662 337,eR P "_law_refused" 670 344,eR P "law" 676 349] 42),#[]⟩)::
 (nat_lit 15,⟨(.type "tuple"),none,(.seq #[(.type "ValueError")] 0),#[]⟩)::
 (nat_lit 22,x2)::
 (nat_lit 23,⟨(.type "dict"),none,(.dict #[⟨aM P "__module__",(.str "__module__" 196),(.str "flipwright.errors" 187)⟩,⟨aM P "__firstlineno__",(.str "__firstlineno__" 200),(.int 2 199)⟩,eR P "__static_attributes__" 201 22,eR P "__weakref__" 203 25,⟨aM P "__doc__",(.str "__doc__" 204),.none⟩] 3),#[]⟩)::
 (nat_lit 24,⟨(.type "type"),none,(.cls (.mk "FlipError" [(.type "ValueError")] [(.ref 24),(.type "ValueError"),(.type "Exception"),(.type "BaseException"),(.type "object")] 23 "FlipError" true [] [(.ref 37),(.ref 49),(.ref 68),(.ref 87),(.ref 99),(.ref 111),(.ref 123),(.ref 135)] false none false)),#[(some (.ref 15)),none,(some (.str "FlipError" 189)),(some (.str "FlipError" 197)),(some (.builtin "ValueError.__new__")),(some (.bool true))]⟩)::
 (nat_lit 25,⟨(.type "getset_descriptor"),none,(.fields #[(.str "__weakref__" 202),(.ref 24),(.builtin "ExceptionGroup.__weakref__"),.none]),#[]⟩)::
 (nat_lit 28,x1)::
 (nat_lit 35,x2)::
 (nat_lit 36,x3 28 4 207 P)::
 (nat_lit 37,x4 28 "NoShare" 207)::
 (nat_lit 40,x1)::
 (nat_lit 47,x2)::
 (nat_lit 48,x3 40 6 223 P)::
 (nat_lit 49,x4 40 "Never" 223)::
 (nat_lit 52,x1)::
 (nat_lit 64,cO "__init__" "NoText.__init__" 251 252 253 10 2 3 59 181 60 61 62 63 256 10 257)::
 (nat_lit 65,fO "__init__" "NoText.__init__" qZl "flipwright.errors" 187 64)::
 (nat_lit 66,⟨(.type "tuple"),none,(.seq #[(.str "row" 259)] 0),#[]⟩)::
 (nat_lit 67,⟨(.type "dict"),none,(.dict #[⟨aM P "__module__",(.str "__module__" 246),(.str "flipwright.errors" 187)⟩,⟨aM P "__firstlineno__",(.str "__firstlineno__" 250),(.int 8 249)⟩,eR P "__init__" 258 65,eR P "__static_attributes__" 260 66,⟨aM P "__doc__",(.str "__doc__" 261),.none⟩] 2),#[]⟩)::
 (nat_lit 68,⟨(.type "type"),none,(.cls (.mk "NoText" [(.ref 24)] [(.ref 68),(.ref 24),(.type "ValueError"),(.type "Exception"),(.type "BaseException"),(.type "object")] 67 "NoText" true [] [] false none false)),#[(some (.ref 52)),none,(some (.str "NoText" 239)),(some (.str "NoText" 247)),(some (.builtin "ValueError.__new__")),(some (.bool true))]⟩)::
 (nat_lit 71,x1)::
 (nat_lit 83,cO "__init__" "NoName.__init__" 276 277 278 14 2 3 78 181 79 80 81 82 281 14 282)::
 (nat_lit 84,fO "__init__" "NoName.__init__" qQf "flipwright.errors" 187 83)::
 (nat_lit 85,⟨(.type "tuple"),none,(.seq #[(.str "row" 284)] 0),#[]⟩)::
 (nat_lit 86,⟨(.type "dict"),none,(.dict #[⟨aM P "__module__",(.str "__module__" 271),(.str "flipwright.errors" 187)⟩,⟨aM P "__firstlineno__",(.str "__firstlineno__" 275),(.int 12 274)⟩,eR P "__init__" 283 84,eR P "__static_attributes__" 285 85,⟨aM P "__doc__",(.str "__doc__" 286),.none⟩] 2),#[]⟩)::
 (nat_lit 87,⟨(.type "type"),none,(.cls (.mk "NoName" [(.ref 24)] [(.ref 87),(.ref 24),(.type "ValueError"),(.type "Exception"),(.type "BaseException"),(.type "object")] 86 "NoName" true [] [] false none false)),#[(some (.ref 71)),none,(some (.str "NoName" 264)),(some (.str "NoName" 272)),(some (.builtin "ValueError.__new__")),(some (.bool true))]⟩)::
 (nat_lit 90,x1)::
 (nat_lit 97,x2)::
 (nat_lit 98,x3 90 16 289 P)::
 (nat_lit 99,x4 90 "TooMuch" 289)::
 (nat_lit 102,x1)::
 (nat_lit 109,x2)::
 (nat_lit 110,x3 102 18 305 P)::
 (nat_lit 111,x4 102 "NoOrder" 305)::
 (nat_lit 114,x1)::
 (nat_lit 121,x2)::
 (nat_lit 122,x3 114 20 321 P)::
 (nat_lit 123,x4 114 "NoNumber" 321)::
 (nat_lit 126,x1)::
 (nat_lit 133,x2)::
 (nat_lit 134,x3 126 22 337 P)::
 (nat_lit 135,x4 126 "NoRow" 337)::
 (nat_lit 148,cQ 148 "__init__" "Opened.__init__" 373 30 4)::
 (nat_lit 149,fO "__init__" "Opened.__init__" qQe "flipwright.opening" 353 148)::
 (nat_lit 150,⟨(.type "tuple"),none,(.seq #[(.str "draws" 379),(.str "slots" 380),(.str "steps" 381)] 0),#[]⟩)::
 (nat_lit 151,⟨(.type "dict"),none,(.dict #[⟨aM P "__module__",(.str "__module__" 368),(.str "flipwright.opening" 353)⟩,⟨aM P "__firstlineno__",(.str "__firstlineno__" 372),(.int 28 371)⟩,eR P "__init__" 378 149,eR P "__static_attributes__" 382 150,eR P "__dict__" 384 153,eR P "__weakref__" 386 154,⟨aM P "__doc__",(.str "__doc__" 387),.none⟩] 4),#[]⟩)::
 (nat_lit 152,⟨(.type "type"),none,(.cls (.mk "Opened" [(.type "object")] [(.ref 152),(.type "object")] 151 "Opened" true [] [] false none false)),#[none,none,(some (.str "Opened" 361)),(some (.str "Opened" 369)),(some (.builtin "object.__new__")),(some (.bool true))]⟩)::
 (nat_lit 153,⟨(.type "getset_descriptor"),none,(.fields #[(.str "__dict__" 383),(.ref 152),(.builtin "function.__dict__"),(.builtin "function.__dict__#set")]),#[]⟩)::
 (nat_lit 154,⟨(.type "getset_descriptor"),none,(.fields #[(.str "__weakref__" 385),(.ref 152),(.builtin "ExceptionGroup.__weakref__"),.none]),#[]⟩)::
 (nat_lit 160,cQ 160 "parts_of" "parts_of" 390 34 1)::
 (nat_lit 161,g0 "parts_of" qZ9 160)::
 (nat_lit 165,cQ 165 "terms_in" "terms_in" 396 47 1)::
 (nat_lit 166,g0 "terms_in" qZ8 165)::
 (nat_lit 172,cP 172 "size" 402 55 1 406)::
 (nat_lit 173,g0 "size" vZl 172)::
 (nat_lit 179,cP 179 "check_term" 409 57 4 418)::
 (nat_lit 180,g0 "check_term" qVo 179)::
 (nat_lit 186,cP 186 "check_names" 421 65 1 430)::
 (nat_lit 187,g0 "check_names" qQz 186)::
 (nat_lit 191,cQ 191 "check_defs" "check_defs" 433 81 1)::
 (nat_lit 192,g0 "check_defs" qVp 191)::
 (nat_lit 198,cP 198 "draw_of" 439 84 1 443)::
 (nat_lit 199,g0 "draw_of" qWe 198)::
 (nat_lit 203,cQ 203 "with_parts" "with_parts" 446 88 2)::
 (nat_lit 204,g0 "with_parts" qVn 203)::
 (nat_lit 217,cO "__init__" "Opener.__init__" 464 465 466 99 1 3 212 181 213 214 215 216 468 99 469)::
 (nat_lit 218,fO "__init__" "Opener.__init__" qQd "flipwright.opening" 353 217)::
 (nat_lit 224,cO "count_term" "Opener.count_term" 471 472 473 107 1 3 219 181 220 221 222 223 475 107 476)::
 (nat_lit 225,fO "count_term" "Opener.count_term" wM "flipwright.opening" 353 224)::
 (nat_lit 231,cO "new_slot" "Opener.new_slot" 478 479 480 112 1 3 226 181 227 228 229 230 482 112 483)::
 (nat_lit 232,fO "new_slot" "Opener.new_slot" xR "flipwright.opening" 353 231)::
 (nat_lit 238,cO "new_draw" "Opener.new_draw" 485 486 487 116 2 3 233 181 234 235 236 237 490 116 491)::
 (nat_lit 239,fO "new_draw" "Opener.new_draw" xS "flipwright.opening" 353 238)::
 (nat_lit 245,cO "open_term" "Opener.open_term" 493 494 495 122 3 3 240 181 241 242 243 244 502 122 503)::
 (nat_lit 246,fO "open_term" "Opener.open_term" xX "flipwright.opening" 353 245)::
 (nat_lit 252,cO "open_call" "Opener.open_call" 505 506 507 138 3 3 247 181 248 249 250 251 519 138 520)::
 (nat_lit 253,fO "open_call" "Opener.open_call" xY "flipwright.opening" 353 252)::
 (nat_lit 259,cO "open_let" "Opener.open_let" 522 523 524 152 3 3 254 181 255 256 257 258 529 152 530)::
 (nat_lit 260,fO "open_let" "Opener.open_let" xO "flipwright.opening" 353 259)::
 (nat_lit 266,cO "open_row" "Opener.open_row" 532 533 534 157 2 3 261 181 262 263 264 265 540 157 541)::
 (nat_lit 267,fO "open_row" "Opener.open_row" xN "flipwright.opening" 353 266)::
 (nat_lit 268,⟨(.type "tuple"),none,(.seq #[(.str "draws" 543),(.str "helpers" 544),(.str "names" 545),(.str "slots" 546),(.str "steps" 547),(.str "terms" 548)] 0),#[]⟩)::
 (nat_lit 269,⟨(.type "dict"),none,(.dict #[⟨aM P "__module__",(.str "__module__" 459),(.str "flipwright.opening" 353)⟩,⟨aM P "__firstlineno__",(.str "__firstlineno__" 463),(.int 97 462)⟩,eR P "__init__" 470 218,eR P "count_term" 477 225,eR P "new_slot" 484 232,eR P "new_draw" 492 239,eR P "open_term" 504 246,eR P "open_call" 521 253,eR P "open_let" 531 260,eR P "open_row" 542 267,eR P "__static_attributes__" 549 268,eR P "__dict__" 551 271,eR P "__weakref__" 553 272,⟨aM P "__doc__",(.str "__doc__" 554),.none⟩] 4),#[]⟩)::
 (nat_lit 270,⟨(.type "type"),none,(.cls (.mk "Opener" [(.type "object")] [(.ref 270),(.type "object")] 269 "Opener" true [] [] false none false)),#[none,none,(some (.str "Opener" 452)),(some (.str "Opener" 460)),(some (.builtin "object.__new__")),(some (.bool true))]⟩)::
 (nat_lit 271,⟨(.type "getset_descriptor"),none,(.fields #[(.str "__dict__" 550),(.ref 270),(.builtin "function.__dict__"),(.builtin "function.__dict__#set")]),#[]⟩)::
 (nat_lit 272,⟨(.type "getset_descriptor"),none,(.fields #[(.str "__weakref__" 552),(.ref 270),(.builtin "ExceptionGroup.__weakref__"),.none]),#[]⟩)::
 (nat_lit 280,cP 280 "opened" 557 171 1 563)::
 (nat_lit 281,g0 "opened" qX1 280)::
 (nat_lit 287,cP 287 "_law_cell_at" 568 179 2 573)::
 (nat_lit 288,g1 "_law_cell_at" qQy 287)::
 (nat_lit 294,cP 294 "_law_mix" 576 183 2 582)::
 (nat_lit 295,g1 "_law_mix" qWd 294)::
 (nat_lit 301,cP 301 "_law_chain" 585 186 3 594)::
 (nat_lit 302,g1 "_law_chain" qZg 301)::
 (nat_lit 308,cP 308 "_law_calls" 597 199 2 605)::
 (nat_lit 309,g1 "_law_calls" qZh 308)::
 (nat_lit 315,cP 315 "_law_numbers" 608 207 1 618)::
 (nat_lit 316,g1 "_law_numbers" qQw 315)::
 (nat_lit 322,cP 322 "_law_program" 621 223 3 635)::
 (nat_lit 323,g1 "_law_program" qQv 322)::
 (nat_lit 329,cP 329 "_law_measure" 638 239 2 647)::
 (nat_lit 330,g1 "_law_measure" qQx 329)::
 (nat_lit 336,cP 336 "_law_total" 650 249 1 660)::
 (nat_lit 337,g1 "_law_total" qZf 336)::
 (nat_lit 343,cP 343 "_law_refused" 663 264 1 668)::
 (nat_lit 344,g1 "_law_refused" qQu 343)::
 (nat_lit 348,cQ 348 "law" "law" 671 276 1)::
 (nat_lit 349,g1 "law" vKc 348):: []
noncomputable def KA:List aV:=[2,3,15,22,23,24,25,28,35,36,37,40,47,48,49,52,64,65,66,67,68,71,83,84,85,86,87,90,97,98,99,102,109,110,111,114,121,122,123,126,133,134,135,148,149,150,151,152,153,154,160,161,165,166,172,173,179,180,186,187,191,192,198,199,203,204,217,218,224,225,231,232,238,239,245,246,252,253,259,260,266,267,268,269,270,271,272,280,281,287,288,294,295,301,302,308,309,315,316,322,323,329,330,336,337,343,344,348,349]
theorem KAs(P:Params):KA=List.map (fun x=>x.fst) (KF P):=by kernel_rfl
noncomputable abbrev pg:bV:=PySem.Challenge.rw_flipwright_k25_too_much.row.toRowW.prog
noncomputable def vw:bV:={pg with main:={pg.main with body:=pg.main.body.drop 35}}
noncomputable def ev0:Env:={scope:=pg.main.scope,locals:=mainNs,globals:=mainNs,cells:=[],code:=.ref 13,frame:=some 14}
noncomputable def Sa(w:bW)(os:OsState):aJ:=match PySem.W.topGo treeTable pg w 11 (some (.ref 6)) 12 ⟨PySem.W.boot_heap w.params,Array.mk [],PySem.W.boot_drawn,PySem.W.boot_toks,os⟩ (PySem.W.topStub pg) with|some r=>r.1|none=>⟨PySem.W.boot_heap w.params,Array.mk [],PySem.W.boot_drawn,PySem.W.boot_toks,os⟩
theorem zKs(w:bW)(os:OsState):PySem.W.topGo treeTable pg w 11 (some (.ref 6)) 12 ⟨PySem.W.boot_heap w.params,Array.mk [],PySem.W.boot_drawn,PySem.W.boot_toks,os⟩ (PySem.W.topStub pg)=
   some (Sa w os,⟨denote treeTable (.body (PySem.W.behindTheImports pg) ev0),.body (PySem.W.behindTheImports pg) ev0,default,[PySem.W.topFrame default]⟩):=by kernel_rfl
theorem zWh(w:bW)(os:OsState):(TH.ofS (Sa w os)).abs =Sa w os:=by kernel_rfl
theorem zV5:blockStart (PySem.W.behindTheImports pg) ev0=.pure ():=by kernel_rfl
theorem zWi(w:bW):((PySem.W.boot_heap w.params).isNs bO,(PySem.W.boot_heap w.params).objs.size,(PySem.W.boot_heap w.params).nsMap bO "__annotations__")=(true,11,some (.ref 6)):=by kernel_rfl
set_option maxHeartbeats 0 in
theorem zKr(w:bW)(os:OsState):TH.vJy pg w 11 (some (.ref 6)) (PySem.W.behindTheImports pg) ev0 (.body (PySem.W.behindTheImports pg) ev0) default default 3355 (TH.ofS (Sa w os)) (TH.vKh pg vw pg.boundNames (fun s=>PySem.W.xlAt vw [] s && PySem.W.recOk (PySem.W.RowW.records (PySem.W.OpenRow.toRowW PySem.Challenge.rw_flipwright_k25_too_much.row)) s) (PySem.W.Hook.obs (PySem.W.kHook KF KA KAs)) true (PySem.W.boot_heap w.params))=some (true,PySem.W.openGood vw pg.boundNames,PySem.W.Hook.val (PySem.W.kHook KF KA KAs) w):=by kernel_rfl
end X25
namespace L2
open PySem PySem.Spec PyProof.Rows
variable{us:List Value}{H:Hp}{α:Type}{g':Array GenState}{t' i j n:Nat}{d':Drawn}{ch fp:List aV}{it dx C:aV}{N ps:List Str}{M:Model}{A:bS}{Q:Value->aJ->Prop}{X:Cx}{pins:List (aV×Obj)}{y:V}{K:aQ}{c tg:Expr}{es:List Expr}{te:TE}{g:Int->Int->Int}{body:List Stmt}{op:CmpOp}{pl:Sem Bool}{kw:List (Str×Value)}{mg:Str->Option Value}{CX:CXT}{fd:bQ}{sp:Sp}{outer:List Env}{vs:List V}{kindOf:Str->Option NameKind}{qual:Str}{scope:Scope}
noncomputable abbrev Key:=Sum Int Str
noncomputable def qY8:Key->Value->Bool
 |.inl k,v=>Value.isInt k v
 |.inr x,v=>Value.isStrOf x v
noncomputable def keyH(w:bW):Key->Int
 |.inl k=>hashInt k
 |.inr x=>hashStr w x
theorem jY:∀{k:Key} {v:Value},qY8 k v=true->(∃i t,k=Sum.inl i/\v=Value.int i t)\/(∃x t,k=Sum.inr x/\v=Value.str x t)
 | .inl i,v,h=>by
   obtain⟨t,e⟩:=Value.isInt_shape (k:=i) (v:=v) h;exact .inl ⟨i,t,rfl,e⟩
 | .inr x,v,h=>by
   obtain⟨t,e⟩:=Value.isStrOf_shape (x:=x) (v:=v) h;exact .inr ⟨x,t,rfl,e⟩
theorem vYl(i:Int)(t:Tok):qY8 (.inl i) (.int i t)=true:=by simp[qY8,Value.isInt]
theorem vYk(x:Str)(t:Tok):qY8 (.inr x) (.str x t)=true:=by simp[qY8,Value.isStrOf]
theorem zKe(a b:Int):decide ((Sum.inl a:Key)=Sum.inl b)=(a == b):=by
 grind
theorem zKb(a b:Str):decide ((Sum.inr a:Key)=Sum.inr b)=decide (a=b):=by
 grind
theorem zKd(a:Int)(b:Str):decide ((Sum.inl a:Key)=Sum.inr b)=false:=decide_eq_false (fun q=>nomatch q)
theorem zKc(a:Str)(b:Int):decide ((Sum.inr a:Key)=Sum.inl b)=false:=decide_eq_false (fun q=>nomatch q)
noncomputable def jO(prog:bV)(w:bW):PySem.KeyKind prog w Key where
 is:=qY8;hash:=keyH w;inj:=fun v a b ha hb=>by
  rcases jY ha with⟨i,t,rfl,rfl⟩|⟨x,t,rfl,rfl⟩
  ·rcases jY hb with⟨j,u,rfl,e⟩ | ⟨y,u,rfl,e⟩
   ·injection e with e1 _;rw[e1]
   ·exact nomatch e
  ·rcases jY hb with⟨j,u,rfl,e⟩ | ⟨y,u,rfl,e⟩
   ·exact nomatch e
   ·injection e with e1 _;rw[e1]
 byValue:=fun k v h=>by
  rcases jY h with⟨i,t,rfl,rfl⟩|⟨x,t,rfl,rfl⟩ <;> rfl
 pyHash:=fun hv h=>by
  rcases jY hv with⟨i,t,rfl,rfl⟩|⟨x,t,rfl,rfl⟩
  ·exact wpAny_pyHash_int h
  ·exact wpAny_pyHash_str h
 eqBool:=fun hu hv h=>by
  rcases jY hu with⟨i,t,rfl,rfl⟩|⟨x,t,rfl,rfl⟩
  ·rcases jY hv with⟨j,u,rfl,rfl⟩ | ⟨y,u,rfl,rfl⟩
   ·rw[zKe]at h;exact wpAny_eqBool_int h
   ·rw[zKd]at h;exact SeqAt.EqAt.int_str i t y u _ _ _ _ h
  ·rcases jY hv with⟨j,u,rfl,rfl⟩ | ⟨y,u,rfl,rfl⟩
   ·rw[zKc]at h;exact SeqAt.EqAt.str_int x t j u _ _ _ _ h
   ·rw[zKb]at h;exact wpAny_eqBool_str h
 «strs»:=fun k x t v h=>by
  rcases jY h with⟨i,u,rfl,e⟩|⟨y,u,rfl,e⟩
  ·exact nomatch e
  ·injection e with e1 _
   subst e1;cases v <;> rfl
theorem vZe(prog:bV)(w:bW)(i:Int)(t:Tok):(jO prog w).is (.inl i) (.int i t)=true:=vYl i t
theorem vZd(prog:bV)(w:bW)(x:Str)(t:Tok):(jO prog w).is (.inr x) (.str x t)=true:=vYk x t
inductive V where
 |non|bl (b:Bool)|int (i:Int)|str (x:Str)|byt (b:Array UInt8)|flt (b:UInt64)|ref (a:aV)|ty (n:String)
 deriving DecidableEq
noncomputable def RelV:V->Value->Prop
 |.non,u=>u=Value.none
 |.bl b,u=>u=Value.bool b
 |.int i,u=>∃t,u=Value.int i t
 |.str x,u=>∃t,u=Value.str x t
 |.byt b,u=>∃t,u=Value.bytes b t
 |.flt b,u=>∃t,u=Value.float b t
 |.ref a,u=>u=Value.ref a
 |.ty n,u=>u=Value.type n
noncomputable abbrev Vals:List V->List Value->Prop:=Paired RelV
theorem Vals.length{xs:List V}(r:Vals xs us):xs.length=us.length:=Paired.length r
theorem Vals.get:∀{xs:List V} {us:List Value} {i:Nat} {x:V},Vals xs us->xs[i]?=some x->∃u,us[i]?=some u/\RelV x u
 |_,_,_,_,.nil,e=>by simp at e
 |_,_,0,_,.cons r _,e=>by simp at e;subst e;exact⟨_,rfl,r⟩
 | _,_,i + 1,x, .cons _ t,e=>by
   obtain⟨u,h1,h2⟩:=Vals.get (i:=i) (x:=x) t (by simpa using e);exact⟨u,by simpa using h1,h2⟩
theorem Vals.set{x:V}{u:Value}(r:RelV x u):∀{xs:List V} {us:List Value} (i:Nat),Vals xs us->Vals (xs.set i x) (us.set i u)
 |_,_,_,.nil =>.nil
 |_,_,0,.cons _ t=>.cons r t
 |_,_,i+1,.cons q t=>.cons q (Vals.set r i t)
theorem Vals.append:∀{xs ys:List V} {us ws:List Value},Vals xs us->Vals ys ws->Vals (xs ++ ys) (us ++ ws)
 |_,_,_,_,.nil,s=>s
 |_,_,_,_,.cons r t,s=>.cons r (Vals.append t s)
theorem Vals.take:∀{xs:List V} {us:List Value} (n:Nat),Vals xs us->Vals (xs.take n) (us.take n)
 |_,_,0,_=>.nil
 |_,_,_+1,.nil =>.nil
 |_,_,n+1,.cons r t=>.cons r (Vals.take n t)
theorem Vals.drop:∀{xs:List V} {us:List Value} (n:Nat),Vals xs us->Vals (xs.drop n) (us.drop n)
 |_,_,0,r=>r
 |_,_,_+1,.nil =>.nil
 |_,_,n+1,.cons _ t=>Vals.drop n t
noncomputable def RelO:Option V->Option Value->Prop
 |some v,some u=>RelV v u
 |none,none=>True
 |_,_=>False
noncomputable def KV{κ:Type}:List (κ×V)->List (κ×Value)->Prop:=Paired fun(p:κ×V) (q:κ×Value)=>p.1=q.1/\RelV p.2 q.2
noncomputable def kV:Key->V
 |.inl i=>.int i
 |.inr x=>.str x
inductive HO where
  |lst (xs:List V)
  |tup (xs:List V)
  |dK (kvs:List (Key×V))|dT (kvs:List (List Key×V))
  |set (S:Int->Bool) (n:Nat)
  |ins (C dx:aV) (fs:List (Str×V))
  |own (x:aV)
  |xd (fs:List (Str×V))
  |met (f x:aV)
  |rng (lo hi:Int)
  |frz (o:Obj) (u:HO)
  |tbl (ps:Array Value)
 | tab (l c:Nat) (q:Str)
   |ext (φ:Heap->Prop)
noncomputable abbrev Hp:=aV->Option HO
noncomputable def upd(H:Hp)(a:aV)(o:HO):Hp:=fun b=>if b=a then some o else H b
theorem upd_same{a:aV}{o:HO}:upd H a o a=some o:=by unfold upd;rw[if_pos rfl]
theorem qF{a b:aV}{o:HO}(h:b≠a):upd H a o b=H b:=by unfold upd;rw[if_neg h]
theorem jQ0{a b:aV}{o u:HO}(h:H a=some o)(h' :H b=some u)(d:o≠u):a≠b:=by
 intro e;subst e;rw[h]at h';exact d (Option.some.inj h')
theorem vC{a b:aV}{o:HO}(h:H a=some o)(h' :H b=none):a≠b:=by
 grind
noncomputable def TabL(H:Hp)(h:Heap)(a:aV)(l c:Nat)(q:Str)(ps:List Value):Prop:=ps=[]\/∃c1 co fs t,ps=[rawInt l,rawInt c,.ref c1]/\H c1=some (.own a)/\h.get? c1=some co/\co.data=.fields fs/\fs[1]?=some (.str q t)
section
variable(P:bV)(w:bW)
noncomputable def zD(H:Hp)(h:Heap)(a:aV):HO->Prop
 |.lst xs=>xs.length<=aR/\∃(its:List Value) (n:Nat),Vals xs its/\h.get? a=some {cls:=.type "list",data:=.seq its.toArray n}
 |.tup xs=>xs.length<=aR/\∃its:List Value,Vals xs its/\IsTup h a its.toArray
 |.dK kvs=>kvs.length<=aR/\(a == dG)=false/\∃vs,KV kvs vs/\h.DictOf (jO P w) a vs
 | .dT kvs=>kvs.length<=aR/\(a == dG)=false/\∃xs:List (List Key×aV×Value),
   Paired (fun(p:List Key×V) (q:List Key×aV×Value)=>p.1=q.1/\H q.2.1=some (.tup (p.1.map kV))/\RelV p.2 q.2.2) kvs xs/\
   ∃o es ep,h.get? a=some o/\o.ExactDict/\o.data=.dict es ep/\es.toList=xs.map (entryOfKey (tupleKind (jO P w)))/\(xs.map (·.1)).Nodup
 |.set S n=>h.SetOf (intKind P w) a S n
 | .ins C dx fs=>H dx=some (.own a)/\fs.length<=1000/\dx≠a/\h.get? a=some (cM C dx)/\
   ∃mA,h.Ns1 dx mA/\(∀f,RelO (fs.lookup f) (mA f))/\PySem.Within mA (fs.map (·.1))
 |.own _=>∃o,h.get? a=some o
 |.xd fs=>∃mA,h.Ns1 a mA/\∀f,RelO (fs.lookup f) (mA f)
 |.rng lo hi=>∃t u v,h.get? a=some {cls:=.type "range",data:=.fields #[.int lo t,.int hi u,.int 1 v]}
 |.frz o u=>h.get? a=some o/\zD H h a u
 |.tbl ps=>h.get? a=some {cls:=.none,data:=.fields ps}
 |.tab l c q=>∃ps,h.get? a=some {cls:=.none,data:=.fields ps}/\TabL H h a l c q ps.toList
 |.met f x=>h.get? a=some (PySem.W.methodObj (.ref f) (.ref x))
 |.ext φ=>φ h/\(∃o,h.get? a=some o)/\∀h1 h2:Heap,φ h1->(∀o,h1.get? a=some o->h2.get? a=some o)->φ h2
noncomputable def HOk(H:Hp)(h:Heap):Prop:=∀a o,H a=some o->zD P w H h a o
end
section
variable{P:bV}{w:bW}{H H' :Hp}{h h' :Heap}{a:aV}{o:HO}
theorem zD.lt(x:zD P w H h a o):a<h.objs.size:=by
 cases o with
 |lst xs=>obtain⟨_,_,_,_,e⟩:=x;exact aU e
 |tup xs=>obtain⟨_,_,_,p⟩:=x;exact p.lt
 |dK kvs=>obtain⟨_,_,_,_,o,_,_,e,_⟩:=x;exact aU e
 |dT kvs=>obtain⟨_,_,_,_,o,_,_,e,_⟩:=x;exact aU e
 |set S n=>obtain⟨o,_,_,_,e,_⟩:=x;exact aU e
 |ins C dx fs=>obtain⟨_,_,_,e,_⟩:=x;exact aU e
 |own y=>obtain⟨_,e⟩:=x;exact aU e
 |xd fs=>obtain⟨_,⟨_,_,_,e,_⟩,_⟩:=x;exact aU e
 |rng lo hi=>obtain⟨_,_,_,e⟩:=x;exact aU e
 |frz ob u=>obtain⟨e,_⟩:=x;exact aU e
 |tbl ps=>exact aU (show h.get? a=some _ from x)
 |tab l c q=>obtain⟨_,e,_⟩:=x;exact aU e
 |met f y=>exact aU (show h.get? a=some _ from x)
 |ext φ=>obtain⟨_,⟨_,e⟩,_⟩:=x;exact aU e
theorem Paired.mapP{β:Type}{F G:α->β->Prop}:∀{l₁:List α} {l₂:List β},Paired F l₁ l₂->(∀a b,F a b->G a b)->Paired G l₁ l₂
 |_,_,.nil,_=>.nil
 |_,_,.cons r t,f=>.cons (f _ _ r) (Paired.mapP t f)
theorem zD.stay(x:zD P w H h a o)(k:∀b u,(b=a\/H b=some (.own a))->h.get? b=some u->h'.get? b=some u)(ho:∀b,H b=some (.own a)->H' b=some (.own a))(ht:∀b xs,H b=some (.tup xs)->H' b=some (.tup xs)):zD P w H' h' a o:=by
 induction o with
 |lst xs=>obtain⟨z,its,n,r,e⟩:=x;exact⟨z,its,n,r,k _ _ (.inl rfl) e⟩
 |tup xs=>obtain⟨z,its,r,ob,e,c⟩:=x;exact⟨z,its,r,ob,k _ _ (.inl rfl) e,c⟩
 |dK kvs=>obtain⟨z,y,vs,r,ob,es,ep,e,c⟩:=x;exact⟨z,y,vs,r,ob,es,ep,k _ _ (.inl rfl) e,c⟩
 | dT kvs=>
   obtain⟨z,y,xs,r,ob,es,ep,e,c⟩:=x;exact⟨z,y,xs,Paired.mapP r fun p q z=>⟨z.1,ht _ _ z.2.1,z.2.2⟩,ob,es,ep,k _ _ (.inl rfl) e,c⟩
 |set S n=>obtain⟨ob,es,ep,t,e,c⟩:=x;exact⟨ob,es,ep,t,k _ _ (.inl rfl) e,c⟩
 | ins C dx fs=>
   obtain⟨d,z,ne,e,mA,⟨od,es,ep,e2,c⟩,r⟩:=x;exact⟨ho _ d,z,ne,k _ _ (.inl rfl) e,mA,⟨od,es,ep,k _ _ (.inr d) e2,c⟩,r⟩
 |own y=>obtain⟨ob,e⟩:=x;exact⟨ob,k _ _ (.inl rfl) e⟩
 |xd fs=>obtain⟨mA,⟨od,es,ep,e,c⟩,r⟩:=x;exact⟨mA,⟨od,es,ep,k _ _ (.inl rfl) e,c⟩,r⟩
 |rng lo hi=>obtain⟨t,u,v,e⟩:=x;exact⟨t,u,v,k _ _ (.inl rfl) e⟩
 |frz ob u ih=>obtain⟨e,q⟩:=x;exact⟨k _ _ (.inl rfl) e,ih q⟩
 | tbl ps=>
   have e:h.get? a=some {cls:=.none,data:=.fields ps}:=x;show h'.get? a=some {cls:=.none,data:=.fields ps};exact k a _ (.inl rfl) e
 | tab l c q=>
   obtain⟨ps,e,t⟩:=x;refine⟨ps,k a _ (.inl rfl) e,?_⟩;rcases t with t|⟨c,co,fs,tq,h1,h2,h3,h4⟩
   ·exact .inl t
   ·exact .inr ⟨c,co,fs,tq,h1,ho c h2,k c co (.inr h2) h3,h4⟩
 | met f y=>
   have e:h.get? a=some (PySem.W.methodObj (.ref f) (.ref y)):=x;show h'.get? a=some (PySem.W.methodObj (.ref f) (.ref y));exact k a _ (.inl rfl) e
 |ext φ=>obtain⟨p,⟨o,e⟩,st⟩:=x;exact⟨st _ _ p fun o q=>k _ _ (.inl rfl) q,⟨o,k _ _ (.inl rfl) e⟩,st⟩
theorem HOk.lt(x:HOk P w H h)(e:H a=some o):a<h.objs.size:=(x a o e).lt
theorem HOk.fresh(x:HOk P w H h)(e:h.objs.size<=a):H a=none:=by
 cases q:H a with
 |none=>rfl
 |some u=>exact absurd (aE (x.lt q) e) (cW _)
theorem HOk.kept(x:HOk P w H h)(k:∀b u,h.get? b=some u->h'.get? b=some u):HOk P w H h' :=fun a o e=>
 (x a o e).stay (fun b u _ q=>k b u q) (fun _ q=>q) fun _ _ q=>q
theorem HOk.laid(x:HOk P w H h)(k:∀b u,h.get? b=some u->h'.get? b=some u)(hp:h.objs.size<=a)(new:zD P w (upd H a o) h' a o):HOk P w (upd H a o) h' :=fun b u e=>by
 have hn:=x.fresh hp;by_cases hb:b=a
 ·subst hb;rw[upd_same]at e;cases e;exact new
 ·rw [qF hb] at e;exact(x b u e).stay (fun c v _ q=>k c v q) (fun c q=>by rw[qF (vC q hn)];exact q) fun c xs q=>by rw[qF (vC q hn)];exact q
end
noncomputable def Rd(H:Hp)(a:aV)(u:HO):Prop:=H a=some u\/∃o,H a=some (.frz o u)
theorem Rd.ok{P:bV}{w:bW}{h:Heap}{a:aV}{u:HO}(r:Rd H a u)(x:HOk P w H h):zD P w H h a u:=by
 rcases r with r|⟨o,r⟩
 ·exact x a u r
 ·obtain⟨_,q⟩:=x a _ r;exact q
noncomputable def Mut:Option HO->Prop
 |some (.lst _)=>True
 |some (.dK _)=>True
 |some (.dT _)=>True
 |some (.set _ _)=>True
 |some (.ins _ _ _)=>True
 |some (.ext _)=>True
 |_=>False
section
variable{P:bV}{w:bW}{H:Hp}{h h' :Heap}{x e:aV}{o' :HO}
theorem HOk.write(ok:HOk P w H h)(mu:Mut (H x))(he:e=x\/H e=some (.own x))(k:∀b u,b≠e->h.get? b=some u->h'.get? b=some u)(heo:∃u,h'.get? e=some u)(new:zD P w (upd H x o') h' x o'):HOk P w (upd H x o') h' :=fun b u q=>by
 have nown:∀c y,H c=some (.own y)->c≠x:=fun c y r z=>by subst z;rw[r]at mu;exact mu
 have ntup:∀c xs,H c=some (.tup xs)->c≠x:=fun c xs r z=>by subst z;rw[r]at mu;exact mu
 by_cases hb:b=x
 ·subst hb;rw[upd_same]at q;cases q;exact new
 ·rw [qF hb] at q;by_cases hbe:b=e
  ·have q' :H b=some (.own x):=by
    rcases he with z|z
    ·exact absurd (hbe.trans z) hb
    ·rw[hbe];exact z
   rw[q]at q';cases q';obtain⟨v,hv⟩:=heo;exact⟨v,by rw[hbe];exact hv⟩
  ·refine(ok b u q).stay (fun c v hc r=>k c v ?_ r) (fun c r=>by rw [qF (nown c b r)];exact r) fun c xs r=>by rw [qF (ntup c xs r)];exact r
   rcases hc with rfl|hc
   ·exact hbe
   ·rintro rfl;rcases he with z|z
    ·exact nown c b hc z
    ·rw[hc]at z;cases z;exact hb rfl
end
structure Un(fs ex:List aV)(H H' :Hp)(h h' :Heap):Prop where
 keep:∀b o,h.get? b=some o->H b=none->b∉fs->b∉ex->h'.get? b=some o
 slot:∀b o,h.get? b=some o->H b=none->b∈fs->b∉ex->∃sl,h'.get? b=some {o with slots:=sl}
 free:∀b o,h.get? b=some o->H b=none->b∉ex->H' b=none
 there:∀b o,h.get? b=some o->b∉ex->∃o',h'.get? b=some o'
 tups:∀b xs,H b=some (.tup xs)->H' b=some (.tup xs)
 frzs:∀b o u,H b=some (.frz o u)->H' b=some (.frz o u)
 tbls:∀b ps,H b=some (.tbl ps)->∃more,H' b=some (.tbl (ps ++ more))
section
variable{fs fs' ex ex' :List aV}{H H1 H2:Hp}{h h1 h2 h' :Heap}{a x e:aV}{o:HO}
theorem Un.any(u:Un fs ex H H1 h h1){b:aV}{ob:Obj}(q:h.get? b=some ob)(n:H b=none)(hx:b∉ex):∃sl,h1.get? b=some {ob with slots:=sl}:=by
 by_cases hb:b∈fs
 ·exact u.slot b ob q n hb hx
 ·exact⟨ob.slots,u.keep b ob q n hb hx⟩
theorem Un.kept(k:∀b u,h.get? b=some u->h'.get? b=some u):Un fs ex H H h h' :=
 ⟨fun b ob q _ _ _=>k b ob q,fun b ob q _ _ _=>⟨ob.slots,k b ob q⟩,fun _ _ _ n _=>n,fun b ob q _=>⟨ob,k b ob q⟩,fun _ _ q=>q,fun _ _ _ q=>q,fun _ ps q=>⟨#[],by rw[q];simp⟩⟩
theorem Un.refl:Un fs ex H H h h:=Un.kept fun _ _ q=>q
theorem Un.laid(k:∀b u,h.get? b=some u->h'.get? b=some u)(hp:h.objs.size<=a)(hn:H a=none):Un fs ex H (upd H a o) h h' where
 keep:=fun b u q _ _ _=>k b u q
 slot:=fun b u q _ _ _=>⟨u.slots,k b u q⟩
 free:=fun b u q n _=>by rw[qF (bJ (aE (aU q) hp))];exact n
 there:=fun b u q _=>⟨u,k b u q⟩
 tups:=fun b xs q=>by rw[qF (vC q hn)];exact q
 frzs:=fun b u xs q=>by rw[qF (vC q hn)];exact q
 tbls:=fun b ps q=>⟨#[],by rw[qF (vC q hn),q];simp⟩
theorem Un.write(mu:Mut (H x))(he:e=x\/H e=some (.own x))(k:∀b u,b≠e->h.get? b=some u->h'.get? b=some u)(heo:∃u,h'.get? e=some u):Un fs ex H (upd H x o) h h' :=by
 have hx:∀b,H b=none->b≠x:=fun b n z=>by subst z;rw[n]at mu;exact mu
 have hb:∀b,H b=none->b≠e:=fun b n z=>by
  subst z;rcases he with r|r
  ·exact hx b n r
  ·rw[n]at r;cases r
 have hm:∀b u,H b=some u->¬Mut (some u)->b≠x:=fun b u q nm z=>by subst z;rw[q]at mu;exact nm mu
 refine⟨fun b u q n _ _=>k b u (hb b n) q,fun b u q n _ _=>⟨u.slots,k b u (hb b n) q⟩,fun b u q n _=>by rw[qF (hx b n)];exact n,fun b u q _=>?_,
  fun b xs q=>by rw[qF (hm b _ q fun z=>z)];exact q,fun b u xs q=>by rw[qF (hm b _ q fun z=>z)];exact q,fun b ps q=>⟨#[],by rw[qF (hm b _ q fun z=>z),q];simp⟩⟩
 by_cases hbe:b=e
 ·subst hbe;exact heo
 ·exact⟨u,k b u hbe q⟩
end
noncomputable def trk(h:Heap)(H:Hp):List aV:=(List.range h.objs.size).filter fun a=>(H a).isSome
noncomputable def hidT(h:Heap)(H:Hp):Heap:=PySem.W.hideAll h (trk h H)
theorem vYo(h:Heap)(H:Hp):(hidT h H).objs.size=h.objs.size:=PySem.W.hideAll_size _ _
theorem zV4{h:Heap}{b:aV}{o:Obj}(e:h.get? b=some o)(n:H b=none):(hidT h H).get? b=some o:=
 PySem.W.hideAll_get _ e fun hm=>by
  have q:(H b).isSome =true:=(List.mem_filter.mp hm).2;grind
theorem zJ2{h:Heap}{b:aV}{o:Obj}(e:(hidT h H).get? b=some o):h.get? b=some o/\H b=none:=by
 have e' :h.get? b=some o:=PySem.W.of_hideAll (trk h H) e;refine⟨e',?_⟩;cases q:H b with
 |none=>rfl
 | some x=>
   have hm:b∈trk h H:=List.mem_filter.mpr ⟨List.mem_range.mpr (aU e'),by simp[q]⟩;have z:(hidT h H).get? b=none:=PySem.W.hideAll_none (trk h H) hm;grind
structure Mod(K:aQ)(mg:Str->Option Value)(base:Heap):Prop where
 kin:K.In base
 glob:base.Ns bO mg
 blt:∃mb,base.Ns builtinsNs mb/\∀x:Str,x≠"__name__"->mb x=cI x
 nolimit:base.NoLimit
structure Cx where
 prog:bV
 w:bW
 K:aQ
 mg:Str->Option Value
 base:Heap
 A:bS
 N:List Str
 s₀:aJ
 H₀:Hp
 env:Env
 outer:List Env
 stack:List Env
 ex:List aV
 fn:Str->Bool
 calm:Bool
 pn:List (aV×Obj)
 xe:Value->aJ->Prop
noncomputable def frs(l:List Env):List aV:=l.filterMap (·.frame)
noncomputable abbrev Cx.fs(X:Cx):List aV:=frs X.outer
noncomputable def Vis(sc:Scope)(x:Str):Prop:=sc.names.lookup x=some .local \/sc.names.lookup x=some .cell \/sc.names.lookup x=some .free
noncomputable def Loc(sc:Scope)(x:Str):Prop:=sc.names.lookup x=some .local \/sc.names.lookup x=some .cell
noncomputable def Look(env:Env)(h:Heap)(m:Str->Option Value)(x:Str)(u:Value):Prop:=
 (env.kindOf x=some .local /\m x=some u)\/((env.kindOf x=some .cell \/env.kindOf x=some .free)/\∃c,env.cells.lookup x=some c/\h.IsCell c (some u))
structure Cx.Ok(X:Cx):Prop where
 mod:Mod X.K X.mg X.base
 kind:X.env.scope.kind=.function
 glob:X.env.globals=bO
 blt:X.env.builtins=builtinsNs
 above:X.s₀.heap.objs.size<=X.env.locals
 inj:∀x y c,X.env.cells.lookup x=some c->X.env.cells.lookup y=some c->x=y
 has:∀x,(X.env.kindOf x=some .cell \/X.env.kindOf x=some .free)->∃c,X.env.cells.lookup x=some c
 cab:∀x c,X.fn x=true->X.env.cells.lookup x=some c->X.s₀.heap.objs.size<=c
 hd:X.calm=true->X.A.handled=none
 frames:X.A.frames=some X.stack
 stk:X.stack=X.outer\/(X.stack=X.env::X.outer/\X.env.frame=some X.env.locals)
 exf:∀b∈X.ex,b≠X.env.locals/\∀x c,X.env.cells.lookup x=some c->c≠b
 bs:∀b o,X.base.get? b=some o->X.s₀.heap.get? b=some o/\X.H₀ b=none
 bsz:X.base.objs.size<=X.s₀.heap.objs.size
 noex:∀b o,X.base.get? b=some o->b∉X.ex
 exfs:∀b∈X.ex,b∉X.fs
 funs:X.s₀.heap.FunFrames X.base X.outer
 frf:∀b∈X.fs,X.H₀ b=none
structure Inv(X:Cx)(pins:List (aV×Obj))(σ:List (Option V))(H:Hp)(s:aJ):Prop where
 ok:X.Ok
 os:s.os=X.s₀.os
 bare:AllBare s.gens
 base:Un X.fs X.ex X.H₀ H X.s₀.heap s.heap
 loc:∃m,s.heap.Ns X.env.locals m/\∀(i:Nat) (x:Str) (v:V),X.N[i]?=some x->σ[i]?=some (some v)->Vis X.env.scope x->∃u,RelV v u/\Look X.env s.heap m x u
 cell:∀x c,X.env.cells.lookup x=some c->∃v,s.heap.IsCell c v
 free:H X.env.locals=none
 freeC:∀x c,X.env.cells.lookup x=some c->H c=none
 pin:∀p∈X.pn ++ pins,s.heap.get? p.1=some p.2/\H p.1=none/\p.1≠X.env.locals/\p.1∉X.fs/\∀v,p.2.data≠ .cell v
 hok:HOk X.prog X.w H s.heap
 len:σ.length=X.N.length
section
variable{X:Cx}{pins:List (aV×Obj)}{σ:List (Option V)}{H H' :Hp}{s:aJ}{h' :Heap}
theorem Cx.Ok.nofr(ok:X.Ok){b:aV}{o:Obj}(e:X.base.get? b=some o):b∉X.fs:=fun hb=>by
 have:=(ok.funs.mem hb).1;grind
theorem Inv.bs(I:Inv X pins σ H s):∀b o,X.base.get? b=some o->s.heap.get? b=some o/\H b=none:=fun b o e=>
 ⟨I.base.keep b o (I.ok.bs b o e).1 (I.ok.bs b o e).2 (I.ok.nofr e) (I.ok.noex b o e),I.base.free b o (I.ok.bs b o e).1 (I.ok.bs b o e).2 (I.ok.noex b o e)⟩
theorem Inv.bk(I:Inv X pins σ H s):∀b o,X.base.get? b=some o->s.heap.get? b=some o:=fun b o e=>(I.bs b o e).1
theorem Inv.mod(I:Inv X pins σ H s):Mod X.K X.mg X.base:=I.ok.mod
theorem Inv.kIn(I:Inv X pins σ H s):X.K.In s.heap:=I.ok.mod.kin.keeps I.bk
theorem Inv.lt(I:Inv X pins σ H s):X.env.locals<s.heap.objs.size:=let ⟨_,hn,_⟩:=I.loc;hn.lt
theorem Inv.sz(I:Inv X pins σ H s):X.s₀.heap.objs.size<=s.heap.objs.size:=aO I.ok.above (Nat.le_of_lt I.lt)
theorem Inv.nofs(I:Inv X pins σ H s){a:aV}(h:s.heap.objs.size<=a):a∉X.fs:=fun hb=>by
 obtain⟨_,o,ho,_⟩:=I.ok.funs.mem hb;exact absurd (aE (aU ho) (aO I.sz h)) (cW _)
theorem Inv.cne(I:Inv X pins σ H s):∀x c,X.env.cells.lookup x=some c->c≠X.env.locals:=fun x c e z=>by
 obtain⟨v,o,ho,hd⟩:=I.cell x c e;obtain⟨m,⟨o',es,ep,ho',hd',_⟩,_⟩:=I.loc;grind
theorem Inv.funs(I:Inv X pins σ H s):s.heap.FunFrames X.base X.outer:=by
 have all:∀(l:List Env),(∀b∈frs l,b∈X.fs)->X.s₀.heap.FunFrames X.base l->s.heap.FunFrames X.base l:=by
  intro l;induction l with
  |nil=>intro _ _;trivial
  | cons env r ih=>
    intro hs hl;obtain⟨hk,⟨L,o,hf,hn,ho,hd⟩,hr⟩:=hl;have hL:L∈X.fs:=hs L (by unfold frs;rw[cG,hf];exact cH);obtain⟨sl,e⟩:=I.base.slot L o ho (I.ok.frf L hL) hL fun z=>I.ok.exfs L z hL
    exact⟨hk,⟨L,_,hf,hn,e,hd⟩,ih (fun b hb=>hs b (by unfold frs;rw[cG,hf];exact aC _ hb)) hr⟩
 exact all X.outer (fun _ hb=>hb) I.ok.funs
theorem Inv.stack(I:Inv X pins σ H s):s.heap.FunFrames X.base X.stack:=by
 rcases I.ok.stk with e|⟨e,hf⟩
 ·rw[e];exact I.funs
 ·rw [e];obtain⟨m,hn,_⟩:=I.loc;refine .cons (by rw[I.ok.kind];decide) hf hn ?_ I.funs;exact Heap.get?_none_of_le (aO I.ok.bsz I.ok.above)
theorem Inv.stkSub(I:Inv X pins σ H s):∀b∈frs X.stack,b∈X.env.locals::X.fs:=fun b hb=>by
 rcases I.ok.stk with e|⟨e,hf⟩
 ·grind
 ·rw [e] at hb;unfold frs at hb;rw[cG,hf]at hb;exact hb
theorem Inv.stkFree(I:Inv X pins σ H s):∀b∈frs X.stack,H b=none:=fun b hb=>by
 rcases aA.mp (I.stkSub b hb) with e|hb
 ·rw[e];exact I.free
 ·obtain⟨_,o,ho,_⟩:=I.ok.funs.mem hb;exact I.base.free b o ho (I.ok.frf b hb) fun z=>I.ok.exfs b z hb
theorem Inv.step(I:Inv X pins σ H s)(hch:∀b∈ch,(b∈X.ex\/X.s₀.heap.objs.size<=b)/\b≠X.env.locals/\(∀x c,X.env.cells.lookup x=some c->c≠b)/\∀p∈X.pn ++ pins,p.1≠b)(keep:∀b o,b≠X.env.locals->b∉X.fs->b∉ch->s.heap.get? b=some o->H b=none->h'.get? b=some o)(slot:∀b o,b≠X.env.locals->b∈X.fs->b∉ch->s.heap.get? b=some o->H b=none->∃sl,h'.get? b=some {o with slots:=sl})(free:∀b o,b∉ch->s.heap.get? b=some o->H b=none->H' b=none)(there:∀b o,b∉ch->s.heap.get? b=some o->∃o',h'.get? b=some o')(tups:∀b xs,H b=some (.tup xs)->H' b=some (.tup xs))(frzs:∀b o u,H b=some (.frz o u)->H' b=some (.frz o u))(tbls:∀b ps,H b=some (.tbl ps)->∃more,H' b=some (.tbl (ps ++ more)))(ns:∀m,s.heap.Ns X.env.locals m->h'.Ns X.env.locals m)(hok:HOk X.prog X.w H' h')(hg:AllBare g'):
  Inv X pins σ H' {s with heap:=h',gens:=g',drawn:=d',toks:=t' }:=by
 have neL:∀b o,X.s₀.heap.get? b=some o->b≠X.env.locals:=fun b o e=>bJ (aE (aU e) I.ok.above)
 have neC:∀b o,X.s₀.heap.get? b=some o->b∉X.ex->b∉ch:=fun b o e hx hb=>by
  rcases(hch b hb).1 with z|z
  ·exact hx z
  ·exact absurd (aE (aU e) z) (cW _)
 have cellK:∀x c,X.env.cells.lookup x=some c->∀v,s.heap.IsCell c v->h'.IsCell c v:=fun x c e v ⟨o,ho,hd⟩=>by
  have nch:c∉ch:=fun z=>(hch c z).2.2.1 x c e rfl
  by_cases hc:c∈X.fs
  ·obtain⟨sl,q⟩:=slot c o (I.cne x c e) hc nch ho (I.freeC x c e);exact⟨_,q,hd⟩
  ·exact⟨o,keep c o (I.cne x c e) hc nch ho (I.freeC x c e),hd⟩
 refine⟨I.ok,I.os,hg,⟨fun b o e n hb hx=>?_,fun b o e n hb hx=>?_,fun b o e n hx=>?_,fun b o e hx=>?_,fun b xs e=>tups b xs (I.base.tups b xs e),fun b o xs e=>frzs b o xs (I.base.frzs b o xs e),fun b ps e=>?_⟩,?_,fun x c e=>?_,?_,fun x c e=>?_,fun p hp=>?_,hok,I.len⟩
 ·exact keep b o (neL b o e) hb (neC b o e hx) (I.base.keep b o e n hb hx) (I.base.free b o e n hx)
 ·obtain⟨sl,e1⟩:=I.base.slot b o e n hb hx;obtain⟨sl',e2⟩:=slot b _ (neL b o e) hb (neC b o e hx) e1 (I.base.free b o e n hx);exact⟨sl',e2⟩
 ·obtain⟨o',e1⟩:=I.base.there b o e hx;exact free b o' (neC b o e hx) e1 (I.base.free b o e n hx)
 ·obtain⟨o',e1⟩:=I.base.there b o e hx;exact there b o' (neC b o e hx) e1
 ·obtain⟨m1,e1⟩:=I.base.tbls b ps e;obtain⟨m2,e2⟩:=tbls b _ e1;exact⟨m1 ++ m2,by rw[e2,Array.append_assoc]⟩
 ·obtain⟨m,hn,hl⟩:=I.loc;refine⟨m,ns m hn,fun i x v e1 e2 e3=>?_⟩;obtain⟨u,r,l⟩:=hl i x v e1 e2 e3;refine⟨u,r,?_⟩;rcases l with l|⟨k,c,e,z⟩
  ·exact .inl l
  ·exact .inr ⟨k,c,e,cellK x c e _ z⟩
 ·obtain⟨v,z⟩:=I.cell x c e;exact⟨v,cellK x c e v z⟩
 ·obtain⟨m,⟨o,_,_,ho,_⟩,_⟩:=I.loc;exact free _ o (fun z=>(hch _ z).2.1 rfl) ho I.free
 ·obtain⟨v,o,ho,hd⟩:=I.cell x c e;exact free c o (fun z=>(hch c z).2.2.1 x c e rfl) ho (I.freeC x c e)
 ·obtain⟨e,n,ne,nf,d⟩:=I.pin p hp;have nch:p.1∉ch:=fun z=>(hch p.1 z).2.2.2 p hp rfl
  exact⟨keep p.1 p.2 ne nf nch e n,free p.1 p.2 nch e n,ne,nf,d⟩
theorem Inv.un(I:Inv X pins σ H s)(u:Un X.fs [] H H' s.heap h')(hok:HOk X.prog X.w H' h'):Inv X pins σ H' {s with heap:=h',toks:=t' }:=by
 obtain⟨m,⟨o,es,ep,ho,r⟩,_⟩:=id I.loc;obtain⟨sl,hL⟩:=u.any ho I.free (by simp);exact I.step (g' :=s.gens) (d' :=s.drawn) (ch:=[]) (fun _ z=>nomatch z) (fun b o _ hb _ e n=>u.keep b o e n hb (by simp)) (fun b o _ hb _ e n=>u.slot b o e n hb (by simp)) (fun b o _ e n=>u.free b o e n (by simp)) (fun b o _ e=>u.there b o e (by simp)) u.tups u.frzs u.tbls (fun m' hm=>by
  obtain⟨o',es',ep',ho',r'⟩:=hm;rw[ho]at ho';cases ho';exact⟨_,es',ep',hL,r'⟩) hok I.bare
theorem Inv.call(I:Inv X pins σ H s)(u:Un (frs X.stack) ch H H' s.heap h')(hok:HOk X.prog X.w H' h')(hg:AllBare g')(hch:∀b∈ch,(b∈X.ex\/X.s₀.heap.objs.size<=b)/\b≠X.env.locals/\(∀x c,X.env.cells.lookup x=some c->c≠b)/\∀p∈X.pn ++ pins,p.1≠b):
  Inv X pins σ H' {s with heap:=h',gens:=g',drawn:=d',toks:=t' }:=by
 obtain⟨m,⟨o,es,ep,ho,r⟩,_⟩:=id I.loc;obtain⟨sl,hL⟩:=u.any ho I.free fun z=>(hch _ z).2.1 rfl
 exact I.step (ch:=ch) hch (fun b o hL hb hc e n=>u.keep b o e n (fun z=>(aA.mp (I.stkSub b z)).elim hL hb) hc) (fun b o _ _ hc e n=>u.any e n hc) (fun b o hc e n=>u.free b o e n hc) (fun b o hc e=>u.there b o e hc) u.tups u.frzs u.tbls (fun m' hm=>by
  obtain⟨o',es',ep',ho',r'⟩:=hm;rw[ho]at ho';cases ho';exact⟨_,es',ep',hL,r'⟩) hok hg
theorem Inv.turned(I:Inv X pins σ H s)(k:∀b o,b≠it->s.heap.get? b=some o->h'.get? b=some o)(hn:H it=none)(hL:it≠X.env.locals)(h1:it∈X.ex\/X.s₀.heap.objs.size<=it)(h2:∀x c,X.env.cells.lookup x=some c->c≠it)(h3:∀p∈X.pn ++ pins,p.1≠it):Inv X pins σ H {s with heap:=h',toks:=t' }:=by
 have nit:∀b u,H b=some u->b≠it:=fun b u e z=>by rw[z,hn]at e;cases e
 refine I.step (g' :=s.gens) (d' :=s.drawn) (ch:=[it]) (fun b hb=>?_) (fun b o _ _ hc e _=>k b o (fun z=>hc (by simp[z])) e) (fun b o _ _ hc e _=>⟨o.slots,k b o (fun z=>hc (by simp[z])) e⟩) (fun _ _ _ _ n=>n)
  (fun b o hc e=>⟨o,k b o (fun z=>hc (by simp[z])) e⟩) (fun _ _ e=>e) (fun _ _ _ e=>e) (fun b ps e=>⟨#[],by rw[e];simp⟩) (fun m hm=>?_) (fun b u e=>?_) I.bare
 ·have e:b=it:=by simpa using hb
  subst e;exact⟨h1,hL,h2,h3⟩
 ·obtain⟨o,es,ep,ho,r⟩:=hm;exact⟨o,es,ep,k _ o (Ne.symm hL) ho,r⟩
 ·refine(I.hok b u e).stay (fun c v hc q=>k c v ?_ q) (fun _ q=>q) fun _ _ q=>q
  rcases hc with z|z
  ·rw[z];exact nit b u e
  ·exact nit c _ z
theorem Inv.tok(I:Inv X pins σ H s)(t:Nat):Inv X pins σ H {s with toks:=t}:=I.un (h' :=s.heap) (t' :=t) Un.refl I.hok
theorem Inv.kept(I:Inv X pins σ H s)(k:∀b u,s.heap.get? b=some u->h'.get? b=some u):Inv X pins σ H {s with heap:=h',toks:=t' }:=I.un (Un.kept k) (I.hok.kept k)
theorem Inv.laid{a:aV}{o:HO}(I:Inv X pins σ H s)(k:∀b u,s.heap.get? b=some u->h'.get? b=some u)(hp:s.heap.objs.size<=a)(new:zD X.prog X.w (upd H a o) h' a o):
  Inv X pins σ (upd H a o) {s with heap:=h',toks:=t' }:=I.un (Un.laid k hp (I.hok.fresh hp)) (I.hok.laid k hp new)
theorem Inv.write{x e:aV}{o:HO}(I:Inv X pins σ H s)(mu:Mut (H x))(he:e=x\/H e=some (.own x))(k:∀b u,b≠e->s.heap.get? b=some u->h'.get? b=some u)(heo:∃u,h'.get? e=some u)(new:zD X.prog X.w (upd H x o) h' x o):Inv X pins σ (upd H x o) {s with heap:=h',toks:=t' }:=I.un (Un.write mu he k heo) (I.hok.write mu he k heo new)
theorem Inv.pins_of{pins' :List (aV×Obj)}(I:Inv X pins σ H s)(h:∀p∈pins',s.heap.get? p.1=some p.2/\H p.1=none/\p.1≠X.env.locals/\p.1∉X.fs/\∀v,p.2.data≠ .cell v):Inv X pins' σ H s:=
 ⟨I.ok,I.os,I.bare,I.base,I.loc,I.cell,I.free,I.freeC,fun p hp=>(cT.mp hp).elim (fun z=>I.pin p (List.mem_append_left _ z)) (h p),I.hok,I.len⟩
theorem qX6(hN:N.Nodup){x:Str}(a:N[i]?=some x)(b:N[j]?=some x):i=j:=by
 obtain⟨h1,e1⟩:=aH.mp a;obtain⟨h2,e2⟩:=aH.mp b;exact(List.getElem_inj hN).mp (e1.trans e2.symm)
theorem vXv{E:Value->aJ->Prop}{x:Str}{v:V}{u:Value}{Q:Unit->aJ->Prop}(I:Inv X pins σ H s)(hN:X.N.Nodup)(hi:X.N[i]?=some x)(hx:Loc X.env.scope x)(r:RelV v u)(h:∀s',Inv X pins (σ.set i (some v)) H s' ->(∃a,dI a s.heap s'.heap/\(a=X.env.locals\/X.env.cells.lookup x=some a))->Q () s')(hf:X.fn x=true\/X.env.scope.names.lookup x=some .local :=by first|exact .inl rfl|exact .inr rfl|assumption):aI M A (storeName X.env x u) Q E s:=by
 obtain⟨m,hn,hl⟩:=id I.loc;have hcls:(X.env.scope.kind ==.class || (X.env.scope.kind ==.module && X.env.locals != X.env.globals))=false:=by rw[I.ok.kind];rfl
 have hiσ:i < σ.length:=by rw[I.len];exact(aH.mp hi).1
 have cne:=I.cne;have tracked:∀{a:aV} {h' :Heap},(∃o,s.heap.get? a=some o/\H a=none)->dI a s.heap h' ->HOk X.prog X.w H h' :=fun {a h'} ha hs b ob e=>by
  obtain⟨_,_,hfree⟩:=ha;refine(I.hok b ob e).stay (fun c w' hc q=>(hs.2 c ?_).trans q) (fun _ q=>q) fun _ _ q=>q
  rintro rfl;rcases hc with rfl|hc
  ·rw[hfree]at e;cases e
  ·rw[hfree]at hc;cases hc
 rcases hx with hk|hk
 ·refine wpAny_storeName_local hk hn (fun h' hn' hs=>?_) hcls;obtain⟨oL,_,_,hoL,_⟩:=id hn;refine h _ ⟨I.ok,I.os,I.bare,⟨fun b o e n hb hx=>?_,fun b o e n hb hx=>?_,I.base.free,fun b o e hx=>?_,I.base.tups,I.base.frzs,I.base.tbls⟩,⟨_,hn',fun j y v' e1 e2 e3=>?_⟩,fun y c e=>?_,I.free,I.freeC,fun p hp=>?_,tracked ⟨oL,hoL,I.free⟩ hs,by simpa using I.len⟩ ⟨_,hs,.inl rfl⟩
  ·exact(hs.2 b (bJ (aE (aU e) I.ok.above))).trans (I.base.keep b o e n hb hx)
  ·obtain⟨sl,e1⟩:=I.base.slot b o e n hb hx;exact⟨sl,(hs.2 b (bJ (aE (aU e) I.ok.above))).trans e1⟩
  ·obtain⟨o',e1⟩:=I.base.there b o e hx;exact⟨o',(hs.2 b (bJ (aE (aU e) I.ok.above))).trans e1⟩
  ·by_cases hj:j=i
   ·subst hj;rw[hi]at e1;cases e1;rw[List.getElem?_set_self hiσ]at e2;cases e2;exact⟨u,r,.inl ⟨hk,by simp⟩⟩
   ·rw [bK (Ne.symm hj)] at e2;obtain⟨u',r',q⟩:=hl j y v' e1 e2 e3;refine⟨u',r',?_⟩;rcases q with⟨k,e⟩|⟨k,c,e,z⟩
    ·refine .inl ⟨k,?_⟩;have:y≠x:=fun e=>hj (qX6 hN e1 (e▸hi))
     simp[this,e]
    ·exact .inr ⟨k,c,e,z.sameBut hs (cne y c e)⟩
  ·obtain⟨w',z⟩:=I.cell y c e;exact⟨w',z.sameBut hs (cne y c e)⟩
  ·obtain⟨e,n,ne,nf,d⟩:=I.pin p hp;exact⟨(hs.2 p.1 ne).trans e,n,ne,nf,d⟩
 ·have hfn:X.fn x=true:=by
   rcases hf with z|z
   ·exact z
   ·rw[z]at hk;cases hk
  obtain⟨c,hc⟩:=I.ok.has x (.inl hk);obtain⟨w',z⟩:=I.cell x c hc;refine wpAny_storeName_cell I.ok.kind hk hc z (fun h' hc' hs=>?_);obtain⟨oc,hoc,hocd⟩:=id z;refine h {s with heap:=h' } ⟨I.ok,I.os,I.bare,⟨fun b o e n hb hx=>?_,fun b o e n hb hx=>?_,I.base.free,fun b o e hx=>?_,I.base.tups,I.base.frzs,I.base.tbls⟩,⟨m,hn.sameBut hs (Ne.symm (cne x c hc)),fun j y v' e1 e2 e3=>?_⟩,fun y c' e=>?_,I.free,I.freeC,fun p hp=>?_,tracked ⟨oc,hoc,I.freeC x c hc⟩ hs,by simpa using I.len⟩ ⟨c,hs,.inr hc⟩
  ·exact(hs.2 b (bJ (aE (aU e) (I.ok.cab x c hfn hc)))).trans (I.base.keep b o e n hb hx)
  ·obtain⟨sl,e1⟩:=I.base.slot b o e n hb hx;exact⟨sl,(hs.2 b (bJ (aE (aU e) (I.ok.cab x c hfn hc)))).trans e1⟩
  ·obtain⟨o',e1⟩:=I.base.there b o e hx;exact⟨o',(hs.2 b (bJ (aE (aU e) (I.ok.cab x c hfn hc)))).trans e1⟩
  ·by_cases hj:j=i
   ·subst hj;rw[hi]at e1;cases e1;rw[List.getElem?_set_self hiσ]at e2;cases e2;exact⟨u,r,.inr ⟨.inl hk,c,hc,hc'⟩⟩
   ·rw [bK (Ne.symm hj)] at e2;obtain⟨u',r',q⟩:=hl j y v' e1 e2 e3;refine⟨u',r',?_⟩;rcases q with q|⟨k,c',e,z'⟩
    ·exact .inl q
    ·refine .inr ⟨k,c',e,z'.sameBut hs ?_⟩;rintro rfl;exact hj (qX6 hN e1 (I.ok.inj _ _ _ e hc▸hi))
  ·by_cases hcc:c' =c
   ·subst hcc;exact⟨_,hc'⟩
   ·obtain⟨w2,z2⟩:=I.cell y c' e;exact⟨w2,z2.sameBut hs hcc⟩
  ·obtain⟨e,n,ne,nf,d⟩:=I.pin p hp;refine⟨(hs.2 p.1 ?_).trans e,n,ne,nf,d⟩;intro q;rw[q,hoc]at e;have q' :oc=p.2:=Option.some.inj e;exact d w' (by rw[←q'];exact hocd)
theorem qV5{E:Value->aJ->Prop}{x:Str}{v:V}{u:Value}{Q:Unit->aJ->Prop}(I:Inv X pins σ H s)(hN:X.N.Nodup)(hi:X.N[i]?=some x)(hx:Loc X.env.scope x)(r:RelV v u)(h:∀s',Inv X pins (σ.set i (some v)) H s' ->Q () s')(hf:X.fn x=true\/X.env.scope.names.lookup x=some .local :=by first|exact .inl rfl|exact .inr rfl|assumption):aI M A (storeName X.env x u) Q E s:=
 vXv I hN hi hx r (fun s' I' _=>h s' I') hf
theorem Inv.call'{s' :aJ}(I:Inv X pins σ H s)(ho:s'.os=s.os)(u:Un (frs X.stack) ch H H' s.heap s'.heap)(hok:HOk X.prog X.w H' s'.heap)(hg:AllBare s'.gens)(hch:∀b∈ch,(b∈X.ex\/X.s₀.heap.objs.size<=b)/\b≠X.env.locals/\(∀x c,X.env.cells.lookup x=some c->c≠b)/\∀p∈X.pn ++ pins,p.1≠b):Inv X pins σ H' s' :=by
 obtain⟨h',g',d',t',o'⟩:=s';have e:o' =s.os:=ho;subst e;exact I.call (g' :=g') (t' :=t') (d' :=d') u hok hg hch
end
noncomputable abbrev XK:=Value->Option aV->Hp->Prop
noncomputable abbrev St:=List (Option V)
noncomputable abbrev VK:=V->Hp->Prop
noncomputable abbrev TE:=St->Hp->VK->Prop
noncomputable abbrev TT:=St->Hp->(Bool->Hp->Prop)->Prop
noncomputable abbrev TA:=St->Hp->(List V->Hp->Prop)->Prop
structure Ends where
 nx:St->Hp->Prop
 rt:VK
 bk:St->Hp->Prop:=fun _ _=>False
 ct:St->Hp->Prop:=fun _ _=>False
noncomputable abbrev TS:=Ends->St->Hp->Prop
noncomputable def EP(X:Cx)(pins:List (aV×Obj))(σ:St)(Q:VK)(u:Value)(s' :aJ):Prop:=∃v H',Inv X pins σ H' s' /\RelV v u/\Q v H'
noncomputable def TP(X:Cx)(pins:List (aV×Obj))(σ:St)(Q:Bool->Hp->Prop)(b:Bool)(s' :aJ):Prop:=∃H',Inv X pins σ H' s' /\Q b H'
noncomputable def AP(X:Cx)(pins:List (aV×Obj))(σ:St)(Q:List V->Hp->Prop)(us:List Value)(s' :aJ):Prop:=∃vs H',Inv X pins σ H' s' /\Vals vs us/\Q vs H'
noncomputable def SP(X:Cx)(pins:List (aV×Obj))(D:Ends)(f:Flow)(s' :aJ):Prop:=
 match f with
 |.next =>∃σ' H',Inv X pins σ' H' s' /\D.nx σ' H'
 |.brk =>∃σ' H',Inv X pins σ' H' s' /\D.bk σ' H'
 |.cont =>∃σ' H',Inv X pins σ' H' s' /\D.ct σ' H'
 |.ret u=>∃v σ' H',Inv X pins σ' H' s' /\RelV v u/\D.rt v H'
noncomputable def PE(X:Cx)(e:Expr)(t:TE):Prop:=
 ∀(pins:List (aV×Obj)) (s:aJ) (σ:St) (H:Hp) (Q:VK),Inv X pins σ H s->t σ H Q->aI (model X.prog X.w) X.A (eval e X.env) (EP X pins σ Q) X.xe s
noncomputable def PT(X:Cx)(e:Expr)(t:TT):Prop:=
 ∀(pins:List (aV×Obj)) (s:aJ) (σ:St) (H:Hp) (Q:Bool->Hp->Prop),Inv X pins σ H s->t σ H Q->aI (model X.prog X.w) X.A (isTrue e X.env (eval e X.env)) (TP X pins σ Q) X.xe s
noncomputable def PW(X:Cx)(e:Expr)(t:TT):Prop:=
 ∀(whole:Sem Value) (pins:List (aV×Obj)) (s:aJ) (σ:St) (H:Hp) (Q:Bool->Hp->Prop),Inv X pins σ H s->t σ H Q->aI (model X.prog X.w) X.A (isTrue e X.env whole) (TP X pins σ Q) X.xe s
theorem PW.pt{e:Expr}{t:TT}(h:PW X e t):PT X e t:=h _
noncomputable def PA(X:Cx)(es:List Expr)(t:TA):Prop:=
 ∀(pos:Pos) (pins:List (aV×Obj)) (s:aJ) (σ:St) (H:Hp) (Q:List V->Hp->Prop),Inv X pins σ H s->t σ H Q->aI (model X.prog X.w) X.A (spliced (bI pos (aX es X.env))) (AP X pins σ Q) X.xe s
noncomputable def PS(X:Cx)(st:Stmt)(t:TS):Prop:=
 ∀(pins:List (aV×Obj)) (s:aJ) (σ:St) (H:Hp) (D:Ends),Inv X pins σ H s->t D σ H->aI (model X.prog X.w) X.A (exec st X.env) (SP X pins D) X.xe s
noncomputable def PSs(X:Cx)(st:List Stmt)(t:TS):Prop:=
 ∀(pins:List (aV×Obj)) (s:aJ) (σ:St) (H:Hp) (D:Ends),Inv X pins σ H s->t D σ H->aI (model X.prog X.w) X.A (execs st X.env) (SP X pins D) X.xe s
theorem thn{t:Sem α}{Q Q' :α->aJ->Prop}{E:Value->aJ->Prop}{s:aJ}(h:aI M A t Q E s)(hQ:∀a s,Q a s->Q' a s):aI M A t Q' E s:=bU h hQ fun _ _ x=>x
section
variable{X:Cx}
noncomputable def tVar(i:Nat):TE:=fun σ H Q=>∃v,σ[i]?=some (some v)/\Q v H
noncomputable def tC(v:V):TE:=fun _ H Q=>Q v H
theorem zYp{x:Str}{pos:Pos}(hN:X.N[i]?=some x)(hv:Vis X.env.scope x)(hd:(x == ("__debug__":Str))=false:=by decide)(hcd:(x == ("__classdict__":Str))=false:=by decide):PE X (.Name x pos) (tVar i):=by
 intro pins s σ H Q I h;obtain⟨v,e,h⟩:=h;obtain⟨m,hn,hl⟩:=I.loc;obtain⟨u,r,l⟩:=hl i x v hN e hv;have fin:EP X pins σ Q u s:=⟨v,H,I,r,h⟩
 rcases l with⟨hk,hm⟩|⟨hk,c,hc,hcell⟩
 ·exact wpAny_Name (wpAny_loadName_local I.ok.kind hk hn hm fin) hd
 ·rcases hk with hk | hk
  ·exact wpAny_Name (wpAny_loadName_cell I.ok.kind hk hc hcell fin) hd
  ·exact wpAny_Name (wpAny_loadName_free I.ok.kind hk hc hcell fin hcd) hd
theorem zYv{i j pos}:PE X (.Constant (.int i) j pos) (tC (.int i)):=fun _ _ _ H _ I h=>wpAny_Constant_int ⟨.int i,H,I.tok _,⟨_,rfl⟩,h⟩
theorem jQo{b j pos}:PE X (.Constant (.bool b) j pos) (tC (.bl b)):=fun _ _ _ H _ I h=>Constant_bool ⟨.bl b,H,I,rfl,h⟩
theorem zYt{j pos}:PE X (.Constant .none j pos) (tC .non):=fun _ _ _ H _ I h=>Constant_none ⟨.non,H,I,rfl,h⟩
theorem zYr{x j pos}:PE X (.Constant (.str x) j pos) (tC (.str x)):=fun _ _ _ H _ I h=>Calls.Constant_str ⟨.str x,H,I.tok _,⟨_,rfl⟩,h⟩
noncomputable def Gl(X:Cx)(x:Str):Prop:=X.env.kindOf x=some .globalImplicit
theorem qQo{E:Value->aJ->Prop}{s:aJ}{σ:St}{x:Str}{u:Value}{pos:Pos}(I:Inv X pins σ H s)(hg:Gl X x)(hm:X.mg x=some u)(h:Q u s)(hd:(x == ("__debug__":Str))=false:=by decide):aI (model X.prog X.w) X.A (eval (.Name x pos) X.env) Q E s:=
 Calls.Name_function_global I.ok.kind hg (Calls.loadGlobal_global (by rw[I.ok.glob];exact I.mod.glob.keeps I.bk) hm h) hd
theorem qZ7{E:Value->aJ->Prop}{s:aJ}{σ:St}{x:Str}{u:Value}{pos:Pos}(I:Inv X pins σ H s)(hg:Gl X x)(hm:X.mg x=none)(hv:cI x=some u)(h:Q u s)(hn:x≠"__name__":=by decide)(hd:(x == ("__debug__":Str))=false:=by decide):aI (model X.prog X.w) X.A (eval (.Name x pos) X.env) Q E s:=by
 obtain⟨mb,h1,h2⟩:=I.mod.blt;exact Calls.Name_function_global I.ok.kind hg (Calls.loadGlobal_builtin (by rw[I.ok.glob];exact I.mod.glob.keeps I.bk) hm (by rw[I.ok.blt];exact h1.keeps I.bk) ((h2 x hn).trans hv) h) hd
theorem xQ{x:Str}{v:V}{u:Value}{pos:Pos}(hg:Gl X x)(hm:X.mg x=some u)(r:RelV v u)(hd:(x == ("__debug__":Str))=false:=by decide):PE X (.Name x pos) (tC v):=
 fun _ _ _ H _ I h=>qQo I hg hm ⟨v,H,I,r,h⟩ hd
theorem zJu{x:Str}{v:V}{u:Value}{pos:Pos}(hg:Gl X x)(hm:X.mg x=none)(hv:cI x=some u)(r:RelV v u)(hn:x≠"__name__":=by decide)(hd:(x == ("__debug__":Str))=false:=by decide):PE X (.Name x pos) (tC v):=
 fun _ _ _ H _ I h=>qZ7 I hg hm hv ⟨v,H,I,r,h⟩ hn hd
variable{a b:Expr}{ta tb:TE}{pos:Pos}
noncomputable def tB(t:TE):TT:=fun σ H Q=>t σ H fun x H1=>∃c,x=.bl c/\Q c H1
theorem zYb{e:Expr}{t:TE}(h:PE X e t)(he:∀whole,isTrue e X.env whole=(do let v ←whole;standAt e.pos;holding [v] (truthy v)):=by intro _;rfl):PT X e (tB t):=by
 intro pins s σ H Q I hw;refine isTrue_plain (thn (h pins s σ H _ I hw) fun v s1 ⟨x,H1,I1,r1,q1⟩=>?_) (he _);obtain⟨d,rfl,q⟩:=q1;cases r1;exact wpAny_truthy_bool ⟨H1,I1,q⟩
variable{tA tB' :TT}{rest:List Expr}
noncomputable def tAnd(t u:TT):TT:=fun σ H Q=>t σ H fun c H1=>if c=true then u σ H1 Q else Q false H1
noncomputable def tOr(t u:TT):TT:=fun σ H Q=>t σ H fun c H1=>if c=true then Q true H1 else u σ H1 Q
noncomputable def tNot(t:TT):TT:=fun σ H Q=>t σ H fun c H1=>Q (!c) H1
theorem zZ7(ha:PT X a tA):PW X (.BoolOp .And [a] pos) tA:=by
 intro wh pins s σ H Q I h;refine isTrue_and (thn (ha pins s σ H Q I h) fun c s1 e=>?_);cases c with
 |true=>exact isTrue_and_nil e
 |false=>exact e
theorem zX9(ha:PT X a tA):PW X (.BoolOp .Or [a] pos) tA:=by
 intro wh pins s σ H Q I h;refine isTrue_or (thn (ha pins s σ H Q I h) fun c s1 e=>?_);cases c with
 |false=>exact isTrue_or_nil e
 |true=>exact e
theorem zYa(ha:PT X a tA)(hb:PW X (.BoolOp .And (b::rest) pos) tB'):PW X (.BoolOp .And (a::b::rest) pos) (tAnd tA tB'):=by
 intro wh pins s σ H Q I h;refine isTrue_and (thn (ha pins s σ H _ I h) fun c s1 ⟨H1,I1,q1⟩=>?_);cases c with
 |true=>exact hb wh pins s1 σ H1 Q I1 q1
 |false=>exact⟨H1,I1,q1⟩
theorem jQh(ha:PT X a tA)(hb:PW X (.BoolOp .Or (b::rest) pos) tB'):PW X (.BoolOp .Or (a::b::rest) pos) (tOr tA tB'):=by
 intro wh pins s σ H Q I h;refine isTrue_or (thn (ha pins s σ H _ I h) fun c s1 ⟨H1,I1,q1⟩=>?_);cases c with
 |true=>exact⟨H1,I1,q1⟩
 |false=>exact hb wh pins s1 σ H1 Q I1 q1
theorem zYc(ha:PT X a tA):PT X (.UnaryOp .Not a pos) (tNot tA):=by
 intro pins s σ H Q I h;exact isTrue_not (ha pins s σ H (fun c H1=>Q (!c) H1) I h)
noncomputable def tOrV(ta tb:TE):TE:=fun σ H Q=>ta σ H fun x H1=>∃c,x=.bl c/\if c=true then Q (.bl true) H1 else tb σ H1 Q
theorem zYs{op}{t:TE}(h:PE X a t):PE X (.BoolOp op [a] pos) t:=fun pins s σ H Q I hw=>BoolOp_one (h pins s σ H Q I hw)
theorem jQm(ha:PE X a ta)(hb:PE X (.BoolOp .Or (b::rest) pos) tb):PE X (.BoolOp .Or (a::b::rest) pos) (tOrV ta tb):=by
 intro pins s σ H Q I h;refine BoolOp_or (thn (ha pins s σ H _ I h) fun v s1 ⟨x,H1,I1,r1,q1⟩=>?_);obtain⟨c,rfl,q1⟩:=q1;cases r1;refine wpAny_truthy_bool ?_
 cases c with
 |false=>exact hb pins s1 σ H1 Q I1 q1
 |true=>exact⟨.bl true,H1,I1,rfl,q1⟩
end
noncomputable def SqL(K:aQ)(H:Hp)(a:aV)(xs:List V):Prop:=
 Rd H a (.lst xs)\/
  ∃(o:Obj) (its:Array Value) (n:Nat),K.lookup a=some o/\o.cls=.type "list"/\o.dict=none/\o.data=.seq its n/\its.size<=aR/\Vals xs its.toList
noncomputable def SqT(K:aQ)(H:Hp)(a:aV)(xs:List V):Prop:=
 Rd H a (.tup xs)\/
  ∃(o:Obj) (its:Array Value) (n:Nat),K.lookup a=some o/\o.cls=.type "tuple"/\o.data=.seq its n/\its.size<=aR/\Vals xs its.toList
noncomputable def absV:Value->Option V
 |.none =>some .non
 |.bool b=>some (.bl b)
 |.int i _=>some (.int i)
 |.str x _=>some (.str x)
 |.bytes b _=>some (.byt b)
 |.float b _=>some (.flt b)
 |.ref a=>some (.ref a)
 |.type n=>some (.ty n)
 |_=>none
theorem RelV.abs{x:V}{u:Value}(r:RelV x u):absV u=some x:=by
 cases x with
 |non=>cases r;rfl
 |bl _=>cases r;rfl
 |int _=>obtain⟨t,rfl⟩:=r;rfl
 |str _=>obtain⟨t,rfl⟩:=r;rfl
 |byt _=>obtain⟨t,rfl⟩:=r;rfl
 |flt _=>obtain⟨t,rfl⟩:=r;rfl
 |ref _=>cases r;rfl
 |ty _=>cases r;rfl
theorem RelV.inj{x:V}{u:Value}(r:RelV x u)(q:RelV y u):x=y:=Option.some.inj (r.abs.symm.trans q.abs)
theorem Vals.inj:∀{xs ys:List V} {us:List Value},Vals xs us->Vals ys us->xs=ys
 |_,_,_,.nil,.nil =>rfl
 |_,_,_,.cons r t,.cons r' t' =>by rw[r.inj r',Vals.inj t t']
section
variable{X:Cx}{pins:List (aV×Obj)}{σ:St}{H:Hp}{s:aJ}{a:aV}{xs ys:List V}
theorem SqL.of(h:H a=some (.lst xs)):SqL K H a xs:=.inl (.inl h)
theorem SqT.of(h:H a=some (.tup xs)):SqT K H a xs:=.inl (.inl h)
theorem Inv.list(I:Inv X pins σ H s)(h:SqL X.K H a xs):∃its:List Value,Vals xs its/\PlainL s.heap a its.toArray/\xs.length<=aR:=by
 rcases h with h|⟨o,its,n,hk,hc,hd,hs,hz,r⟩
 ·obtain⟨z,its,n,r,e⟩:=h.ok I.hok;exact⟨its,r,⟨_,n,e,rfl,rfl,rfl⟩,z⟩
 ·refine⟨its.toList,r,⟨o,n,I.kIn a o hk,hc,hd,by simpa using hs⟩,?_⟩;have e:=r.length;grind
theorem Inv.tuple(I:Inv X pins σ H s)(h:SqT X.K H a xs):∃its:List Value,Vals xs its/\IsTup s.heap a its.toArray/\xs.length<=aR:=by
 rcases h with h|⟨o,its,n,hk,hc,hs,hz,r⟩
 ·obtain⟨z,its,r,p⟩:=h.ok I.hok;grind
 ·refine⟨its.toList,r,⟨o,I.kIn a o hk,hc,n,by simpa using hs⟩,?_⟩;have e:=r.length;grind
theorem Inv.list_inj(I:Inv X pins σ H s)(h:SqL X.K H a xs)(h' :SqL X.K H a ys):xs=ys:=by
 obtain⟨its,r,⟨o,n,e,_,_,d⟩,_⟩:=I.list h;obtain⟨its',r',⟨o',n',e',_,_,d'⟩,_⟩:=I.list h';rw[e]at e';cases e';rw[d]at d';injection d' with d1 _
 have:its=its' :=by simpa using congrArg Array.toList d1
 subst this;exact r.inj r'
theorem Inv.tuple_inj(I:Inv X pins σ H s)(h:SqT X.K H a xs)(h' :SqT X.K H a ys):xs=ys:=by
 obtain⟨its,r,⟨o,e,_,n,d⟩,_⟩:=I.tuple h;obtain⟨its',r',⟨o',e',_,n',d'⟩,_⟩:=I.tuple h';rw[e]at e';cases e';rw[d]at d';injection d' with d1 _
 have:its=its' :=by simpa using congrArg Array.toList d1
 subst this;exact r.inj r'
end
section
variable{X:Cx}{st:Stmt}{rest:List Stmt}{t u:TS}{e:Expr}{te:TE}{pos:Pos}
noncomputable def tNext:TS:=fun D σ H=>D.nx σ H
noncomputable def tSeq(t u:TS):TS:=fun D σ H=>t {D with nx:=u D} σ H
theorem vWo:PSs X [] tNext:=fun _ _ σ H _ I h=>wpAny_execs_nil ⟨σ,H,I,h⟩
theorem vVp(h1:PS X st t)(h2:PSs X rest u):PSs X (st::rest) (tSeq t u):=by
 intro pins s σ H D I h;refine wpAny_execs_cons (thn (h1 pins s σ H {D with nx:=u D} I h) fun f s1 q=>?_);cases f with
 | next=>
   obtain⟨σ',H',I',q⟩:=q;exact h2 pins s1 σ' H' D I' q
 |ret v=>exact q
 |brk=>exact q
 |cont=>exact q
theorem zJb(h1:PS X st t):PSs X [st] t:=by
 intro pins s σ H D I h;refine wpAny_execs_cons (thn (h1 pins s σ H D I h) fun f s1 q=>?_);cases f with
 |next=>exact wpAny_execs_nil q
 |ret v=>exact q
 |brk=>exact q
 |cont=>exact q
theorem Inv.quiet{σ:St}{s:aJ}(I:Inv X pins σ H s):interactive X.env=false:=by simp[interactive,I.ok.kind]
noncomputable def jQd(te:TE):TS:=fun D σ H=>te σ H fun _ H1=>D.nx σ H1
theorem zJe(he:PE X e te)(hs:swapsWith e none pos.line X.env=pure false:=by rfl):PS X (.Expr e pos) (jQd te):=by
 intro pins s σ H D I h;exact wpAny_Expr_any (thn (he pins s σ H _ I h) fun v s1 ⟨x,H1,I1,r1,q1⟩=>⟨σ,H1,I1,q1⟩) I.quiet hs
noncomputable def tRet(te:TE):TS:=fun D σ H=>te σ H D.rt
theorem zYe(he:PE X e te):PS X (.Return (some e) pos) (tRet te):=by
 intro pins s σ H D I h;exact wpAny_Return_some (thn (he pins s σ H _ I h) fun v s1 ⟨x,H1,I1,r1,q1⟩=>⟨x,σ,H1,I1,r1,q1⟩)
noncomputable def tIfS(c:TT)(t u:TS):TS:=fun D σ H=>c σ H fun b H1=>if b=true then t D σ H1 else u D σ H1
theorem jQi{a b:List Stmt}{tc:TT}(hc:PT X c tc)(ha:PSs X a t)(hb:PSs X b u):PS X (.If c a b pos) (tIfS tc t u):=by
 intro pins s σ H D I h;refine wpAny_If (thn (hc pins s σ H _ I h) fun d s1 ⟨H1,I1,q1⟩=>?_);cases d with
 |true=>exact ha pins s1 σ H1 D I1 q1
 |false=>exact hb pins s1 σ H1 D I1 q1
end
noncomputable abbrev TG:=V->St->Hp->(St->Hp->Prop)->Prop
noncomputable abbrev TGs:=List V->St->Hp->(St->Hp->Prop)->Prop
noncomputable def PG(X:Cx)(target:Expr)(t:TG):Prop:=
 ∀(pins:List (aV×Obj)) (s:aJ) (σ:St) (H:Hp) (v:V) (u:Value) (Q:St->Hp->Prop),Inv X pins σ H s->RelV v u->t v σ H Q->
  aI (model X.prog X.w) X.A (assign target X.env u) (fun _ s' =>∃σ' H',Inv X pins σ' H' s' /\Q σ' H') X.xe s
noncomputable def PGs(X:Cx)(ts:List Expr)(t:TGs):Prop:=
 ∀(pins:List (aV×Obj)) (s:aJ) (σ:St) (H:Hp) (vs:List V) (us:List Value) (Q:St->Hp->Prop),Inv X pins σ H s->Vals vs us->t vs σ H Q->
  aI (model X.prog X.w) X.A (assignInOrder ((assignEach ts X.env).map (·.2)) us) (fun _ s' =>∃σ' H',Inv X pins σ' H' s' /\Q σ' H') X.xe s
noncomputable abbrev TSet:=V->V->V->Hp->(Hp->Prop)->Prop
noncomputable def PSet(X:Cx)(t:TSet):Prop:=
 ∀(pins:List (aV×Obj)) (s:aJ) (σ:St) (H:Hp) (o i v:V) (ov iv u:Value) (Q:Hp->Prop),Inv X pins σ H s->RelV o ov->RelV i iv->RelV v u->t o i v H Q->
  aI (model X.prog X.w) X.A (setItem ov iv u) (fun _ s' =>∃H',Inv X pins σ H' s' /\Q H') X.xe s
noncomputable abbrev TIp:=V->V->Hp->VK->Prop
noncomputable def PIp(X:Cx)(op:Operator)(t:TIp):Prop:=
 ∀(pins:List (aV×Obj)) (s:aJ) (σ:St) (H:Hp) (x y:V) (v u:Value) (Q:VK),Inv X pins σ H s->RelV x v->RelV y u->t x y H Q->
  aI (model X.prog X.w) X.A (inplaceOp op v u) (EP X pins σ Q) X.xe s
section
variable{X:Cx}{pos:Pos}
noncomputable def vJ4(i:Nat):TG:=fun v σ H Q=>Q (σ.set i (some v)) H
theorem zJp{x:Str}(hN:X.N.Nodup)(hi:X.N[i]?=some x)(hx:Loc X.env.scope x)(hf:X.fn x=true\/X.env.scope.names.lookup x=some .local :=by first|exact .inl rfl|exact .inr rfl|assumption):PG X (.Name x pos) (vJ4 i):=by
 intro pins s σ H v u Q I r h;exact wpAny_assign_Name (qV5 I hN hi hx r (fun s' I' =>⟨_,H,I',h⟩) hf)
noncomputable def gNil:TGs:=fun vs σ H Q=>vs=[]/\Q σ H
noncomputable def jQ8(t:TG)(u:TGs):TGs:=fun vs σ H Q=>∃v r,vs=v::r/\t v σ H fun σ' H' =>u r σ' H' Q
theorem zJn:PGs X [] gNil:=by
 intro pins s σ H vs us Q I r h;obtain⟨e,h⟩:=h;subst e;exact assignInOrder_nil ⟨σ,H,I,h⟩
theorem zVc{e:Expr}{t:TG}{u:TGs}(h1:PG X e t)(h2:PGs X es u)(hs:(assignEach (e::es) X.env).map (·.2)=assign e X.env::(assignEach es X.env).map (·.2):=by rfl):PGs X (e::es) (jQ8 t u):=by
 intro pins s σ H vs us Q I r h;obtain⟨v,vr,e1,h⟩:=h;subst e1;cases r with
 | cons r rr=>
   rw[hs];refine assignInOrder_cons (thn (h1 pins s σ H _ _ _ I r h) fun _ s1 ⟨σ1,H1,I1,q1⟩=>?_);exact h2 pins s1 σ1 H1 _ _ Q I1 rr q1
noncomputable def gTup(K:aQ)(n:Nat)(t:TGs):TG:=fun v σ H Q=>∃a xs,v=.ref a/\SqT K H a xs/\xs.length=n/\t xs σ H Q
theorem zYn{k:Nat}{t:TGs}(hc:X.calm=true)(h:PGs X es t)(hn:(assignEach es X.env).length =n:=by rfl)(hst:(assignEach es X.env).findIdx? (·.1)=none:=by rfl):PG X (.Tuple es k pos) (gTup X.K n t):=by
 intro pins s σ H v u Q I r hw;obtain⟨a,xs,e1,hq,hl,hw⟩:=hw;subst e1;cases r;obtain⟨its,rv,ht,hz⟩:=I.tuple hq;refine assign_Tuple_tuple (I.ok.hd hc) ht (by simp[hn,←hl,rv.length]) hst fun h' hx=>?_
 have I1:Inv X pins σ H {s with heap:=h' }:=I.kept (t' :=s.toks) fun b o e=>hx b o (bJ (aU e)) e
 exact h pins _ σ H xs _ Q I1 (by simpa using rv) hw
noncomputable def gSub(to ti:TE)(t:TSet):TG:=fun v σ H Q=>to σ H fun o H1=>ti σ H1 fun i H2=>t o i v H2 fun H3=>Q σ H3
theorem zYo{o i:Expr}{to ti:TE}{t:TSet}(ho:PE X o to)(hi:PE X i ti)(hs:PSet X t)(ha:∀v,assign (.Subscript o i pos) X.env v=(do
   let ov ←holding [v] (eval o X.env);let iv ←holding [v,ov] (eval i X.env);standAt pos;holding [v,ov,iv] (setItem ov iv v);release [v,ov,iv] []):=by intro _;rfl):PG X (.Subscript o i pos) (gSub to ti t):=by
 intro pins s σ H v u Q I r h;rw[ha];refine aZ (cF (thn (ho pins s σ H _ I h) fun ov s1 ⟨x,H1,I1,r1,q1⟩=>?_));refine aZ (cF (thn (hi pins s1 σ H1 _ I1 q1) fun iv s2 ⟨y,H2,I2,r2,q2⟩=>?_));refine aZ (wpAny_standAt (aZ (cF (thn (hs pins s2 σ H2 x y v ov iv u _ I2 r1 r2 r q2) fun _ s3 ⟨H3,I3,q3⟩=>?_))));exact wpAny_release ⟨σ,H3,I3,q3⟩
noncomputable def tAsg(te:TE)(g:TG):TS:=fun D σ H=>te σ H fun x H1=>g x σ H1 D.nx
theorem vK0{e:Expr}{g:TG}(he:PE X e te)(hg:PG X tg g)(hs:swapsWithSole [tg] e pos.line X.env=pure false:=by rfl)(hw:swappedStores [tg] e X.env=pure none:=by rfl)(h1:(assignEach [tg] X.env).map (·.2)=[assign tg X.env]:=by rfl):PS X (.Assign [tg] e pos) (tAsg te g):=by
 intro pins s σ H D I h;refine wpAny_Assign_stores (thn (he pins s σ H _ I h) fun v s1 ⟨x,H1,I1,r1,q1⟩=>?_) hs hw;rw[h1];exact thn (hg pins s1 σ H1 x v _ I1 r1 q1) fun _ s2 q=>q
theorem zYd{x:Str}{e:Expr}{pos' :Pos}(hN:X.N.Nodup)(hi:X.N[i]?=some x)(hx:Loc X.env.scope x)(he:PE X e te)(hs:swapsWith e (some (.Name x pos')) pos.line X.env=pure false:=by rfl)(hf:X.fn x=true\/X.env.scope.names.lookup x=some .local :=by first|exact .inl rfl|exact .inr rfl|assumption):
  PS X (.Assign [.Name x pos'] e pos) (tAsg te (vJ4 i)):=by
 intro pins s σ H D I h;refine wpAny_Assign_Name (thn (he pins s σ H _ I h) fun v s1 ⟨y,H1,I1,r1,q1⟩=>?_) hs;exact qV5 I1 hN hi hx r1 (fun s2 I2=>⟨_,H1,I2,q1⟩) hf
noncomputable def ipI(f:Int->Int->Int):TIp:=fun x y H Q=>∃i j,x=.int i/\y=.int j/\Q (.int (f i j)) H
theorem zQb:PIp X .Add (ipI fun i j=>i+j):=by
 intro pins s σ H x y v u Q I r1 r2 h;obtain⟨i,j,e1,e2,q⟩:=h;subst e1;subst e2;obtain⟨t,rfl⟩:=r1;obtain⟨t',rfl⟩:=r2;exact iadd_int ⟨.int _,H,I.tok _,⟨_,rfl⟩,q⟩
end
section
variable{X:Cx}{pos:Pos}
noncomputable def vKs(c:TT)(tb:TS):TS:=fun D σ H=>∃W:Nat->St->Hp->Prop,(∃m,W m σ H)/\∀m σ H,W m σ H->
 c σ H fun b H1=>if b=true then∃N:St->Hp->Prop,(∀σ' H',N σ' H' ->∃m',m'<m/\W m' σ' H')/\tb {D with nx:=N,ct:=N,bk:=D.nx} σ H1 else D.nx σ H1
theorem zQ8{tc:TT}{tb:TS}(hp:PassesOwn (model X.prog X.w) X.A X.env X.xe)(hc:PT X c tc)(hb:PSs X body tb):PS X (.While c body [] pos) (vKs tc tb):=by
 intro pins s σ H D I h;obtain⟨W,⟨m0,w0⟩,turn⟩:=h;refine wpAny_While (codeAny_whileLoop (fun n s' =>∃σ' H',Inv X pins σ' H' s' /\W n σ' H') ?_ m0 ⟨σ,H,I,w0⟩);rintro n s1 ⟨σ1,H1,I1,w1⟩;refine dD hp (thn (hc pins s1 σ1 H1 _ I1 (turn n σ1 H1 w1)) fun b s2 ⟨H2,I2,q2⟩=>?_);cases b with
 | true=>
   obtain⟨N,hN,q2⟩:=q2;refine dD hp (thn (hb pins s2 σ1 H2 _ I2 q2) fun f s3 q3=>?_);cases f with
   | next=>
     obtain⟨σ3,H3,I3,n3⟩:=q3;grind
   | cont=>
     obtain⟨σ3,H3,I3,n3⟩:=q3;grind
   |brk=>exact q3
   |ret v=>exact q3
 | false=>
   exact wpAny_execs_nil ⟨σ1,H2,I2,q2⟩
end
structure It where
 go:Nat->Hp->Prop
 yld:Nat->Hp->V->Hp->Prop
 stop:Nat->Hp->Prop
noncomputable def FpOk(X:Cx)(pins:List (aV×Obj))(H:Hp)(b:aV):Prop:=
 H b=none/\b≠X.env.locals/\b∉X.fs/\(b∈X.ex\/X.s₀.heap.objs.size<=b)/\(∀x c,X.env.cells.lookup x=some c->c≠b)/\∀p∈X.pn ++ pins,p.1≠b
theorem Inv.fpOk{σ:St}{H':Hp}{s:aJ}{b:aV}(I:Inv X pins σ H s)(hb:s.heap.objs.size<=b)(hn:H' b=none):FpOk X pins H' b:=by
 refine⟨hn,Nat.ne_of_gt (aE I.lt hb),I.nofs hb,.inr (aO I.sz hb),fun x c e z=>?_,fun p hp z=>?_⟩
 ·obtain⟨v,q⟩:=I.cell x c e;exact absurd (aE q.lt (by rw[z];exact hb)) (cW _)
 ·exact absurd (aE (aU (I.pin p hp).1) (by rw[z];exact hb)) (cW _)
structure Turn(P:bV)(w:bW)(K:aQ)(tg:Expr)(J:It)(fp:List aV)(it:aV)(tn:Nat->Heap->Prop):Prop where
 mem:it∈fp
 obj:∀i h,tn i h->∀b∈fp,∃o,h.get? b=some o/\∀v,o.data≠ .cell v
 keep:∀i h h',tn i h->(∀b∈fp,∀o,h.get? b=some o->h'.get? b=some o)->tn i h'
 item:∀(X:Cx),X.prog=P->X.w=w->X.K=K->X.calm=true->∀(i:Nat) (pins:List (aV×Obj)) (s:aJ) (σ:St) (H:Hp) (E:Value->aJ->Prop),Inv X pins σ H s->(∀b∈fp,FpOk X pins H b)->tn i s.heap->J.go i H->
  aI (model P w) X.A (pyNext (.ref it)) (fun r s1=>∃u,r=some u/\
   aI (model P w) X.A (letOwnedTupleGo tg (.ref it) u) (fun _ s2=>∃x H',Inv X pins σ H' s2/\RelV x u/\J.yld i H x H' /\tn (i+1) s2.heap/\∀b∈fp,H' b=none) E s1) E s
 done:∀(X:Cx),X.prog=P->X.w=w->X.K=K->X.calm=true->∀(i:Nat) (pins:List (aV×Obj)) (s:aJ) (σ:St) (H:Hp) (E:Value->aJ->Prop),Inv X pins σ H s->(∀b∈fp,FpOk X pins H b)->tn i s.heap->J.stop i H->
  aI (model P w) X.A (pyNext (.ref it)) (fun r s1=>r=none/\Inv X pins σ H s1) E s
 self:∀(A:bS) (i:Nat) (s:aJ) (Q:Value->aJ->Prop) (E:Value->aJ->Prop),tn i s.heap->Q (.ref it) s->aI (model P w) A (pyIter (.ref it)) Q E s
noncomputable abbrev TI:=St->Hp->(It->Hp->Prop)->Prop
noncomputable def PIE(X:Cx)(pins:List (aV×Obj))(σ:St)(tg:Expr)(R:It->Hp->Prop)(itv:Value)(s2:aJ):Prop:=
 ∃(it:aV) (fp:List aV) (tn:Nat->Heap->Prop) (J:It) (H' :Hp),itv=.ref it/\Inv X pins σ H' s2/\Turn X.prog X.w X.K tg J fp it tn/\tn 0 s2.heap/\(∀b∈fp,FpOk X pins H' b)/\R J H'
noncomputable def PI(X:Cx)(tg iter:Expr)(wi:TI):Prop:=
 ∀(pins:List (aV×Obj)) (s:aJ) (σ:St) (H:Hp) (R:It->Hp->Prop),Inv X pins σ H s->wi σ H R->
  aI (model X.prog X.w) X.A (eval iter X.env) (fun v s1=>aI (model X.prog X.w) X.A (pyIter v) (PIE X pins σ tg R) X.xe s1) X.xe s
theorem vJ3{E:Value->aJ->Prop}{s:aJ}{u:Value}{o:Obj}{n:String}{vs:Array Value}{Q:Unit->aJ->Prop}(ho:s.heap.get? it=some o)(hc:o.cls=.type n)(hd:o.data=.fields vs)(hn: ["enumerate","zip","dict_itemiterator","dict_reverseitemiterator","odict_iterator","itertools.zip_longest","itertools.pairwise"].contains n=false)(hQ:Q () s):aI M A (letOwnedTupleGo tg (.ref it) u) Q E s:=by
 unfold letOwnedTupleGo
 cases tg <;> first
  |exact aL hQ
  | (cases u <;> first
    |exact aL hQ
    | (refine aZ (wpAny_load ho ?_)
       rw[hc,hd];show aI M A (if(["enumerate","zip","dict_itemiterator","dict_reverseitemiterator","odict_iterator","itertools.zip_longest","itertools.pairwise"].contains n && vs[0]? == some (rawInt _))=true then _ else _) Q E s;rw[if_neg (by intro h;rw[hn,Bool.false_and]at h;cases h)];exact aL hQ))
noncomputable def Itl(K:aQ)(a:aV):It:=
 ⟨fun i H=>∃xs x,SqL K H a xs/\xs[i]?=some x,fun i H x H' =>H' =H/\∀xs,SqL K H a xs->xs[i]?=some x,fun i H=>∃xs,SqL K H a xs/\xs.length<=i⟩
noncomputable def Itt(K:aQ)(a:aV):It:=
 ⟨fun i H=>∃xs x,SqT K H a xs/\xs[i]?=some x,fun i H x H' =>H' =H/\∀xs,SqT K H a xs->xs[i]?=some x,fun i H=>∃xs,SqT K H a xs/\xs.length<=i⟩
noncomputable def Itr(lo:Int)(n:Nat):It:=⟨fun i _=>i<n,fun i H x H' =>H' =H/\x=.int (lo+i),fun i _=>n<=i⟩
theorem vXr{P:bV}{w:bW}(a it:aV):Turn P w K tg (Itl K a) [it] it (fun i h=>h.IsListIter it a i) where
 mem:=by simp
 obj:=fun i h st b hb=>by
  have e:b=it:=by simpa using hb
  subst e;obtain⟨o,e,c,d⟩:=st;exact⟨o,e,fun v z=>by rw[d]at z;cases z⟩
 keep:=fun i h h' st k=>st.at fun o e=>k it (by simp) o e
 item:=by
  intro X hP hw hK hc i pins s σ H E I hf st hg;subst hP hw hK;obtain⟨xs,x,hq,hx⟩:=hg;obtain⟨its,rv,p,hz⟩:=I.list hq;obtain⟨u,hu,ru⟩:=rv.get hx;obtain⟨f0,f1,f2,f3,f4,f5⟩:=hf it (by simp);refine wpAny_pyNext_list_item st p.isList (x:=u) (by simpa using hu) fun h' st' sb=>?_
  have I1:Inv X pins σ H {s with heap:=h' }:=I.turned (t' :=s.toks) (fun b o hb e=>(sb.2 b hb).trans e) f0 f1 f3 f4 f5;obtain⟨o,e,c,d⟩:=id st';exact⟨u,rfl,vJ3 (s:={s with heap:=h' }) e c d (by decide) ⟨x,H,I1,ru,⟨rfl,fun ys hy=>by rw[I.list_inj hy hq];exact hx⟩,st',fun b hb=>(hf b hb).1⟩⟩
 done:=by
  intro X hP hw hK hc i pins s σ H E I hf st hg;subst hP hw hK;obtain⟨xs,hq,hx⟩:=hg;obtain⟨its,rv,p,hz⟩:=I.list hq;obtain⟨f0,f1,f2,f3,f4,f5⟩:=hf it (by simp);have hl:=rv.length;exact wpAny_pyNext_list_end (I.ok.hd hc) st p.isList (by simp;omega) fun h' eb=>⟨rfl,I.turned (t' :=s.toks) (fun b o hb e=>eb b o hb e) f0 f1 f3 f4 f5⟩
 self:=fun _ _ _ _ _ st h=>wpAny_pyIter_listiter st h
theorem vZ1{P:bV}{w:bW}(a it:aV):Turn P w K tg (Itt K a) [it] it (fun i h=>h.IsTupleIter it a i) where
 mem:=by simp
 obj:=fun i h st b hb=>by
  have e:b=it:=by simpa using hb
  subst e;obtain⟨o,e,c,d⟩:=st;grind
 keep:=fun i h h' st k=>st.at fun o e=>k it (by simp) o e
 item:=by
  intro X hP hw hK hc i pins s σ H E I hf st hg;subst hP hw hK;obtain⟨xs,x,hq,hx⟩:=hg;obtain⟨its,rv,p,hz⟩:=I.tuple hq;obtain⟨u,hu,ru⟩:=rv.get hx;obtain⟨f0,f1,f2,f3,f4,f5⟩:=hf it (by simp);refine wpAny_pyNext_tuple_item st (show s.heap.IsTuple a its.toArray from p) (x:=u) (by simpa using hu) fun h' st' sb=>?_
  have I1:Inv X pins σ H {s with heap:=h' }:=I.turned (t' :=s.toks) (fun b o hb e=>(sb.2 b hb).trans e) f0 f1 f3 f4 f5;obtain⟨o,e,c,d⟩:=id st';exact⟨u,rfl,vJ3 (s:={s with heap:=h' }) e c d (by decide) ⟨x,H,I1,ru,⟨rfl,fun ys hy=>by rw[I.tuple_inj hy hq];exact hx⟩,st',fun b hb=>(hf b hb).1⟩⟩
 done:=by
  intro X hP hw hK hc i pins s σ H E I hf st hg;subst hP hw hK;obtain⟨xs,hq,hx⟩:=hg;obtain⟨its,rv,p,hz⟩:=I.tuple hq;obtain⟨f0,f1,f2,f3,f4,f5⟩:=hf it (by simp);have hl:=rv.length;exact wpAny_pyNext_tuple_end (I.ok.hd hc) st (show s.heap.IsTuple a its.toArray from p) (by simp;omega) fun h' eb=>⟨rfl,I.turned (t' :=s.toks) (fun b o hb e=>eb b o hb e) f0 f1 f3 f4 f5⟩
 self:=fun _ _ _ _ _ st h=>wpAny_pyIter_tupleiter st h
theorem vZ2{P:bV}{w:bW}(it:aV)(lo:Int)(n:Nat):Turn P w K tg (Itr lo n) [it] it (fun i h=>IsRangeIter h it (lo+(i:Nat) * 1) ((n:Int) - (i:Nat)) 1) where
 mem:=by simp
 obj:=fun i h st b hb=>by
  have e:b=it:=by simpa using hb
  subst e;exact⟨_,st,fun v z=>by
   have z' :Data.fields _=Data.cell v:=z;cases z'⟩
 keep:=fun i h h' st k=>k it (by simp) _ st
 item:=by
  intro X hP hw hK hc i pins s σ H E I hf st hg;subst hP hw hK;obtain⟨f0,f1,f2,f3,f4,f5⟩:=hf it (by simp);have W:=Walks.range (prog:=X.prog) (w:=X.w) (I.ok.hd hc) it lo 1 n;refine W.item i s _ _ hg st fun v h' tk hv st' kk=>?_
  obtain⟨t,rfl⟩:=hv;have I1:Inv X pins σ H {s with heap:=h',toks:=tk}:=I.turned (fun b o hb e=>kk b o (by simpa using hb) e) f0 f1 f3 f4 f5;refine⟨_,rfl,vJ3 (s:={s with heap:=h',toks:=tk}) (n:="range_iterator") st' rfl rfl (by decide) ⟨.int (lo+i),H,I1,⟨t,?_⟩,⟨rfl,rfl⟩,st',fun b hb=>(hf b hb).1⟩⟩;rw[Int.mul_one]
 done:=by
  intro X hP hw hK hc i pins s σ H E I hf st hg;subst hP hw hK;obtain⟨f0,f1,f2,f3,f4,f5⟩:=hf it (by simp);exact wpAny_pyNext_range_end (I.ok.hd hc) st (by have:n<=i:=hg;omega) fun h' eb=>⟨rfl,I.turned (t' :=s.toks) (fun b o hb e=>eb b o hb e) f0 f1 f3 f4 f5⟩
 self:=fun _ _ _ _ _ st h=>wpAny_pyIter_rangeiter st h
section
variable{X:Cx}{tg:Expr}
theorem zQ6{σ:St}{s:aJ}{R:It->Hp->Prop}{E:Value->aJ->Prop}{lo hi:Int}{t u v:Tok}{tk:Nat}(I:Inv X pins σ H s)(h1: -(2 ^ 62)<=lo)(h2:lo<2 ^ 62)(h3: -(2 ^ 62)<=hi)(h4:hi<2 ^ 62)(q:R (Itr lo (hi - lo).toNat) H):aI (model X.prog X.w) X.A (pyIter (.ref s.heap.objs.size)) (PIE X pins σ tg R) E {s with heap:=s.heap.push {cls:=.type "range",data:=.fields #[.int lo t,.int hi u,.int 1 v]},toks:=tk}:=by
 refine wpAny_pyIter_range (IsRange.new ..) (small_one h1 h2 h3 h4) ?_
 have I1:Inv X pins σ H {s with heap:=s.heap.push {cls:=.type "range",data:=.fields #[.int lo t,.int hi u,.int 1 v]},toks:=tk}:=I.kept fun b o e=>aW _ e
 refine⟨(s.heap.push {cls:=.type "range",data:=.fields #[.int lo t,.int hi u,.int 1 v]}).objs.size,[(s.heap.push {cls:=.type "range",data:=.fields #[.int lo t,.int hi u,.int 1 v]}).objs.size],_,_,H,rfl,
  I1.kept (t' :=tk) fun b o e=>aW _ e,vZ2 _ lo (hi - lo).toNat,?_,fun b hb=>?_,q⟩
 ·have e1:lo + ((0:Nat):Int) * 1=lo:=by simp
  have e2:(((hi - lo).toNat :Nat):Int) - ((0:Nat):Int)=Builtin.Range.rangeSize lo hi 1:=by rw[rangeSize_one];split <;> omega
  show IsRangeIter _ _ (lo+((0:Nat):Int) * 1) ((((hi - lo).toNat :Nat):Int) - ((0:Nat):Int)) 1;rw[e1,e2];exact aT _ rfl
 ·have e:b=(s.heap.push {cls:= .type "range",data:= .fields #[.int lo t, .int hi u, .int 1 v]}).objs.size:=by simpa using hb
  subst e;exact I1.fpOk (aD _) (I1.hok.fresh (aD _))
noncomputable def jQ5(ta:TA):TI:=fun σ H R=>ta σ H fun vs H1=>∃j:Int,vs=[.int j]/\ -(2 ^ 62)<=j/\j<2 ^ 62/\R (Itr 0 j.toNat) H1
theorem vX6{a:Expr}{ta:TA}{p pos:Pos}(hg:Gl X "range")(hm:X.mg "range"=none)(ha:PA X [a] ta)(hs:aX [a] X.env=[(false,eval a X.env)]:=by rfl):PI X tg (.Call (.Name "range" p) [a] [] pos) (jQ5 ta):=by
 intro pins s σ H R I h;refine Call_ (qZ7 I hg hm boot_range (cB (thn (ha pos pins s σ H _ I h) fun us s1 ⟨vs,H1,I1,r1,q1⟩=>?_) hs rfl));obtain⟨j,e,q1,q2,q⟩:=q1;subst e;cases r1 with
 | cons r rr=>
   cases rr;obtain⟨t,rfl⟩:=r;exact call_range_1 (zQ6 I1 (by omega) (by omega) q1 q2 (by simpa using q))
noncomputable def tFor(wi:TI)(g:TG)(tb:TS):TS:=fun D σ H=>wi σ H fun J H1=>∃W:Nat->Nat->St->Hp->Prop,(∃m,W 0 m σ H1)/\∀i m σ H,W i m σ H->
 (J.stop i H/\D.nx σ H)\/(J.go i H/\∃N:St->Hp->Prop,(∀σ' H',N σ' H' ->∃m',m'<m/\W (i+1) m' σ' H')/\∀x H',J.yld i H x H' ->g x σ H' fun σ2 H2=>tb {D with nx:=N,ct:=N,bk:=D.nx} σ2 H2)
noncomputable def qXs(fp:List aV)(h:Heap):List (aV×Obj):=fp.filterMap fun b=>(h.get? b).map fun o=>(b,o)
theorem qVk{h:Heap}{b:aV}{o:Obj}(hb:b∈fp)(e:h.get? b=some o):(b,o)∈qXs fp h:=bH.mpr ⟨b,hb,by rw[e];rfl⟩
theorem vYf{h:Heap}{p:aV×Obj}(hp:p∈qXs fp h):p.1∈fp/\h.get? p.1=some p.2:=by
 obtain⟨b,hb,e⟩:=bH.mp hp;cases q:h.get? b with
 |none=>grind
 |some o=>grind
theorem Inv.pinned{σ:St}{s:aJ}(I:Inv X pins σ H s)(hf:∀b∈fp,FpOk X pins H b)(ho:∀b∈fp,∃o,s.heap.get? b=some o/\∀v,o.data≠ .cell v):Inv X (pins ++ qXs fp s.heap) σ H s:=
 I.pins_of fun p hp=>(cT.mp hp).elim (fun z=>I.pin p (bX _ z)) fun z=>by
  obtain⟨hb,e⟩:=vYf z;obtain⟨f0,f1,f2,_⟩:=hf p.1 hb;grind
theorem Inv.unpinned{pl:List (aV×Obj)}{σ:St}{s:aJ}(I:Inv X (pins ++ pl) σ H s):Inv X pins σ H s:=I.pins_of fun p hp=>I.pin p (bX _ (List.mem_append_left _ hp))
theorem zYf{iter:Expr}{wi:TI}{g:TG}{tb:TS}{pos:Pos}(hp:PassesOwn (model X.prog X.w) X.A X.env X.xe)(hc:X.calm=true)(hi:PI X tg iter wi)(hg:PG X tg g)(hb:PSs X body tb)(hs:∀x,foldedSetIterable iter X.env x=pure x:=by intro _;rfl):PS X (.For tg iter body [] pos) (tFor wi g tb):=by
 intro pins s σ H D I h;refine wpAny_For (thn (hi pins s σ H _ I h) fun v s1 h1=>thn h1 fun itv s2 h2=>?_) hs;obtain⟨it,fp,tn,J,H2,e,I2,T,st2,f2,W,⟨m0,w0⟩,turn⟩:=h2;subst e;have stat:∀{H' :Hp},(∀b∈fp,H' b=none)->∀b∈fp,FpOk X pins H' b:=fun hn b hb=>⟨hn b hb,(f2 b hb).2⟩
 refine codeAny_forLoop_any (fun n s' =>∃i σ' H',Inv X pins σ' H' s' /\tn i s'.heap/\(∀b∈fp,H' b=none)/\W i n σ' H') ?_ m0 ⟨0,σ,H2,I2,st2,fun b hb=>(f2 b hb).1,w0⟩;rintro n s3 ⟨i,σ3,H3,I3,st3,fr3,w3⟩;rcases turn i n σ3 H3 w3 with⟨stop,qn⟩|⟨go,N,hN,step⟩
 ·refine dD hp (thn (T.done X rfl rfl rfl hc i pins s3 σ3 H3 X.xe I3 (stat fr3) st3 stop) fun r s4 ⟨hr,I4⟩=>?_);subst hr;exact wpAny_execs_nil ⟨σ3,H3,I4,qn⟩
 ·refine dD hp (thn (T.item X rfl rfl rfl hc i pins s3 σ3 H3 X.xe I3 (stat fr3) st3 go) fun r s4 ⟨u,hr,h4⟩=>?_);subst hr;refine dD hp (thn h4 fun _ s5 ⟨x,H5,I5,r5,y5,st5,fr5⟩=>?_);have I5' :=I5.pinned (stat fr5) (T.obj _ _ st5);refine dD hp (thn (hg _ s5 σ3 H5 x u _ I5' r5 (step x H5 y5)) fun _ s6 ⟨σ6,H6,I6,q6⟩=>?_);refine dD hp (thn (hb _ s6 σ6 H6 _ I6 q6) fun f s7 q7=>?_);have again:∀{σ7:St} {H7:Hp},Inv X (pins ++ qXs fp s5.heap) σ7 H7 s7->N σ7 H7->∃m,m<n/\∃i σ' H',Inv X pins σ' H' s7/\tn i s7.heap/\(∀b∈fp,H' b=none)/\W i m σ' H' :=fun {σ7 H7} I7 n7=>by
   obtain⟨m',hm,w7⟩:=hN σ7 H7 n7;refine⟨m',hm,i+1,σ7,H7,I7.unpinned,T.keep _ _ _ st5 fun b hb o e=>(I7.pin (b,o) (bX _ (bX _ (qVk hb e)))).1,fun b hb=>?_,w7⟩;obtain⟨o,e,d⟩:=T.obj _ _ st5 b hb;exact(I7.pin (b,o) (bX _ (bX _ (qVk hb e)))).2.1
  cases f with
  |next=>obtain⟨σ7,H7,I7,n7⟩:=q7;exact again I7 n7
  |cont=>obtain⟨σ7,H7,I7,n7⟩:=q7;exact again I7 n7
  |brk=>obtain⟨σ7,H7,I7,q7⟩:=q7;exact⟨σ7,H7,I7.unpinned,q7⟩
  |ret v=>obtain⟨x7,σ7,H7,I7,r7,q7⟩:=q7;exact⟨x7,σ7,H7,I7.unpinned,r7,q7⟩
end
noncomputable abbrev R2:=V->V->Hp->VK->Prop
noncomputable def OpR(X:Cx)(f:Value->Value->Sem Value)(r:R2):Prop:=
 ∀(pins:List (aV×Obj)) (s:aJ) (σ:St) (H:Hp) (x y:V) (v u:Value) (Q:VK),Inv X pins σ H s->RelV x v->RelV y u->r x y H Q->
  aI (model X.prog X.w) X.A (f v u) (EP X pins σ Q) X.xe s
noncomputable def UnR(X:Cx)(f:Value->Sem Value)(r:V->Hp->VK->Prop):Prop:=
 ∀(pins:List (aV×Obj)) (s:aJ) (σ:St) (H:Hp) (x:V) (v:Value) (Q:VK),Inv X pins σ H s->RelV x v->r x H Q->
  aI (model X.prog X.w) X.A (f v) (EP X pins σ Q) X.xe s
noncomputable def yV(X:Cx)(f:Value)(r:List V->Hp->VK->Prop):Prop:=
 ∀(pins:List (aV×Obj)) (s:aJ) (σ:St) (H:Hp) (xs:List V) (us:List Value) (Q:VK),Inv X pins σ H s->Vals xs us->r xs H Q->
  aI (model X.prog X.w) X.A (call f us) (EP X pins σ Q) X.xe s
noncomputable def tOp(r:R2)(ta tb:TE):TE:=fun σ H Q=>ta σ H fun x H1=>tb σ H1 fun y H2=>r x y H2 Q
noncomputable def tUn(r:V->Hp->VK->Prop)(ta:TE):TE:=fun σ H Q=>ta σ H fun x H1=>r x H1 Q
noncomputable def rI(C:Int->Int->Prop)(g:Int->Int->V):R2:=fun x y H Q=>∃i j,x=.int i/\y=.int j/\C i j/\Q (g i j) H
noncomputable def rI0(g:Int->Int->V):R2:=fun x y H Q=>∃i j,x=.int i/\y=.int j/\Q (g i j) H
noncomputable def rU(g:Int->V):V->Hp->VK->Prop:=fun x H Q=>∃i,x=.int i/\Q (g i) H
section
variable{X:Cx}{a b c:Expr}{ta tb tc:TE}{pos:Pos}
theorem binT(ha:PE X a ta)(hb:PE X b tb){s:aJ}{σ:St}{R:V->V->Hp->Prop}(I:Inv X pins σ H s)(h:ta σ H fun x H1=>tb σ H1 fun y H2=>R x y H2){f:Value->Value->Sem Value}(hf:∀v u s2 x y H2,Inv X pins σ H2 s2->RelV x v->RelV y u->R x y H2->aI (model X.prog X.w) X.A (f v u) Q X.xe s2):
  aI (model X.prog X.w) X.A (eval a X.env) (fun v s₁=>aI (model X.prog X.w) X.A (eval b X.env) (fun u s₂=>aI (model X.prog X.w) X.A (f v u) Q X.xe s₂) X.xe s₁) X.xe s:=by
 refine thn (ha pins s σ H _ I h) fun v s1 ⟨x,H1,I1,r1,q1⟩=>?_
 refine thn (hb pins s1 σ H1 _ I1 q1) fun u s2 ⟨y,H2,I2,r2,q2⟩=>?_
 exact hf v u s2 x y H2 I2 r1 r2 q2
theorem zXa{op:Operator}{r:R2}(ho:OpR X (binaryOp op) r)(ha:PE X a ta)(hb:PE X b tb):PE X (.BinOp a op b pos) (tOp r ta tb):=by
 intro pins s σ H Q I h;exact wpAny_BinOp (binT ha hb I h fun v u s2 x y H2 I2 rx ry q=>ho pins s2 σ H2 x y v u Q I2 rx ry q)
theorem jQl{op:UnaryOp}{r:V->Hp->VK->Prop}(ho:UnR X (unaryOp op) r)(ha:PE X a ta):PE X (.UnaryOp op a pos) (tUn r ta):=by
 intro pins s σ H Q I h;exact UnaryOp_ (thn (ha pins s σ H _ I h) fun v s1 ⟨x,H1,I1,r1,q1⟩=>ho pins s1 σ H1 x v Q I1 r1 q1)
theorem opI{f:Value->Value->Sem Value}{C:Int->Int->Prop}(rule:∀(i j:Int) (t u:Tok) (s:aJ) (Q:Value->aJ->Prop) (E:Value->aJ->Prop),C i j->Q (.int (g i j) s.toks) {s with toks:=s.toks+1}->aI (model X.prog X.w) X.A (f (.int i t) (.int j u)) Q E s):
  OpR X f (rI C fun i j=>.int (g i j)):=by
 intro pins s σ H x y v u Q I rx ry h;obtain⟨i,j,rfl,rfl,hc,q⟩:=h;obtain⟨t,rfl⟩:=rx;obtain⟨t',rfl⟩:=ry;exact rule i j t t' s _ _ hc ⟨.int (g i j),H,I.tok _,⟨_,rfl⟩,q⟩
theorem opI0{f:Value->Value->Sem Value}(rule:∀(i j:Int) (t u:Tok) (s:aJ) (Q:Value->aJ->Prop) (E:Value->aJ->Prop),Q (.int (g i j) s.toks) {s with toks:=s.toks+1}->aI (model X.prog X.w) X.A (f (.int i t) (.int j u)) Q E s):
  OpR X f (rI0 fun i j=>.int (g i j)):=by
 intro pins s σ H x y v u Q I rx ry h;obtain⟨i,j,rfl,rfl,q⟩:=h;obtain⟨t,rfl⟩:=rx;obtain⟨t',rfl⟩:=ry;exact rule i j t t' s _ _ ⟨.int (g i j),H,I.tok _,⟨_,rfl⟩,q⟩
theorem opB0{f:Value->Value->Sem Value}{g:Int->Int->Bool}(rule:∀(i j:Int) (t u:Tok) (s:aJ) (Q:Value->aJ->Prop) (E:Value->aJ->Prop),Q (.bool (g i j)) s->aI (model X.prog X.w) X.A (f (.int i t) (.int j u)) Q E s):
  OpR X f (rI0 fun i j=>.bl (g i j)):=by
 intro pins s σ H x y v u Q I rx ry h;obtain⟨i,j,rfl,rfl,q⟩:=h;obtain⟨t,rfl⟩:=rx;obtain⟨t',rfl⟩:=ry;exact rule i j t t' s _ _ ⟨.bl (g i j),H,I,rfl,q⟩
theorem zY6:OpR X (binaryOp .Add) (rI0 fun i j=>.int (i+j)):=opI0 fun _ _ _ _ _ _ _ q=>add_int q
theorem zYz:OpR X (binaryOp .Sub) (rI0 fun i j=>.int (i - j)):=opI0 fun _ _ _ _ _ _ _ q=>sub_int q
theorem zY1:OpR X (binaryOp .Mod) (rI (fun _ j=>0<j) fun i j=>.int (i % j)):=opI fun i j _ _ _ _ _ hc q=>by
 have h1:(0:Int)<j:=hc;exact mod_int' (by omega) (by rw[Int.fmod_eq_emod_of_nonneg i (by omega)];exact q)
theorem unI{f:Value->Sem Value}{g:Int->Int}(rule:∀(i:Int) (t:Tok) (s:aJ) (Q:Value->aJ->Prop) (E:Value->aJ->Prop),Q (.int (g i) s.toks) {s with toks:=s.toks+1}->aI (model X.prog X.w) X.A (f (.int i t)) Q E s):
  UnR X f (rU fun i=>.int (g i)):=by
 intro pins s σ H x v Q I rx h;obtain⟨i,rfl,q⟩:=h;obtain⟨t,rfl⟩:=rx;exact rule i t s _ _ ⟨.int (g i),H,I.tok _,⟨_,rfl⟩,q⟩
theorem zXr:UnR X (unaryOp .USub) (rU fun i=>.int (-i)):=unI fun _ _ _ _ _ q=>neg_int q
end
noncomputable def scal:V->V->Bool
 |.non,.non =>true|.non,.int _=>true|.int _,.non =>true|.non,.bl _=>true|.bl _,.non =>true|.non,.str _=>true|.str _,.non =>true
 |.int _,.int _=>true|.bl _,.bl _=>true|.str _,.str _=>true|.byt _,.byt _=>true
 |.int _,.str _=>true|.str _,.int _=>true|.bl _,.str _=>true|.str _,.bl _=>true
 |_,_=>false
noncomputable def rEq:R2:=fun x y H Q=>scal x y=true/\Q (.bl (decide (x=y))) H
noncomputable def rNe:R2:=fun x y H Q=>scal x y=true/\Q (.bl (!decide (x=y))) H
theorem vQn{i j:Int}:decide (V.int i=V.int j)=(i == j):=by
 rw[Bool.eq_iff_iff];simp
theorem vZw{i j:Bool}:decide (V.bl i=V.bl j)=(i == j):=by
 grind
theorem vXh{i j:Str}:decide (V.str i=V.str j)=(i == j):=by
 rw[Bool.eq_iff_iff];simp
theorem vXi{i j:Array UInt8}:decide (V.byt i=V.byt j)=(i.toList == j.toList):=by
 rw[Bool.eq_iff_iff];simp_all
section
variable{X:Cx}{a b c:Expr}{ta tb tc:TE}{pos:Pos}
theorem vO{σ:St}{s:aJ}{Q:VK}{k k' :Bool}(I:Inv X pins σ H s)(q:Q (.bl k) H)(e:k=k'):EP X pins σ Q (.bool k') s:=by
 subst e;exact⟨.bl k,H,I,rfl,q⟩
theorem zXc:OpR X (cV .Eq) rEq:=by
 intro pins s σ H x y v u Q I rx ry h;obtain⟨hs,q⟩:=h;cases x with
 | non=>
   cases rx;cases y with
   |non=>cases ry;exact PySem.EqNone.eq_none_none (vO I q (by simp))
   |bl j=>cases ry;exact PySem.EqNone.eq_none_bool (vO I q (by simp))
   |int j=>obtain⟨t',rfl⟩:=ry;exact PySem.EqNone.eq_none_int (vO I q (by simp))
   |str j=>obtain⟨t',rfl⟩:=ry;exact PySem.EqNone.eq_none_str (vO I q (by simp))
   |_=>exact absurd (show false=true from hs) aG
 | bl i=>
   cases rx;cases y with
   |non=>cases ry;exact PySem.EqNone.eq_bool_none (vO I q (by simp))
   |bl j=>cases ry;exact eq_bool (vO I q vZw)
   |str j=>obtain⟨t',rfl⟩:=ry;exact PySem.EqMixed.eq_bool_str (vO I q (by simp))
   |_=>exact absurd (show false=true from hs) aG
 | int i=>
   obtain⟨t,rfl⟩:=rx;cases y with
   |non=>cases ry;exact PySem.EqNone.eq_int_none (vO I q (by simp))
   |int j=>obtain⟨t',rfl⟩:=ry;exact eq_int (vO I q vQn)
   |str j=>obtain⟨t',rfl⟩:=ry;exact PySem.EqMixed.eq_int_str (vO I q (by simp))
   |_=>exact absurd (show false=true from hs) aG
 | str i=>
   obtain⟨t,rfl⟩:=rx;cases y with
   |non=>cases ry;exact PySem.EqNone.eq_str_none (vO I q (by simp))
   |bl j=>cases ry;exact PySem.EqMixed.eq_str_bool (vO I q (by simp))
   |int j=>obtain⟨t',rfl⟩:=ry;exact PySem.EqMixed.eq_str_int (vO I q (by simp))
   |str j=>obtain⟨t',rfl⟩:=ry;exact eq_str (vO I q vXh)
   |_=>exact absurd (show false=true from hs) aG
 | byt i=>
   obtain⟨t,rfl⟩:=rx;cases y with
   |byt j=>obtain⟨t',rfl⟩:=ry;exact PySem.W.eq_bytes (vO I q vXi)
   |_=>exact absurd (show false=true from hs) aG
 |_=>cases y <;> exact absurd (show false=true from hs) aG
theorem jQq:OpR X (cV .NotEq) rNe:=by
 intro pins s σ H x y v u Q I rx ry h;obtain⟨hs,q⟩:=h;cases x with
 | non=>
   cases rx;cases y with
   |non=>cases ry;exact PySem.EqNone.ne_none_none (vO I q (by simp))
   |bl j=>cases ry;exact PySem.EqNone.ne_none_bool (vO I q (by simp))
   |int j=>obtain⟨t',rfl⟩:=ry;exact PySem.EqNone.ne_none_int (vO I q (by simp))
   |str j=>obtain⟨t',rfl⟩:=ry;exact PySem.EqNone.ne_none_str (vO I q (by simp))
   |_=>exact absurd (show false=true from hs) aG
 | bl i=>
   cases rx;cases y with
   |non=>cases ry;exact PySem.EqNone.ne_bool_none (vO I q (by simp))
   |bl j=>cases ry;exact ne_bool (vO I q (congrArg not vZw))
   |str j=>obtain⟨t',rfl⟩:=ry;exact PySem.EqMixed.ne_bool_str (vO I q (by simp))
   |_=>exact absurd (show false=true from hs) aG
 | int i=>
   obtain⟨t,rfl⟩:=rx;cases y with
   |non=>cases ry;exact PySem.EqNone.ne_int_none (vO I q (by simp))
   |int j=>obtain⟨t',rfl⟩:=ry;exact ne_int (vO I q (congrArg not vQn))
   |str j=>obtain⟨t',rfl⟩:=ry;exact PySem.EqMixed.ne_int_str (vO I q (by simp))
   |_=>exact absurd (show false=true from hs) aG
 | str i=>
   obtain⟨t,rfl⟩:=rx;cases y with
   |non=>cases ry;exact PySem.EqNone.ne_str_none (vO I q (by simp))
   |bl j=>cases ry;exact PySem.EqMixed.ne_str_bool (vO I q (by simp))
   |int j=>obtain⟨t',rfl⟩:=ry;exact PySem.EqMixed.ne_str_int (vO I q (by simp))
   |str j=>obtain⟨t',rfl⟩:=ry;exact ne_str (vO I q (congrArg not vXh))
   |_=>exact absurd (show false=true from hs) aG
 | byt i=>
   obtain⟨t,rfl⟩:=rx;cases y with
   |byt j=>obtain⟨t',rfl⟩:=ry;exact PySem.W.ne_bytes (vO I q (congrArg not vXi))
   |_=>exact absurd (show false=true from hs) aG
 |_=>cases y <;> exact absurd (show false=true from hs) aG
theorem jQr:OpR X (cV .Lt) (rI0 fun i j=>.bl (decide (i<j))):=opB0 fun _ _ _ _ _ _ _ q=>lt_int q
theorem jQs:OpR X (cV .Gt) (rI0 fun i j=>.bl (decide (j<i))):=opB0 fun _ _ _ _ _ _ _ q=>gt_int q
theorem jQt:OpR X (cV .GtE) (rI0 fun i j=>.bl (decide (j<=i))):=opB0 fun _ _ _ _ _ _ _ q=>ge_int q
theorem zY2:OpR X (cV .Is) (fun x y H Q=>y=.non /\Q (.bl (decide (x=.non))) H):=by
 intro pins s σ H x y v u Q I rx ry h;obtain⟨rfl,q⟩:=h;cases ry;refine is_none_gen (vO I q ?_)
 cases x <;> first
  |(cases rx;rfl)
  |(obtain⟨t,rfl⟩:=rx;rfl)
theorem OpR.or{f:Value->Value->Sem Value}{r r' :R2}(h:OpR X f r)(h' :OpR X f r'):OpR X f (fun x y H Q=>r x y H Q\/r' x y H Q):=by
 intro pins s σ H x y v u Q I rx ry q;rcases q with q|q
 ·exact h pins s σ H x y v u Q I rx ry q
 ·exact h' pins s σ H x y v u Q I rx ry q
theorem qVe(b:Expr)(h:op≠ .In :=by decide)(h2:op≠ .NotIn :=by decide):behindInMarks op b=false:=by
 have e1:(op == CmpOp.In)=false:=by cases op <;> first|rfl|exact absurd rfl h
 have e2:(op == CmpOp.NotIn)=false:=by cases op <;> first|rfl|exact absurd rfl h2
 cases b <;> simp[behindInMarks,e1,e2]
theorem zJs{r:R2}(ho:OpR X (cV op) r)(ha:PE X a ta)(hb:PE X b tb)(hm:behindInMarks op b=false):PE X (.Compare a [op] [b] pos) (tOp r ta tb):=by
 intro pins s σ H Q I h;exact wpAny_Compare1 (binT ha hb I h fun v u s2 x y H2 I2 rx ry q=>ho pins s2 σ H2 x y v u Q I2 rx ry q) hm
noncomputable def jQa(t:TE):TT:=fun σ H Q=>t σ H fun x H' =>∃k,x=.bl k/\Q k H'
theorem zJa{r:R2}(ho:OpR X (cV op) r)(ha:PE X a ta)(hb:PE X b tb)(hm:behindInMarks op b=false):PT X (.Compare a [op] [b] pos) (jQa (tOp r ta tb)):=by
 intro pins s σ H Q I h;refine wpAny_isTrue_Compare1 (thn (ha pins s σ H _ I h) fun v s1 ⟨x,H1,I1,r1,q1⟩=>thn (hb pins s1 σ H1 _ I1 q1) fun u s2 ⟨y,H2,I2,r2,q2⟩=>
  thn (ho pins s2 σ H2 x y v u _ I2 r1 r2 q2) fun c s3 ⟨z,H3,I3,r3,k,e,q3⟩=>?_) hm
 subst e;cases r3;exact wpAny_truthy_bool ⟨H3,I3,q3⟩
theorem qJ6:(aR:Nat)<2 ^ 63:=by decide
theorem qZw{x:V}(r:Vals [x] us):∃u,us=[u]/\RelV x u:=by
 cases r with
 |cons r1 r2=>cases r2;exact⟨_,rfl,r1⟩
theorem zK6{x:V}(r:Vals [x,y] us):∃u w',us=[u,w']/\RelV x u/\RelV y w' :=by
 cases r with
 | cons r1 r2=>
   cases r2 with
   |cons r3 r4=>cases r4;exact⟨_,_,rfl,r1,r3⟩
theorem vY6:yV X (.type "int") (fun xs H Q=>(∃i,xs=[.int i]/\Q (.int i) H)\/∃k,xs=[.bl k]/\Q (.int (if k then 1 else 0)) H):=by
 intro pins s σ H xs us Q I r h;rcases h with⟨i,rfl,q⟩|⟨k,rfl,q⟩
 ·obtain⟨u,rfl,t,rfl⟩:=qZw r;exact call_int_int ⟨.int i,H,I,⟨_,rfl⟩,q⟩
 ·obtain⟨u,rfl,r1⟩:=qZw r;cases r1;exact call_int_bool ⟨.int (if k then 1 else 0),H,I.tok _,⟨_,rfl⟩,q⟩
end
structure ObjM(h:Heap)(x dx C:aV)(mA:Str->Option Value):Prop where
 obj:h.get? x=some (cM C dx)
 ns:h.Ns1 dx mA
 ne:dx≠x
theorem vYi{h:Heap}{mA:Str->Option Value}(n:h.Ns1 dx mA):∃od,h.get? dx=some od/\∀name,PySem.W.lookIn name od=some (mA name):=by
 obtain⟨o,es,ep,ho,hd,hk,_,hm⟩:=n;refine⟨o,ho,fun name=>?_⟩;have e:=hm name;unfold nsFind findBy at e;rw[←Array.find?_toList]at e;unfold PySem.W.lookIn;rw[hd];dsimp only;split
 ·grind
 ·rename_i q;rw[q]at e;have a:es.toList.any (·.refKey)=false:=by
   rw[List.any_eq_false];intro y hy;obtain⟨z,t,hkey⟩:=hk y (Array.mem_toList_iff.mp hy);simp[DictEntry.refKey,hkey]
  grind
theorem ObjM.look{h:Heap}{x:aV}{mA:Str->Option Value}(I:ObjM h x dx C mA):∃od,PySem.W.InstAt h x (cM C dx) C (some od)/\∀name,PySem.W.lookIn name od=some (mA name):=
 let ⟨od,ho,hl⟩:=vYi I.ns
 ⟨od,⟨I.obj,rfl,rfl,ho⟩,hl⟩
section
variable{prog:bV}{w:bW}{A:bS}{E:Value->aJ->Prop}{s:aJ}{K:aQ}{x dx C f:aV}{mA:Str->Option Value}{name:Str}{v:Value}
theorem zWj{expr:Bool}(X:K.In s.heap)(I:ObjM s.heap x dx C mA)(hg:PySem.W.plainGet K C name=true)(hh:PySem.W.hasDictIn K C=true)(ha:bF K (.ref C) name=some none)(hv:mA name=some v)(hv' :PySem.W.handedIn v=true)(h:Q v {s with toks:=s.toks+1}):
  aI (model prog w) A (getAttr (.ref x) name expr) Q E s:=by
 obtain⟨od,J,hl⟩:=I.look;exact PySem.W.get_value X J (PySem.W.plainGet_of hg).1 (PySem.W.findObj_own hh ha rfl (by rw[hl,hv])) hv' h
theorem zV6{Q:Value×List Value->aJ->Prop}(X:K.In s.heap)(I:ObjM s.heap x dx C mA)(hg:PySem.W.plainGet K C name=true)(hf:bF K (.ref C) name=some (some (.ref f)))(ht:PySem.W.isFn K (.ref f)=true)(hv:mA name=none)(h:Q (.ref f,[.ref x]) s):
  aI (model prog w) A (getMethod (.ref x) name pl) Q E s:=by
 obtain⟨od,J,hl⟩:=I.look;exact PySem.W.method_fn X J (PySem.W.plainGet_of hg).1 (PySem.W.plainGet_of hg).2 hf (beq_iff_eq.mp ht) (by show(PySem.W.lookIn name od).map (·.isSome)=some false;rw[hl,hv];rfl) h
theorem zZz{ns:List Str}{Q:Unit->aJ->Prop}(X:K.In s.heap)(I:ObjM s.heap x dx C mA)(hs:bF K (.ref C) "__setattr__"=some (some (.builtin "object.__setattr__")))(hp:PySem.W.plainOver K C=true)(ht:PySem.W.takerIn K C name=some none)(hh:PySem.W.hasDictIn K C=true)(hw:PySem.Within mA ns)(hsz:ns.length<=aR)(h:∀h',ObjM h' x dx C (fun y=>if y=name then some v else mA y)->dI dx s.heap h' ->Q () {s with heap:=h',toks:=s.toks+2}):
  aI (model prog w) A (setAttr (.ref x) name v) Q E s:=by
 obtain⟨od,J,hl⟩:=I.look;refine PySem.W.set_plain X J hs (PySem.W.osa_open (s:={s with toks:=s.toks+1}) (r:=none) X J hp ht fun b=>?_);obtain⟨cd,hc,hd'⟩:=PySem.W.any_some hh;have hx:s.heap.get? x=some ⟨.ref C,some dx,.plain,#[]⟩:=I.obj;refine aZ (aL (aZ (aZ (wpAny_loadPart hx (aZ (PySem.W.Looks.here (s:={s with toks:=s.toks+1}) (PySem.W.looks_clsIn X hc) ?_))))));rw[hd'];refine aL (a:=some dx) (aZ (aL (aZ ?_)));refine wpAny_nsSet1 (s:={s with toks:=s.toks+1}) I.ns fun h' hn2 hs2=>?_
 obtain⟨oD,esD,epD,hoD,hdD,hcD⟩:=hn2.count (PySem.Within.cons name v hw);refine aZ (wpAny_lookBehind hoD (by rw[hdD];exact pastItsLine_dict (aO hcD (by rw[aY];omega))) ?_);exact aL (h _ ⟨(hs2.2 _ (Ne.symm I.ne)).trans I.obj,hn2,I.ne⟩ hs2)
theorem zVp{R:Result->aJ->Prop}{vs:List Value}(X:K.In s.heap)(hm:PySem.W.makesIn K C=true)(hi:bF K (.ref C) "__init__"=some (some (.ref f)))(hf:PySem.W.typeIn K (.ref f)=some (.type "function"))(h:codeAny (model prog w) (A.under (.builtin "type.__call__" ⟨.ref C::vs,kw⟩)) (.call (.ref f) ⟨.ref (s.heap.objs.size+1)::vs,kw⟩) (PySem.W.InitBack (s.heap.objs.size+1) R)
   {s with heap:=(s.heap.push cY).push (cM C s.heap.objs.size)}):
  codeAny (model prog w) A (.call (.ref C) ⟨vs,kw⟩) R s:=by
 obtain⟨hh,g,d,t,os⟩:=s;exact PySem.W.make_core (PySem.W.makes_of X hm) (PySem.W.looks_findIn X hi) (fun self=>PySem.W.bind_fn X self hf) (.inl rfl) h
end
noncomputable def putF(f:Str)(v:V):List (Str×V)->List (Str×V)
 |[]=> [(f,v)]
 |(g,x)::r=>if g=f then(g,v)::r else(g,x)::putF f v r
theorem qWz(f g:Str)(v:V):∀fs:List (Str×V),(putF f v fs).lookup g=if g=f then some v else fs.lookup g
 | []=>by
   show List.lookup g [(f,v)]=_;grind
 | (k,x)::r=>by
   have ih:=qWz f g v r;rw[show putF f v ((k,x)::r)=(if k=f then(k,v)::r else(k,x)::putF f v r) from rfl];grind
theorem qWj(f:Str)(v:V):∀fs:List (Str×V),f∈(putF f v fs).map (·.1)/\∀g,g∈fs.map (·.1)->g∈(putF f v fs).map (·.1)
 |[]=>⟨by simp[putF],fun g h=>by simp at h⟩
 | (k,x)::r=>by
   obtain⟨i1,i2⟩:=qWj f v r;rw[show putF f v ((k,x)::r)=(if k=f then(k,v)::r else(k,x)::putF f v r) from rfl];grind
theorem qW1(f:Str)(v:V):∀fs:List (Str×V),(putF f v fs).length <=fs.length+1
 |[]=>by simp[putF]
 | (k,x)::r=>by
   have ih:=qW1 f v r;rw[show putF f v ((k,x)::r)=(if k=f then(k,v)::r else(k,x)::putF f v r) from rfl];by_cases hk:k=f
   ·rw[if_pos hk,aY,aY];omega
   ·rw[if_neg hk,aY,aY];omega
theorem RelO.some_of{v:V}{o:Option Value}(r:RelO (some v) o):∃u,o=some u/\RelV v u:=by
 cases o with
 |none=>exact(show False from r).elim
 |some u=>exact⟨u,rfl,r⟩
theorem RelO.none_of{o:Option Value}(r:RelO none o):o=none:=by
 cases o with
 |none=>rfl
 |some u=>exact(show False from r).elim
theorem qKq{v:V}{u:Value}(r:RelV v u):PySem.W.handedIn u=true:=by
 cases v with
 |non=>cases(show u=Value.none from r);rfl
 |bl b=>cases(show u=Value.bool b from r);rfl
 |int i=>obtain⟨t,e⟩:=(show∃t,u=Value.int i t from r);cases e;rfl
 |str x=>obtain⟨t,e⟩:=(show∃t,u=Value.str x t from r);cases e;rfl
 |byt b=>obtain⟨t,e⟩:=(show∃t,u=Value.bytes b t from r);cases e;rfl
 |flt b=>obtain⟨t,e⟩:=(show∃t,u=Value.float b t from r);cases e;rfl
 |ref a=>cases(show u=Value.ref a from r);rfl
 |ty n=>cases(show u=Value.type n from r);rfl
section
variable{P:bV}{w:bW}{H H' :Hp}{h h' :Heap}{a C dx:aV}{fs fs' :List (Str×V)}
theorem vQj(hok:HOk P w H h)(e:H a=some (.ins C dx fs)):∃mA,ObjM h a dx C mA/\(∀f,RelO (fs.lookup f) (mA f))/\PySem.Within mA (fs.map (·.1))/\fs.length<=1000/\H dx=some (.own a):=by
 obtain⟨d,z,ne,ob,mA,n,r,q⟩:=(show zD P w H h a (.ins C dx fs) from hok a _ e)
 exact⟨mA,⟨ob,n,ne⟩,r,q,z,d⟩
end
structure Cls(K:aQ)(C:aV):Prop where
 pg:PySem.W.plainGet K C Str.empty=true
 hd:PySem.W.hasDictIn K C=true
 po:PySem.W.plainOver K C=true
 sa:bF K (.ref C) "__setattr__"=some (some (.builtin "object.__setattr__"))
theorem Cls.get(c:Cls K C)(f:Str):PySem.W.plainGet K C f=true:=c.pg
noncomputable def yX(K:aQ)(C:aV)(f:Str):Prop:=bF K (.ref C) f=some none
theorem yX.taker{f:Str}(n:yX K C f):PySem.W.takerIn K C f=some none:=by
 unfold PySem.W.takerIn;rw[show bF K (.ref C) f=some none from n];rfl
structure Meth(K:aQ)(C:aV)(m:Str)(f:aV):Prop where
 at_:bF K (.ref C) m=some (some (.ref f))
 fn:PySem.W.isFn K (.ref f)=true
 kp:cX K (.ref f)=true
section
variable{X:Cx}{pins:List (aV×Obj)}{σ:St}{H:Hp}{s:aJ}{a C dx:aV}{fs:List (Str×V)}{f:Str}{v:V}{A:bS}{E:Value->aJ->Prop}
theorem qYp{b:Bool}(I:Inv X pins σ H s)(e:H a=some (.ins C dx fs))(c:Cls X.K C)(n:yX X.K C f)(l:fs.lookup f=some v)(h:∀u s',Inv X pins σ H s' ->RelV v u->Q u s'):aI (model X.prog X.w) A (getAttr (.ref a) f b) Q E s:=by
 obtain⟨mA,O,r,_,_,_⟩:=vQj I.hok e;obtain⟨u,hu,ru⟩:=RelO.some_of (v:=v) (o:=mA f) (by rw[←l];exact r f);exact zWj I.kIn O (c.get f) c.hd n hu (qKq ru) (h u _ (I.tok _) ru)
theorem qYo{m:Str}{g:aV}{Q:Value×List Value->aJ->Prop}(I:Inv X pins σ H s)(e:H a=some (.ins C dx fs))(c:Cls X.K C)(k:Meth X.K C m g)(l:fs.lookup m=none)(h:Q (.ref g,[.ref a]) s):aI (model X.prog X.w) A (getMethod (.ref a) m pl) Q E s:=by
 obtain⟨mA,O,r,_,_,_⟩:=vQj I.hok e;have hn:mA m=none:=RelO.none_of (by rw[←l];exact r m);exact zV6 I.kIn O (c.get m) k.at_ k.fn hn h
theorem qYi{u:Value}{Q:Unit->aJ->Prop}(I:Inv X pins σ H s)(e:H a=some (.ins C dx fs))(c:Cls X.K C)(n:yX X.K C f)(hl:fs.length<1000)(ry:RelV y u)(h:∀s',Inv X pins σ (upd H a (.ins C dx (putF f y fs))) s' ->Q () s'):aI (model X.prog X.w) A (setAttr (.ref a) f u) Q E s:=by
 obtain⟨mA,O,r,wi,_,ho⟩:=vQj I.hok e;have hz:(fs.map (·.1)).length <=aR:=by rw[aK,sizeLine_eq];omega
 refine zZz I.kIn O c.sa c.po n.taker c.hd wi hz fun h' O' sb=>h _ ?_
 have hd:∃o,h'.get? dx=some o:=let ⟨o,_,_,e',_⟩:=O'.ns;⟨o,e'⟩;refine I.write (x:=a) (e:=dx) (by rw[e];exact True.intro) (.inr ho) (fun b q hb z=>(sb.2 b hb).trans z) hd ?_
 refine⟨by rw[qF O.ne];exact ho,?_,O.ne,O'.obj,_,O'.ns,fun g=>?_,fun g hg=>?_⟩
 ·have:=qW1 f y fs;omega
 ·show RelO ((putF f y fs).lookup g) (if g=f then some u else mA g);rw[qWz];by_cases q:g=f
  ·rw[if_pos q,if_pos q];exact ry
  ·rw[if_neg q,if_neg q];exact r g
 ·by_cases q:g=f
  ·rw[q];exact(qWj f y fs).1
  ·refine(qWj f y fs).2 g (wi g fun z=>hg ?_);show(if g=f then some u else mA g)=none;rw[if_neg q];exact z
theorem Inv.made(I:Inv X pins σ H s):Inv X pins σ (upd (upd H s.heap.objs.size (.own (s.heap.objs.size+1))) (s.heap.objs.size+1) (.ins C s.heap.objs.size []))
  {s with heap:=(s.heap.push cY).push (cM C s.heap.objs.size)}:=by
 have e1:(s.heap.push cY).get? s.heap.objs.size=some cY:=aT s.heap rfl;have e2:((s.heap.push cY).push (cM C s.heap.objs.size)).get? (s.heap.objs.size+1)=some (cM C s.heap.objs.size):=by
  have:=aT (s.heap.push cY) (o:=cM C s.heap.objs.size) rfl;rwa [dJ]at this
 have e3:(s.heap.push cY).Ns s.heap.objs.size (fun _=>none):=⟨cY,#[],_,e1,rfl,(fun e he=>absurd he (by simp)),fun _=>rfl⟩
 have I1:=I.laid (a:=s.heap.objs.size) (o:=.own (s.heap.objs.size+1)) (h' :=s.heap.push cY) (t' :=s.toks) (fun b u q=>aW _ q) (aD _) ⟨_,e1⟩;refine I1.laid (a:=s.heap.objs.size+1) (o:=.ins C s.heap.objs.size []) (t' :=s.toks) (fun b u q=>aW _ q) (Nat.le_of_eq (dJ _ _)) ?_
 have ne:s.heap.objs.size≠s.heap.objs.size+1:=bJ (Nat.lt_succ_self _);refine⟨by rw[qF ne,upd_same],Nat.zero_le _,ne,e2,fun _=>none,(Heap.Ns1.of_empty e3).at fun o q=>aW _ q,fun _=>True.intro,fun y hy=>absurd rfl hy⟩
theorem vXm{prog:bV}{w:bW}{env:Env}{e:Expr}{f:Str}{pos:Pos}{s:aJ}(hb:attributeBase e f env (eval e env)=eval e env)(h:aI (model prog w) A (eval e env) (fun o s₁=>aI (model prog w) A (getAttr o f true) Q E s₁) E s):aI (model prog w) A (eval (.Attribute e f pos) env) Q E s:=
 Attribute_any_ h (by rw[arm_eval_Attribute,hb])
end
noncomputable def tFld(K:aQ)(ta:TE)(f:Str):TE:=fun σ H Q=>ta σ H fun x H1=>∃a C dx fs v,x=.ref a/\H1 a=some (.ins C dx fs)/\Cls K C/\yX K C f/\fs.lookup f=some v/\Q v H1
noncomputable def sFld(K:aQ)(ta tv:TE)(f:Str):TS:=fun D σ H=>tv σ H fun y H1=>ta σ H1 fun x H2=>∃a C dx fs,x=.ref a/\H2 a=some (.ins C dx fs)/\Cls K C/\yX K C f/\fs.length<1000/\
 D.nx σ (upd H2 a (.ins C dx (putF f y fs)))
noncomputable def InOp(X:Cx)(op:Operator)(rd:V->V->Hp->VK->Prop):Prop:=
 ∀(pins:List (aV×Obj)) (s:aJ) (σ:St) (H:Hp) (x y:V) (u v:Value) (Q:VK),Inv X pins σ H s->RelV x u->RelV y v->rd x y H Q->aI (model X.prog X.w) X.A (inplaceOp op u v) (EP X pins σ Q) X.xe s
noncomputable def zZ6(K:aQ)(ta tv:TE)(rd:V->V->Hp->VK->Prop)(f:Str):TS:=fun D σ H=>ta σ H fun x H1=>∃a C dx fs v,x=.ref a/\H1 a=some (.ins C dx fs)/\Cls K C/\yX K C f/\fs.lookup f=some v/\
 tv σ H1 fun y H2=>rd v y H2 fun z H3=>∃dx' fs',H3 a=some (.ins C dx' fs')/\fs'.length<1000/\D.nx σ (upd H3 a (.ins C dx' (putF f z fs')))
section
variable{X:Cx}{o e value:Expr}{f:Str}{pos pos' tpos:Pos}{ta tv:TE}
theorem zYw(he:PE X e ta)(hb:attributeBase e f X.env (eval e X.env)=eval e X.env):PE X (.Attribute e f pos) (tFld X.K ta f):=by
 intro pins s σ H Q I h;refine vXm hb (thn (he pins s σ H _ I h) fun u s1 ⟨x,H1,I1,rx,a,C,dx,fs,v,ex,ea,c,n,l,q⟩=>?_);subst ex;obtain rfl:u=Value.ref a:=rx;exact qYp I1 ea c n l fun u' s2 I2 ru=>⟨v,H1,I2,ru,q⟩
theorem zYg(ha:PE X o ta)(hv:PE X value tv)(hs:swapsWith value (some (.Attribute o f pos')) pos.line X.env=pure false):PS X (.Assign [.Attribute o f pos'] value pos) (sFld X.K ta tv f):=by
 intro pins s σ H D I h;refine plainObj_wpAny_Assign_Attribute (thn (hv pins s σ H _ I h) fun u s1 ⟨y,H1,I1,ry,q⟩=>thn (ha pins s1 σ H1 _ I1 q) fun ov s2 ⟨x,H2,I2,rx,a,C,dx,fs,ex,ea,c,n,l,q2⟩=>?_) hs;subst ex;obtain rfl:ov=Value.ref a:=rx;exact qYi I2 ea c n l ry fun s3 I3=>⟨σ,_,I3,q2⟩
theorem vX2{op:Operator}{rd:V->V->Hp->VK->Prop}(ha:PE X o ta)(hv:PE X value tv)(hop:InOp X op rd):PS X (.AugAssign (.Attribute o f tpos) op value pos) (zZ6 X.K ta tv rd f):=by
 intro pins s σ H D I h;refine wpAny_AugAssign_AttributeAny (thn (ha pins s σ H _ I h) fun ov s1 ⟨x,H1,I1,rx,a,C,dx,fs,v,ex,ea,c,n,l,q⟩=>?_);subst ex;obtain rfl:ov=Value.ref a:=rx;refine qYp I1 ea c n l fun u s2 I2 ru=>thn (hv pins s2 σ H1 _ I2 q) fun w3 s3 ⟨y,H2,I3,ry,q3⟩=>thn (hop pins s3 σ H2 v y u w3 _ I3 ru ry q3) fun w4 s4 ⟨z,H3,I4,rz,dx',fs',ea',l',q4⟩=>?_
 exact qYi I4 ea' c n l' rz fun s5 I5=>⟨σ,_,I5,q4⟩
end
structure Room(k:Nat)(A:bS):Prop where
 hd:A.handled=none
 dp:A.depth+3 * k+5<recursionLimit
 un:A.units+16 * k+200<dF
 gd:A.guards=some []
theorem Room.mono{k:Nat}(r:Room k A)(h:j<=k):Room j A:=⟨r.hd,by have:=r.dp;omega,by have:=r.un;omega,r.gd⟩
theorem Room.deeper{k:Nat}(r:Room (k+1) A)(env:Env):Room k (A.deeper env):=
 ⟨r.hd,by have:=r.dp;show A.depth+1+3 * k+5<_;omega,by have:=r.un;show A.units+3+16 * k+200<_;omega,r.gd⟩
theorem vJo:(A.under (.builtin "type.__call__" ⟨.ref C::us,kw⟩)).depth =A.depth+1:=by
 first|rfl|simp[guardIds]
theorem vJn:(A.under (.builtin "type.__call__" ⟨.ref C::us,kw⟩)).units =A.units+1:=by
 first|rfl|simp[Code.frames]
theorem vZf:(A.under (.builtin "type.__call__" ⟨.ref C::us,kw⟩)).guards =A.guards:=by
 first|rfl|simp[guardIds]
theorem Room.make{k:Nat}(r:Room (k+1) A)(C:aV)(us:List Value)(kw:List (Str×Value)):Room k (A.under (.builtin "type.__call__" ⟨.ref C::us,kw⟩)):=
 ⟨r.hd,by have:=r.dp;rw[vJo];omega,by have:=r.un;rw[vJn];omega,by rw[vZf];exact r.gd⟩
theorem Room.depth{k:Nat}(r:Room k A):A.depth<recursionLimit:=by have:=r.dp;omega
theorem Room.units{k:Nat}(r:Room k A):A.units+64<dF:=by have:=r.un;omega
noncomputable def tNil:TA:=fun _ H Q=>Q [] H
noncomputable def qY3(ta:TE)(tr:TA):TA:=fun σ H Q=>ta σ H fun x H1=>tr σ H1 fun xs H2=>Q (x::xs) H2
section
variable{X:Cx}{e:Expr}{es:List Expr}{te:TE}{t:TA}{pos:Pos}
theorem qZ6:PA X [] tNil:=fun _ _ _ _ H Q I h=>Calls.spliced_nil ⟨[],H,I,.nil,h⟩
theorem qQn(ha:PE X e te)(hr:PA X es t)(hs:aX (e::es) X.env=(false,eval e X.env)::aX es X.env:=by rfl):PA X (e::es) (qY3 te t):=by
 intro pos pins s σ H Q I h;rw[hs];refine Calls.spliced_cons (thn (ha pins s σ H _ I h) fun u s1 ⟨x,H1,I1,r1,q1⟩=>?_);exact thn (hr pos pins s1 σ H1 _ I1 q1) fun us s2 ⟨xs,H2,I2,r2,q2⟩=>⟨x::xs,H2,I2,.cons r1 r2,q2⟩
noncomputable def tTup(t:TA):TE:=fun σ H Q=>t σ H fun xs H1=>xs.length<=aR/\∀p,H1 p=none->Q (.ref p) (upd H1 p (.tup xs))
noncomputable def tLst(t:TA):TE:=fun σ H Q=>t σ H fun xs H1=>xs.length<=aR/\∀p,H1 p=none->Q (.ref p) (upd H1 p (.lst xs))
theorem zYq{x1}(h:PA X es t):PE X (.Tuple es x1 pos) (tTup t):=by
 intro pins s σ H Q I hq;refine wpAny_Tuple_spliced (thn (h pos pins s σ H _ I hq) fun us s1 ⟨xs,H1,I1,r,z,q⟩=>⟨by rw[←r.length];exact z,?_⟩);have hf:H1 s1.heap.objs.size=none:=I1.hok.fresh (aD _);refine⟨.ref s1.heap.objs.size,upd H1 s1.heap.objs.size (.tup xs),I1.laid (t' :=s1.toks) (fun b u e=>aW _ e) (aD _) ?_,rfl,q _ hf⟩;exact⟨z,us,r,⟨_,aT _ rfl,rfl,_,rfl⟩⟩
theorem zYu(h:PA X es t):PE X (.List es pos) (tLst t):=by
 intro pins s σ H Q I hq;refine wpAny_List_spliced (thn (h pos pins s σ H _ I hq) fun us s1 ⟨xs,H1,I1,r,z,q⟩=>⟨by rw[←r.length];exact z,?_⟩);have hf:H1 s1.heap.objs.size=none:=I1.hok.fresh (aD _);refine⟨.ref s1.heap.objs.size,upd H1 s1.heap.objs.size (.lst xs),I1.laid (t' :=s1.toks) (fun b u e=>aW _ e) (aD _) ?_,rfl,q _ hf⟩;exact⟨z,us,0,r,aT _ rfl⟩
end
noncomputable abbrev Sp:=List V->Hp->VK->XK->Prop
noncomputable abbrev CXT:=List Env->Hp->aJ->XK->Value->aJ->Prop
structure Env0(P:bV)(w:bW)(K:aQ)(mg:Str->Option Value)(base:Heap)(A:bS)(outer:List Env)(s:aJ)(H:Hp):Prop where
 frames:A.frames=some outer
 mod:Mod K mg base
 bs:∀b o,base.get? b=some o->s.heap.get? b=some o/\H b=none
 bsz:base.objs.size<=s.heap.objs.size
 funs:s.heap.FunFrames base outer
 frf:∀b∈frs outer,H b=none
 hok:HOk P w H s.heap
 bare:AllBare s.gens
noncomputable def CE(outer:List Env)(P:bV)(w:bW)(H:Hp)(s:aJ)(Q:VK)(u:Value)(s' :aJ):Prop:=
 ∃v H',s'.os=s.os/\AllBare s'.gens/\Un (frs outer) [] H H' s.heap s'.heap/\HOk P w H' s'.heap/\RelV v u/\Q v H'
noncomputable def CR(CX:CXT)(outer:List Env)(P:bV)(w:bW)(H:Hp)(s:aJ)(Q:VK)(E:XK)(r:Result)(s' :aJ):Prop:=
 match r with
 |.ok (.ret u)=>CE outer P w H s Q u s'
 |.ok _=>False
 |.error e=>CX outer H s E e s'
structure FnOk(P:bV)(w:bW)(K:aQ)(mg:Str->Option Value)(base:Heap)(CX:CXT)(k:Nat)(f:aV)(fd:bQ)(ps:List Str)(sp:Sp):Prop where
 len:∀vs H Q E,sp vs H Q E->vs.length=ps.length
 run:∀(A:bS) (outer:List Env) (s:aJ) (H:Hp) (args:Args) (us:List Value) (vs:List V) (Q:VK) (E:XK),Room k A->Env0 P w K mg base A outer s H->BindsTo s fd args (ps.zip us)->Vals vs us->sp vs H Q E->
  codeAny (model P w) A (.call (.ref f) args) (CR CX outer P w H s Q E) s
theorem FnOk.imp{P:bV}{w:bW}{base:Heap}{k:Nat}{f:aV}{sp':Sp}(F:FnOk P w K mg base CX k f fd ps sp)(h:∀vs H Q E,sp' vs H Q E->sp vs H Q E):FnOk P w K mg base CX k f fd ps sp' :=
 ⟨fun vs H Q E q=>F.len vs H Q E (h _ _ _ _ q),fun A outer s H args us vs Q E hr he hb hv hs=>F.run A outer s H args us vs Q E hr he hb hv (h _ _ _ _ hs)⟩
theorem Env0.make{P:bV}{w:bW}{base:Heap}{s:aJ}(e:Env0 P w K mg base A outer s H)(C:aV)(us:List Value)(kw:List (Str×Value)):
  Env0 P w K mg base (A.under (.builtin "type.__call__" ⟨.ref C::us,kw⟩)) outer s H:=⟨by first|exact e.frames|(simpa[Around.under,Code.envs,Code.isFrame,pushEnvs] using e.frames),e.mod,e.bs,e.bsz,e.funs,e.frf,e.hok,e.bare⟩
section
variable{X:Cx}{pins:List (aV×Obj)}{σ:St}{H:Hp}{s s' :aJ}
theorem Inv.env0(I:Inv X pins σ H s):Env0 X.prog X.w X.K X.mg X.base X.A X.stack s H:=
 ⟨I.ok.frames,I.ok.mod,I.bs,aO I.ok.bsz I.sz,I.stack,I.stkFree,I.hok,I.bare⟩
theorem Inv.after{Q:VK}{u:Value}(I:Inv X pins σ H s)(h:CE X.stack X.prog X.w H s Q u s'):EP X pins σ Q u s' :=by
 obtain⟨v,H',os,bare,un,hok,r,q⟩:=h;obtain⟨hh,g,d,t,os'⟩:=s';obtain rfl:os' =s.os:=os;exact⟨v,H',I.call (h' :=hh) (g' :=g) (d' :=d) (t' :=t) (ch:=[]) un hok bare (fun b z=>absurd z (by simp)),r,q⟩
end
noncomputable def zW5(sp:Sp)(dvs:List V)(E:XK)(t:TA):TE:=fun σ H Q=>t σ H fun vs H1=>sp (vs ++ dvs) H1 Q E
noncomputable def vJv(C:aV)(m:Str)(sp:Sp)(dvs:List V)(E:XK)(ta:TE)(t:TA):TE:=fun σ H Q=>ta σ H fun x H1=>∃a dx fs,x=.ref a/\H1 a=some (.ins C dx fs)/\fs.lookup m=none/\
 t σ H1 fun vs H2=>sp (x::(vs ++ dvs)) H2 Q E
noncomputable def vY8(C:aV)(sp:Sp)(dvs:List V)(E:XK)(t:TA):TE:=fun σ H Q=>t σ H fun vs H1=>∀x dx,H1 x=none->H1 dx=none->dx≠x->
 sp (.ref x::(vs ++ dvs)) (upd (upd H1 dx (.own x)) x (.ins C dx [])) (fun v H2=>v=.non /\Q (.ref x) H2) E
noncomputable def wI(K:aQ)(fd:bQ)(ps:List Str)(ds:List Value):Prop:=
 ∀(s:aJ) (us:List Value),K.In s.heap->(us ++ ds).length =ps.length->BindsTo s fd ⟨us,[]⟩ (ps.zip (us ++ ds))
theorem wI.all(h:∀us:List Value,us.length=ps.length->bindArgs fd ⟨us,[]⟩=pure (ps.zip us)):wI K fd ps []:=fun s us _ hl=>by
 rw[bG]at hl⊢;exact .of_eq (h us hl)
noncomputable def jM(CX:CXT)(X:Cx)(E:XK):Prop:=∀(pins:List (aV×Obj)) (σ:St) (H:Hp) (s:aJ) (e:Value) (s' :aJ),Inv X pins σ H s->CX X.stack H s E e s' ->X.xe e s'
section
variable{X:Cx}{CX:CXT}{k:Nat}{f C:aV}{fd:bQ}{ps:List Str}{sp:Sp}{dvs:List V}{ds:List Value}{E:XK}{x m:Str}{p pos apos:Pos}{e o:Expr}{es:List Expr}{ta:TE}{t:TA}
theorem vZm{σ:St}{s:aJ}{Q:VK}(F:FnOk X.prog X.w X.K X.mg X.base CX k f fd ps sp)(hr:Room k X.A)(hb:wI X.K fd ps ds)(hd:Vals dvs ds)(hx:jM CX X E)(I:Inv X pins σ H s)(r:Vals vs us)(h:sp (vs ++ dvs) H Q E):aI (model X.prog X.w) X.A (call (.ref f) us) (EP X pins σ Q) X.xe s:=by
 have r2:Vals (vs ++ dvs) (us ++ ds):=r.append hd;have hl:(us ++ ds).length =ps.length:=by rw[←r2.length];exact F.len _ _ _ _ h
 refine wpAny_call (codeAny_mono (F.run X.A X.stack s H ⟨us,[]⟩ (us ++ ds) (vs ++ dvs) Q E hr I.env0 (hb s us I.kIn hl) r2 h) fun r s' hq=>?_);cases r with
 |error e=>exact hx pins σ H s e s' I hq
 | ok fl=>
   cases fl with
   |ret u=>exact I.after hq
   |next=>exact False.elim hq
   |brk=>exact False.elim hq
   |cont=>exact False.elim hq
theorem zJt(F:FnOk X.prog X.w X.K X.mg X.base CX k f fd ps sp)(hr:Room k X.A)(hg:Gl X x)(hm:X.mg x=some (.ref f))(hk:cX X.K (.ref f)=true)(hb:wI X.K fd ps ds)(hd:Vals dvs ds)(hx:jM CX X E)(ha:PA X (e::es) t)(hdb:(x == ("__debug__":Str))=false:=by decide)(he:aX (e::es) X.env=(false,eval e X.env)::aX es X.env:=by rfl)(hpl:(bI pos (aX es X.env)).any (·.1)=false:=by rfl):
  PE X (.Call (.Name x p) (e::es) [] pos) (zW5 sp dvs E t):=by
 intro pins s σ H Q I h;refine dB (qQo I hg hm ?_ hdb);refine PySem.W.callWith_K (h₀:=X.base) I.ok.mod.kin hk (thn (ha pos pins s σ H _ I h) fun us s1 ⟨vs,H1,I1,r,q⟩=>⟨I1.kIn,?_⟩) he hpl;exact vZm F hr hb hd hx I1 r q
theorem vWp(he:PE X o ta)(c:Cls X.K C)(hm:Meth X.K C m f)(F:FnOk X.prog X.w X.K X.mg X.base CX k f fd ps sp)(hr:Room k X.A)(hb:wI X.K fd ps ds)(hd:Vals dvs ds)(hx:jM CX X E)(ha:PA X (e::es) t)(hst:aX (e::es) X.env=(false,eval e X.env)::aX es X.env:=by rfl)(hpl:(bI pos (aX es X.env)).any (·.1)=false:=by rfl)(ht:eval (.Call (.Attribute o m apos) (e::es) [] pos) X.env=(do
   let ov ←eval o X.env;standAt apos.atName;let (f,first) ←holding [ov] (getMethod ov m pl);callWith pos f first (bI pos (aX (e::es) X.env)) (backToKw pos (keywordEach [] X.env))):=by rfl):
  PE X (.Call (.Attribute o m apos) (e::es) [] pos) (vJv C m sp dvs E ta t):=by
 intro pins s σ H Q I h;refine PySem.W.methodCall_KW (pl:=pl) (thn (he pins s σ H _ I h) fun u s1 ⟨x,H1,I1,rx,a,dx,fs,ex,ea,l,q⟩=>?_) ht;subst ex;obtain rfl:u=Value.ref a:=rx;refine qYo I1 ea c hm l ?_
 refine PySem.W.callWith_K (first:=[.ref a]) (h₀:=X.base) I.ok.mod.kin hm.kp (thn (ha pos pins s1 σ H1 _ I1 q) fun us s2 ⟨vs,H2,I2,r,q2⟩=>⟨I2.kIn,?_⟩) hst hpl;exact vZm (us:=.ref a::us) (vs:=.ref a::vs) F hr hb hd hx I2 (.cons rfl r) q2
theorem zVe(he:PE X o ta)(c:Cls X.K C)(hm:Meth X.K C m f)(F:FnOk X.prog X.w X.K X.mg X.base CX k f fd ps sp)(hr:Room k X.A)(hb:wI X.K fd ps ds)(hd:Vals dvs ds)(hx:jM CX X E)(ht:eval (.Call (.Attribute o m apos) [] [] pos) X.env=(do
   let ov ←eval o X.env;standAt apos.atName;let (f,first) ←holding [ov] (getMethod ov m pl);callWith pos f first (bI pos (aX [] X.env)) (backToKw pos (keywordEach [] X.env))):=by rfl):
  PE X (.Call (.Attribute o m apos) [] [] pos) (vJv C m sp dvs E ta tNil):=by
 intro pins s σ H Q I h;refine PySem.W.methodCall_KW (pl:=pl) (thn (he pins s σ H _ I h) fun u s1 ⟨x,H1,I1,rx,a,dx,fs,ex,ea,l,q⟩=>?_) ht;subst ex;obtain rfl:u=Value.ref a:=rx;refine qYo I1 ea c hm l ?_
 exact PySem.W.callWith_K0 (first:=[.ref a]) I1.kIn hm.kp (vZm (us:=[.ref a]) (vs:=[.ref a]) F hr hb hd hx I1 (.cons rfl .nil) q)
structure Mk(K:aQ)(C f:aV):Prop where
 makes:PySem.W.makesIn K C=true
 init:bF K (.ref C) "__init__"=some (some (.ref f))
 fn:PySem.W.isFn K (.ref f)=true
 kp:cX K (.ref C)=true
theorem vVk{σ:St}{s:aJ}{Q:VK}(M:Mk X.K C f)(F:FnOk X.prog X.w X.K X.mg X.base CX k f fd ps sp)(hr:Room (k+1) X.A)(hb:wI X.K fd ps ds)(hd:Vals dvs ds)(hx:jM CX X E)(I:Inv X pins σ H s)(r:Vals vs us)(h:∀x dx,H x=none->H dx=none->dx≠x->sp (.ref x::(vs ++ dvs)) (upd (upd H dx (.own x)) x (.ins C dx [])) (fun v H2=>v=.non /\Q (.ref x) H2) E):
  aI (model X.prog X.w) X.A (call (.ref C) us) (EP X pins σ Q) X.xe s:=by
 have hq:=h (s.heap.objs.size+1) s.heap.objs.size (I.hok.fresh (Nat.le_succ _)) (I.hok.fresh (aD _)) (bJ (Nat.lt_succ_self _));have I2:=Inv.made (C:=C) I;have r2:Vals (V.ref (s.heap.objs.size+1)::(vs ++ dvs)) (Value.ref (s.heap.objs.size+1)::(us ++ ds)):=.cons rfl (r.append hd);have hl:(Value.ref (s.heap.objs.size+1)::us ++ ds).length =ps.length:=by
  have e:=r2.length;rw[F.len _ _ _ _ hq]at e;exact e.symm
 refine wpAny_call (zVp (f:=f) I.kIn M.makes M.init (beq_iff_eq.mp M.fn) (codeAny_mono (F.run _ X.stack _ _ ⟨Value.ref (s.heap.objs.size+1)::us,[]⟩ (Value.ref (s.heap.objs.size+1)::(us ++ ds)) _ _ E (hr.make C us [])
  (I2.env0.make C us []) (hb _ (Value.ref (s.heap.objs.size+1)::us) I2.kIn hl) r2 hq) fun r s' hq' =>?_))
 cases r with
 |error e=>exact hx pins σ _ _ e s' I2 hq'
 | ok fl=>
   cases fl with
   | ret u=>
     obtain⟨v,H',I3,rv,ev,q3⟩:=I2.after hq';subst ev;exact⟨rv,⟨V.ref (s.heap.objs.size+1),H',I3,rfl,q3⟩⟩
   |next=>exact False.elim hq'
   |brk=>exact False.elim hq'
   |cont=>exact False.elim hq'
theorem zJq(M:Mk X.K C f)(F:FnOk X.prog X.w X.K X.mg X.base CX k f fd ps sp)(hr:Room (k+1) X.A)(hg:Gl X x)(hm:X.mg x=some (.ref C))(hb:wI X.K fd ps ds)(hd:Vals dvs ds)(hx:jM CX X E)(ha:PA X (e::es) t)(hdb:(x == ("__debug__":Str))=false:=by decide)(he:aX (e::es) X.env=(false,eval e X.env)::aX es X.env:=by rfl)(hpl:(bI pos (aX es X.env)).any (·.1)=false:=by rfl):
  PE X (.Call (.Name x p) (e::es) [] pos) (vY8 C sp dvs E t):=by
 intro pins s σ H Q I h;refine dB (qQo I hg hm ?_ hdb);refine PySem.W.callWith_K (h₀:=X.base) I.ok.mod.kin M.kp (thn (ha pos pins s σ H _ I h) fun us s1 ⟨vs,H1,I1,r,q⟩=>⟨I1.kIn,?_⟩) he hpl;exact vVk M F hr hb hd hx I1 r q
theorem zVf(M:Mk X.K C f)(F:FnOk X.prog X.w X.K X.mg X.base CX k f fd ps sp)(hr:Room (k+1) X.A)(hg:Gl X x)(hm:X.mg x=some (.ref C))(hb:wI X.K fd ps ds)(hd:Vals dvs ds)(hx:jM CX X E)(hdb:(x == ("__debug__":Str))=false:=by decide):PE X (.Call (.Name x p) [] [] pos) (vY8 C sp dvs E tNil):=by
 intro pins s σ H Q I h;refine dB (qQo I hg hm ?_ hdb);exact PySem.W.callWith_K0 I.kIn M.kp (vVk (us:=[]) M F hr hb hd hx I .nil h)
end
structure FnScope(N P:List Str)(sc:Scope):Prop where
 kind:sc.kind=.function
 co:sc.isCoroutine=false
 gen:sc.isGenerator=false
 nd:N.Nodup
 pre:N.take P.length=P
 par:∀x∈P,sc.names.lookup x=some .local \/sc.names.lookup x=some .cell
 nofree:∀y∈sc.names,y.2≠ .free
theorem qKz{x:Str}:∀{binds:List (Str×Value)} {m:Str->Option Value},(∀v,(x,v)∉binds)->bindL kindOf binds m x=m x
 |[],_,_=>rfl
 | (n,v)::r,m,h=>by
   unfold bindL;rw[qKz fun w hw=>h w (aC _ hw)];split
   ·grind
   ·rfl
theorem qK1{x:Str}:∀{binds:List (Str×Value)} {m:Str->Option Value},(∀v,(x,v)∉binds)->bindC kindOf binds m x=m x
 |[],_,_=>rfl
 | (n,v)::r,m,h=>by
   unfold bindC;rw[qK1 fun w hw=>h w (aC _ hw)];split
   ·rfl
   ·grind
theorem qK0{x:Str}{v:Value}:∀{P:List Str} {vs:List Value} {i:Nat} {m:Str->Option Value},P.Nodup->P[i]?=some x->vs[i]?=some v->kindOf x=some .local ->
  bindL kindOf (P.zip vs) m x=some v
 |[],_,_,_,_,h,_,_=>by simp at h
 |_::_,[],_,_,_,_,h,_=>by simp at h
 | p::P,w::vs,0,m,nd,h1,h2,hk=>by
   simp at h1 h2;subst h1;subst h2;show bindL kindOf ((p,w)::P.zip vs) m p=_;unfold bindL;rw[qKz fun v hv=>(cS.mp nd).1 (List.of_mem_zip hv).1,if_pos hk];simp
 | p::P,w::vs,i + 1,m,nd,h1,h2,hk=>by
   unfold bindL;exact qK0 (i:=i) (cS.mp nd).2 (by simpa using h1) (by simpa using h2) hk
theorem qK2{x:Str}{v:Value}:∀{P:List Str} {vs:List Value} {i:Nat} {m:Str->Option Value},P.Nodup->P[i]?=some x->vs[i]?=some v->kindOf x≠some .local ->
  bindC kindOf (P.zip vs) m x=some v
 |[],_,_,_,_,h,_,_=>by simp at h
 |_::_,[],_,_,_,_,h,_=>by simp at h
 | p::P,w::vs,0,m,nd,h1,h2,hk=>by
   simp at h1 h2;subst h1;subst h2;show bindC kindOf ((p,w)::P.zip vs) m p=_;unfold bindC;rw[qK1 fun v hv=>(cS.mp nd).1 (List.of_mem_zip hv).1,if_neg hk];simp
 | p::P,w::vs,i + 1,m,nd,h1,h2,hk=>by
   unfold bindC;exact qK2 (i:=i) (cS.mp nd).2 (by simpa using h1) (by simpa using h2) hk
noncomputable def qVx(N:List Str)(vs:List V):St:=vs.map some ++ List.replicate (N.length - vs.length) none
noncomputable def cxOf(CX:CXT)(P:bV)(w:bW)(K:aQ)(mg:Str->Option Value)(base:Heap)(N:List Str)(qual:Str)(scope:Scope)(f:aV)(cd:Value)(A:bS)(outer:List Env)(s:aJ)(H:Hp)(E:XK):Cx where
 prog:=P;w:=w;K:=K;mg:=mg;base:=base;A:=A.deeper (envOfC qual scope s.heap.objs.size f cd);N:=N;s₀:=s;H₀:=H;env:=envOfC qual scope s.heap.objs.size f cd;outer:=outer;stack:=envOfC qual scope s.heap.objs.size f cd::outer;ex:=[]
 calm:=true;fn:=fun _=>true
 pn:=[]
 xe:=fun e s' =>aI (model P w) (A.deeper (envOfC qual scope s.heap.objs.size f cd)) (leaving (envOfC qual scope s.heap.objs.size f cd) e) (fun _ s'' =>CX outer H s E e s'') (fun e' s'' =>CX outer H s E e' s'') s'
theorem cell_has{sc:Scope}{x:Str}(h:sc.names.lookup x=some .cell):∃c,(cellsFrom n sc.names []).lookup x=some c:=by
 have q:=PySem.W.cellsFrom_some sc.names n [] (.inl h);exact Option.isSome_iff_exists.mp q
theorem vYm{P:bV}{w:bW}{base:Heap}{f:aV}{cd:Value}{s s1:aJ}{E:XK}(S:FnScope N ps scope)(hd:A.handled=none)(e0:Env0 P w K mg base A outer s H)(hl:vs.length=ps.length)(r:Vals vs us)(x:InCallC s s.heap.objs.size (bindL (envOfC qual scope s.heap.objs.size f cd).kindOf (ps.zip us) fun _=>none) (cellsFrom (s.heap.objs.size+1) scope.names []) (bindC (envOfC qual scope s.heap.objs.size f cd).kindOf (ps.zip us) fun _=>none) s1):
  Inv (cxOf CX P w K mg base N qual scope f cd A outer s H E) [] (qVx N vs) H s1:=by
 have hpl:ps.length<=N.length:=by have:=congrArg List.length S.pre;rw[List.length_take]at this;omega
 obtain⟨h1,tk,rfl,hk⟩:=x.done;have noA:∀b:aV,b∉(cxOf CX P w K mg base N qual scope f cd A outer s H E).ex :=fun b z=>absurd (show b∈([]:List aV) from z) (by simp)
 refine⟨⟨e0.mod,S.kind,rfl,rfl,aD _,fun y z c h1 h2=>?_,fun y hy=>?_,fun y c _ h=>?_,fun _=>hd,Around.frames_deeper e0.frames,.inr ⟨rfl,rfl⟩,fun b z=>absurd z (noA b),e0.bs,e0.bsz,fun b _ _=>noA b,fun b z=>absurd z (noA b),e0.funs,e0.frf⟩,
  rfl,e0.bare,Un.kept hk,⟨_,x.toInCall.ns,fun i y v h1 h2 h3=>?_⟩,fun y c h=>⟨_,x.cell y c h⟩,e0.hok.fresh (aD _),fun y c h=>?_,fun p hp=>absurd (show p∈([]:List (aV×Obj)) from hp) (by simp),e0.hok.kept hk,?_⟩
 ·exact name_of_addr x.apart (bR h1) (bR h2)
 ·have hy:scope.names.lookup y=some .cell \/scope.names.lookup y=some .free :=hy;rcases hy with hy|hy
  ·exact cell_has hy
  ·exact absurd rfl (S.nofree _ (bR hy))
 ·exact Nat.le_of_lt (x.above y c (bR h))
 ·have hi:i<vs.length:=by
   unfold qVx at h2;grind
  have ha:vs[i]?=some v:=by
   unfold qVx at h2;grind
  obtain⟨u,hu,rv⟩:=r.get ha;have hp:ps[i]?=some y:=by
   rw[←S.pre,List.getElem?_take_of_lt (by omega)];exact h1
  have ndP:ps.Nodup:=by rw[←S.pre];exact S.nd.sublist (List.take_sublist _ _)
  refine⟨u,rv,?_⟩;rcases S.par y (List.mem_of_getElem? hp) with k|k
  ·exact .inl ⟨k,qK0 ndP hp hu k⟩
  ·obtain⟨c,e⟩:=cell_has (n:=s.heap.objs.size + 1) k;refine .inr ⟨.inl k,c,e,?_⟩;have q:=x.cell y c e;rw[qK2 ndP hp hu (by show scope.names.lookup y≠_;rw[k];decide)]at q;exact q
 ·exact e0.hok.fresh (Nat.le_of_lt (x.above y c (bR h)))
 ·unfold qVx;show _=N.length;grind
theorem jQ9{P:bV}{w:bW}{base:Heap}{k:Nat}{f:aV}{name:Str}{params:Arguments}{dV kV doc pm cdv ct oc:Value}{an od:Option aV}{osl:Array (Option Value)}(lk:K.lookup f=some ⟨oc,od,.func (bM name qual params body scope dV kV doc pm an cdv ct),osl⟩)(hcd:PySem.W.codeIn K cdv qual=true)(S:FnScope N ps scope)(len:∀vs H Q E,sp vs H Q E->vs.length=ps.length)(hbody:∀(A:bS) (outer:List Env) (s:aJ) (H:Hp) (vs:List V) (Q:VK) (E:XK),Room k (A.deeper (envOfC qual scope s.heap.objs.size f cdv))->sp vs H Q E->
   ∃t,PSs (cxOf CX P w K mg base N qual scope f cdv A outer s H E) body t/\t {nx:=fun _ H' =>Q .non H',rt:=Q} (qVx N vs) H):
  FnOk P w K mg base CX (k+1) f (bM name qual params body scope dV kV doc pm an cdv ct) ps sp:=by
 refine⟨len,fun A outer s H args us vs Q E hr e0 hb r hsp=>?_⟩;have hl:=len _ _ _ _ hsp;have KX:K.In s.heap:=e0.mod.kin.keeps fun b o e=>(e0.bs b o e).1
 have lim:s.heap.NoLimit:=e0.mod.nolimit.keeps fun b o e=>(e0.bs b o e).1
 have hkind:∀y∈ps.zip us,scope.names.lookup y.1=some .local \/(scope.names.lookup y.1=some .cell /\((cellsFrom (s.heap.objs.size+1) scope.names []).lookup y.1).isSome =true):=fun⟨n,v⟩ hy=>by
  rcases S.par n (List.of_mem_zip hy).1 with q|q
  ·exact .inl q
  ·exact .inr ⟨q,PySem.W.cellsFrom_some _ _ _ (.inl q)⟩
 refine codeAny_call_function hr.depth (KX _ _ lk) rfl S.co S.gen rfl (PySem.W.codeRec_of KX hcd) (hb _ _ _ _ ?_);refine wpAny_newFunctionEnv_cells S.kind hkind fun env he s1 x=>?_
 subst he;refine⟨lim.keeps x.toInCall.keep,codeAny_func ?_⟩;obtain⟨t,ht,hq⟩:=hbody A outer s H vs Q E (hr.deeper _) hsp;have I:Inv (cxOf CX P w K mg base N qual scope f cdv A outer s H E) [] (qVx N vs) H s1:=vYm S hr.hd e0 hl r x;refine bU (ht [] s1 (qVx N vs) H _ I hq) (fun fl s' hs=>?_) fun e s' hs=>hs
 have fin:∀{σ' :St} {H' :Hp} {v:V} {u:Value},Inv (cxOf CX P w K mg base N qual scope f cdv A outer s H E) [] σ' H' s' ->RelV v u->Q v H' ->CE outer P w H s Q u s' :=
  fun {σ' H' v u} J rv q=>⟨v,H',J.os,J.bare,J.base,J.hok,rv,q⟩
 cases fl with
 | ret u=>
   obtain⟨v,σ',H',J,rv,q⟩:=hs;exact fin J rv q
 | next=>
   obtain⟨σ',H',J,q⟩:=hs;exact fin (v:=V.non) (u:=Value.none) J rfl q
 | brk=>
   obtain⟨_,_,_,q⟩:=hs;exact False.elim q
 | cont=>
   obtain⟨_,_,_,q⟩:=hs;exact False.elim q
section
variable{X:Cx}{x:Str}{p pos:Pos}{e:Expr}{es:List Expr}{t:TA}{id T:String}{r:List V->Hp->VK->Prop}
noncomputable def tCB(r:List V->Hp->VK->Prop)(t:TA):TE:=fun σ H Q=>t σ H fun vs H1=>r vs H1 Q
theorem vVq(hc:yV X (.builtin id) r)(hg:Gl X x)(hm:X.mg x=none)(hv:cI x=some (.builtin id))(ha:PA X (e::es) t)(hn:x≠"__name__":=by decide)(hdb:(x == ("__debug__":Str))=false:=by decide)(he:aX (e::es) X.env=(false,eval e X.env)::aX es X.env:=by rfl)(hpl:(bI pos (aX es X.env)).any (·.1)=false:=by rfl):PE X (.Call (.Name x p) (e::es) [] pos) (tCB r t):=by
 intro pins s σ H Q I h;refine dB (qZ7 I hg hm hv ?_ hn hdb);exact PyProof.Rows.callWith_builtin1 (thn (ha pos pins s σ H _ I h) fun us s1 ⟨vs,H1,I1,r1,q1⟩=>hc pins s1 σ H1 vs us Q I1 r1 q1) he hpl
theorem qWg(hc:yV X (.type T) r)(hg:Gl X x)(hm:X.mg x=none)(hv:cI x=some (.type T))(ha:PA X (e::es) t)(hn:x≠"__name__":=by decide)(hdb:(x == ("__debug__":Str))=false:=by decide)(he:aX (e::es) X.env=(false,eval e X.env)::aX es X.env:=by rfl)(hpl:(bI pos (aX es X.env)).any (·.1)=false:=by rfl):PE X (.Call (.Name x p) (e::es) [] pos) (tCB r t):=by
 intro pins s σ H Q I h;refine dB (qZ7 I hg hm hv ?_ hn hdb);exact cB (thn (ha pos pins s σ H _ I h) fun us s1 ⟨vs,H1,I1,r1,q1⟩=>hc pins s1 σ H1 vs us Q I1 r1 q1) he hpl
end
end L2
namespace HT
open PySem PyProof.Rows
section
variable{prog:bV}{w:bW}{A:bS}{E:Value->aJ->Prop}{s:aJ}
noncomputable def sIx(n d:Nat):Option Int->Nat
 |none=>d
 |some v=>if v<0 then(v+(n:Int)).toNat else min v.toNat n
end
end HT
namespace L2
open PySem PySem.Spec PyProof.Rows
variable{n t':Nat}{i:Int}{α:Type}{pins:List (aV×Obj)}{σ:St}{H:Hp}{p:aV}{xs:List V}{its its':List Value}{A:bS}{y:V}{u v:Value}
noncomputable abbrev TO:=St->Hp->(Option Int->Hp->Prop)->Prop
noncomputable def PO(X:Cx)(e:Option Expr)(t:TO):Prop:=
 ∀(pins:List (aV×Obj)) (s:aJ) (σ:St) (H:Hp) (Q:Option Int->Hp->Prop),Inv X pins σ H s->t σ H Q->
  aI (model X.prog X.w) X.A (evalPart e X.env) (fun u s' =>∃o H',Inv X pins σ H' s' /\IsPart u o/\Q o H') X.xe s
noncomputable def tNoPart:TO:=fun _ H Q=>Q none H
noncomputable def jQb(t:TE):TO:=fun σ H Q=>t σ H fun x H1=>∃i,x=.int i/\Q (some i) H1
section
variable{X:Cx}{e:Expr}{te:TE}{lo hi:Option Expr}{tl th:TO}{pos p2:Pos}
theorem zJk:PO X none tNoPart:=by
 intro pins s σ H Q I h;exact aL ⟨none,H,I,.none,h⟩
theorem zJj(h:PE X e te):PO X (some e) (jQb te):=by
 intro pins s σ H Q I hw;refine thn (h pins s σ H _ I hw) fun u s1 ⟨x,H1,I1,r1,q1⟩=>?_
 obtain⟨i,rfl,q⟩:=q1;obtain⟨t,rfl⟩:=r1;exact⟨some i,H1,I1,.int i t,q⟩
noncomputable def SlR(X:Cx)(r:V->Option Int->Option Int->Hp->VK->Prop):Prop:=
 ∀(pins:List (aV×Obj)) (s:aJ) (σ:St) (H:Hp) (x:V) (v vl vu:Value) (lo hi:Option Int) (sl:aV) (Q:VK),Inv X pins σ H s->RelV x v->s.heap.IsSliceOf sl vl vu .none ->IsPart vl lo->IsPart vu hi->r x lo hi H Q->
  ∃T id,typeLookup (.type T) "__getitem__"=pure (some (.builtin id))/\s.TypeIs v T/\aI (model X.prog X.w) X.A (getItem v (.ref sl)) (EP X pins σ Q) X.xe s
noncomputable def tSl(r:V->Option Int->Option Int->Hp->VK->Prop)(te:TE)(tl th:TO):TE:=fun σ H Q=>te σ H fun x H1=>tl σ H1 fun l H2=>th σ H2 fun u H3=>r x l u H3 Q
theorem zVd{r:V->Option Int->Option Int->Hp->VK->Prop}(hr:SlR X r)(he:PE X e te)(hl:PO X lo tl)(hu:PO X hi th):PE X (.Subscript e (.Slice lo hi none p2) pos) (tSl r te tl th):=by
 intro pins s σ H Q I h;refine Subscript_ (thn (he pins s σ H _ I h) fun v s1 ⟨x,H1,I1,r1,q1⟩=>?_);refine wpAny_Slice (thn (hl pins s1 σ H1 _ I1 q1) fun vl s2 ⟨l,H2,I2,pl,q2⟩=>thn (hu pins s2 σ H2 _ I2 q2) fun vu s3 ⟨u,H3,I3,pu,q3⟩=>?_);rw[evalPart_none];refine aL ?_
 have I4:Inv X pins σ H3 {s3 with heap:=s3.heap.push {cls:=.type "slice",data:=.fields #[vl,vu,.none]}}:=I3.kept (t' :=s3.toks) fun b ob q=>aW _ q
 obtain⟨T,id,hT,ht,hg⟩:=hr pins {s3 with heap:=s3.heap.push {cls:=.type "slice",data:=.fields #[vl,vu,.none]}} σ H3 x v vl vu l u s3.heap.objs.size Q I4 r1 (Heap.IsSliceOf.new ..) pl pu q3;show aI (model X.prog X.w) X.A (subscriptTail e (.Slice lo hi none p2) v (.ref s3.heap.objs.size)) (EP X pins σ Q) X.xe {s3 with heap:=s3.heap.push {cls:=.type "slice",data:=.fields #[vl,vu,.none]}};exact tail_any (ops:=[.ref s3.heap.objs.size,v]) ht hT hg (by with_unfolding_all rfl)
noncomputable def cutV(xs:List V)(lo hi:Option Int):List V:=(xs.drop (HT.sIx xs.length 0 lo)).take (HT.sIx xs.length xs.length hi - HT.sIx xs.length 0 lo)
theorem vZi(xs:List V)(lo hi:Option Int):(cutV xs lo hi).length <=xs.length:=by
 unfold cutV;rw[List.length_take,List.length_drop];omega
end
noncomputable def ixN(n:Nat)(i:Int):Option Nat:=if 0<=i then(if i<n then some i.toNat else none) else if -(n:Int)<=i then some (i+n).toNat else none
noncomputable def atI{α:Type}(xs:List α)(i:Int):Option α:=(ixN xs.length i).bind fun j=>xs[j]?
theorem vQi{j:Nat}(h:ixN n i=some j):seqIndex? i n=some j/\j<n/\ -(n:Int)<=i/\i<n:=by
 unfold ixN at h;by_cases h0:0<=i
 ·rw [if_pos h0] at h;by_cases h1:i<n
  ·rw [if_pos h1] at h;have e:i.toNat=j:=Option.some.inj h;exact⟨by rw[seqIndex_of h0 h1,e],by omega,by omega,h1⟩
  ·rw[if_neg h1]at h;cases h
 ·rw [if_neg h0] at h;by_cases h1: -(n:Int)<=i
  ·rw [if_pos h1] at h;have e:(i+n).toNat =j:=Option.some.inj h;exact⟨by rw[seqIndex_neg (by omega) h1,e],by omega,h1,by omega⟩
  ·rw[if_neg h1]at h;cases h
theorem vQo{xs:List α}{v:α}(h:atI xs i=some v):∃j,seqIndex? i xs.length=some j/\xs[j]?=some v/\j<xs.length/\ -(xs.length:Int)<=i/\i<xs.length:=by
 unfold atI at h;cases e:ixN xs.length i with
 |none=>rw[e]at h;cases h
 | some j=>
   rw[e]at h;obtain⟨h1,h2,h3,h4⟩:=vQi e;exact⟨j,h1,h,h2,h3,h4⟩
noncomputable def qXm(b:Expr):Prop:=∀o i,subscripted b false o i=operate [o,i] (getItem o i)
noncomputable def IxR(X:Cx)(r:R2):Prop:=
 ∀(value slice:Expr) (pins:List (aV×Obj)) (s:aJ) (σ:St) (H:Hp) (x y:V) (v u:Value) (Q:VK),Inv X pins σ H s->RelV x v->RelV y u->r x y H Q->
  subscripted slice false v u=operate [v,u] (getItem v u)->aI (model X.prog X.w) X.A (subscriptTail value slice v u) (EP X pins σ Q) X.xe s
noncomputable def MtR(X:Cx)(id:String)(r:V->List V->Hp->VK->Prop):Prop:=
 ∀(pins:List (aV×Obj)) (s:aJ) (σ:St) (H:Hp) (x:V) (xs:List V) (v:Value) (us:List Value) (Q:VK),Inv X pins σ H s->RelV x v->Vals xs us->r x xs H Q->
  aI (model X.prog X.w) X.A (call (.builtin id) (v::us)) (EP X pins σ Q) X.xe s
section
variable{X:Cx}{a b:Expr}{ta tb:TE}{pos:Pos}
theorem IxR.or{r r' :R2}(h:IxR X r)(h' :IxR X r'):IxR X (fun x y H Q=>r x y H Q\/r' x y H Q):=by
 intro value slice pins s σ H x y v u Q I rx ry q hs;rcases q with q|q
 ·exact h value slice pins s σ H x y v u Q I rx ry q hs
 ·exact h' value slice pins s σ H x y v u Q I rx ry q hs
theorem jQn{r:R2}(hr:IxR X r)(ha:PE X a ta)(hb:PE X b tb)(hs:qXm b):PE X (.Subscript a b pos) (tOp r ta tb):=by
 intro pins s σ H Q I h;exact Subscript_ (binT ha hb I h fun v u s2 x y H2 I2 rx ry q=>hr a b pins s2 σ H2 x y v u Q I2 rx ry q (hs _ _))
noncomputable def rIxL(K:aQ):R2:=fun x y H Q=>∃p xs i v,x=.ref p/\y=.int i/\SqL K H p xs/\atI xs i=some v/\Q v H
noncomputable def rIxT(K:aQ):R2:=fun x y H Q=>∃p xs i v,x=.ref p/\y=.int i/\SqT K H p xs/\atI xs i=some v/\Q v H
noncomputable def rIxS:R2:=fun x y H Q=>∃z i c,x=.str z/\y=.int i/\z.length<=aR/\atI z.cps.toList i=some c/\Q (.str ⟨#[c]⟩) H
theorem zJ7:IxR X (rIxL X.K):=by
 intro value slice pins s σ H x y v u Q I rx ry h hs;obtain⟨p,xs,i,z,rfl,rfl,hq,he,q⟩:=h;cases rx;obtain⟨t,rfl⟩:=ry;obtain⟨its,r,pl,hz⟩:=I.list hq;obtain⟨j,h1,h2,h3,h4,h5⟩:=vQo he;obtain⟨w,ew,rw'⟩:=r.get h2;have hl:=r.length;have hn:=qJ6;have fin:EP X pins σ Q w s:=⟨z,H,I,rw',q⟩
 by_cases h0:0<=i
 ·have hj:i.toNat=j:=by
   rw[seqIndex_of h0 h5]at h1;exact Option.some.inj h1
  exact item_listR pl.isList h0 (by omega) (by rw[hj];simpa using ew) fin hs
 ·have hj:(i+(its.toArray.size:Int)).toNat =j:=by
   rw[seqIndex_neg (by omega) h4]at h1;rw[aF,←hl];exact Option.some.inj h1
  exact subscriptTail_builtinR (x:=w) pl.isList.typeIs slot_list_getitem.lookup
   (wpAny_getItem_list_neg (Q:=fun r s' =>r=w/\EP X pins σ Q r s') pl.isList (by omega) (by rw[aF] <;> omega) (by omega) (by rw[hj];simpa using ew) ⟨rfl,fin⟩) hs
theorem zKg:IxR X (rIxT X.K):=by
 intro value slice pins s σ H x y v u Q I rx ry h hs;obtain⟨p,xs,i,z,rfl,rfl,hq,he,q⟩:=h;cases rx;obtain⟨t,rfl⟩:=ry;obtain⟨its,r,pl,hz⟩:=I.tuple hq;obtain⟨j,h1,h2,h3,h4,h5⟩:=vQo he;obtain⟨w,ew,rw'⟩:=r.get h2;have hl:=r.length;have hn:=qJ6;have fin:EP X pins σ Q w s:=⟨z,H,I,rw',q⟩
 exact subscriptTail_builtinR (x:=w) pl.typeIs slot_tuple_getitem.lookup
  (getItem_tuple (j:=j) (Q:=fun r s' =>r=w/\EP X pins σ Q r s') pl (by omega) (by omega) (by rw[aF,←hl];exact h1) (by simpa using ew) ⟨rfl,fin⟩) hs
theorem zKh:IxR X rIxS:=by
 intro value slice pins s σ H x y v u Q I rx ry h hs;obtain⟨z,i,c,rfl,rfl,hz,he,q⟩:=h;obtain⟨t,rfl⟩:=rx;obtain⟨t',rfl⟩:=ry;obtain⟨j,h1,h2,h3,h4,h5⟩:=vQo he;have hl:z.cps.toList.length=z.length:=by simp[Str.length]
 rw[hl]at h1 h4 h5;have hn:=qJ6;exact tail_any (typeIs_str s z t) slot_str_getitem.lookup (getItem_str (c:=c) (by
  have e1:decide (i < -(2 ^ 63:Int))=false:=decide_eq_false (by omega);have e2:decide (i≥2 ^ 63)=false:=decide_eq_false (by omega);rw[e1,e2,Bool.or_false]) (by rw[h1];simpa using h2) ⟨.str ⟨#[c]⟩,H,I.tok _,⟨_,rfl⟩,q⟩) hs
noncomputable def rIx(K:aQ):R2:=fun x y H Q=>rIxL K x y H Q\/rIxT K x y H Q\/rIxS x y H Q
theorem zKi:IxR X (rIx X.K):=zJ7.or (zKg.or zKh)
theorem vJm(its:List Value)(n j:Nat)(u:Value):Obj.mapSeq (·.setIfInBounds j u) {cls:=.type "list",data:=.seq its.toArray n}={cls:=.type "list",data:=.seq (its.set j u).toArray n}:=by
 simp[Obj.mapSeq]
theorem Inv.lst{s:aJ}(I:Inv X pins σ H s)(h:H p=some (.lst xs)):
  ∃(its:List Value) (n:Nat),Vals xs its/\s.heap.get? p=some {cls:=.type "list",data:=.seq its.toArray n}/\xs.length<=aR:=by
 obtain⟨z,its,n,r,e⟩:=I.hok p _ h;exact⟨its,n,r,e,z⟩
theorem Inv.lstUpd{s:aJ}{ys:List V}{n':Nat}{f:Obj->Obj}(I:Inv X pins σ H s)(h:H p=some (.lst xs))(ho:s.heap.get? p=some {cls:=.type "list",data:=.seq its.toArray n})(hf:f {cls:=.type "list",data:=.seq its.toArray n}={cls:=.type "list",data:=.seq its'.toArray n' })(r:Vals ys its')(hz:ys.length<=aR)(t:Nat):
  Inv X pins σ (upd H p (.lst ys)) {s with heap:=s.heap.update p f,toks:=t}:=by
 have e:(s.heap.update p f).get? p=some {cls:=.type "list",data:=.seq its'.toArray n' }:=by
  rw[Heap.get?_update_self f ho (by rw[hf] <;> rfl),hf]
 refine I.write (x:=p) (e:=p) (by rw[h];trivial) (.inl rfl) (fun b u hb q=>(Heap.get?_update_other _ _ (Ne.symm hb)).trans q) ⟨_,e⟩ ?_
 exact⟨hz,its',n',r,e⟩
noncomputable def rSetL:V->V->V->Hp->(Hp->Prop)->Prop:=fun o i v H Q=>∃p xs k j,o=.ref p/\i=.int k/\H p=some (.lst xs)/\ixN xs.length k=some j/\Q (upd H p (.lst (xs.set j v)))
theorem zQv:PSet X rSetL:=by
 intro pins s σ H o i v ov iv u Q I ro ri rv h;obtain⟨p,xs,k,j,rfl,rfl,hp,hj,q⟩:=h;cases ro;obtain⟨t,rfl⟩:=ri;obtain⟨its,n,r,ho,hz⟩:=I.lst hp;obtain⟨h1,h2,h3,h4⟩:=vQi hj;have hl:=r.length;have hn:=qJ6;have I' :Inv X pins σ (upd H p (.lst (xs.set j v))) {s with heap:=s.heap.update p (Obj.mapSeq (·.setIfInBounds j u))}:=
  I.lstUpd hp ho (vJm its n j u) (r.set rv j) (by rw[bT];exact hz) s.toks
 by_cases h0:0<=k
 ·have hk:k.toNat=j:=by
   rw[seqIndex_of h0 h4]at h1;exact Option.some.inj h1
  exact PySem.W.ki_setAt ho h0 (by omega) (by rw[aF,←hl];exact h4) (by rw[hk];exact⟨_,I',q⟩)
 ·have hk:(k+(its.toArray.size:Int)).toNat =j:=by
   rw[seqIndex_neg (by omega) h3]at h1;rw[aF,←hl];exact Option.some.inj h1
  exact PySem.W.ki_setBack ho (by omega) (by rw[aF,←hl];exact h3) (by omega) (by rw[hk];exact⟨_,I',q⟩)
theorem vQu(lo hi:Option Int)(n:Nat):(sliceBounds lo hi none n).1=((HT.sIx n 0 lo:Nat):Int)/\(sliceBounds lo hi none n).2.1=((HT.sIx n n hi:Nat):Int)/\(sliceBounds lo hi none n).2.2=1:=by
 refine⟨?_,?_,rfl⟩
 ·cases lo with
  |none=>simp[sliceBounds,HT.sIx]
  | some i=>
    simp only[sliceBounds,HT.sIx,Option.getD_none,if_true];grind
 ·cases hi with
  |none=>simp[sliceBounds,HT.sIx]
  | some i=>
    simp only[sliceBounds,HT.sIx,Option.getD_none,if_true];grind
theorem qYv(its:List Value)(lo hi:Option Int):slicePick its.toArray lo hi none=((its.drop (HT.sIx its.length 0 lo)).take (HT.sIx its.length its.length hi - HT.sIx its.length 0 lo)).toArray :=by
 obtain⟨h1,h2,h3⟩:=vQu lo hi its.toArray.size;unfold slicePick;rw[h1,h2,h3];simp only[sliceRange_one,pick_run] <;> rfl
noncomputable def rSlL(K:aQ):V->Option Int->Option Int->Hp->VK->Prop:=fun x lo hi H Q=>∃a xs,x=.ref a/\SqL K H a xs/\∀p,H p=none->Q (.ref p) (upd H p (.lst (cutV xs lo hi)))
theorem zZx:SlR X (rSlL X.K):=by
 intro pins s σ H x v vl vu lo hi sl Q I rx hs pl pu h;obtain⟨a,xs,rfl,hx,q⟩:=h;cases rx;obtain⟨its,r,ht,hz⟩:=I.list hx;have hlen:=r.length;refine⟨"list",_,slot_list_getitem.lookup,ht.isList.typeIs,?_⟩;refine wpAny_getItem_list_slice ht.isList hs pl pu .none (by simp) ?_ (by rw[aF] <;> omega)
 rw[qYv,←hlen];refine⟨.ref s.heap.objs.size,_,I.laid (t' :=s.toks) (o:=.lst (cutV xs lo hi)) (fun b ob q=>aW _ q) (aD _) ?_,rfl,q _ (I.hok.fresh (aD _))⟩;exact⟨aO (vZi xs lo hi) hz,_,0,(r.drop (HT.sIx xs.length 0 lo)).take (HT.sIx xs.length xs.length hi - HT.sIx xs.length 0 lo),aT _ rfl⟩
noncomputable def qZy:V->Bool
 |.non =>true
 |.bl _=>true
 |.int _=>true
 |.str _=>true
 |_=>false
noncomputable def eqV:V->V->Bool
 |.non,.non =>true
 |.bl a,.bl b=>a == b
 |.bl a,.int b=>(if a then 1 else 0) == b
 |.int a,.bl b=>a == (if b then 1 else 0)
 |.int a,.int b=>a == b
 |.str a,.str b=>a == b
 |_,_=>false
theorem zKz{s:aJ}{x:V}(ry:RelV y u)(rx:RelV x v)(fy:qZy y=true)(fx:qZy x=true):dH A s u v (eqV y x):=by
 cases y with
 | non=>
   cases ry;cases x with
   |non=>cases rx;exact SeqAt.EqAt.same _
   |bl b=>cases rx;exact SeqAt.EqAt.none_bool b
   |int b=>obtain⟨t,rfl⟩:=rx;exact SeqAt.EqAt.none_int b t
   |str b=>obtain⟨t,rfl⟩:=rx;exact SeqAt.EqAt.none_str b t
   |_=>exact absurd (show false=true from fx) aG
 | bl a=>
   cases ry;cases x with
   |non=>cases rx;exact SeqAt.EqAt.bool_none a
   |bl b=>cases rx;exact SeqAt.EqAt.bool_bool a b
   |int b=>obtain⟨t,rfl⟩:=rx;exact SeqAt.EqAt.bool_int a b t
   |str b=>obtain⟨t,rfl⟩:=rx;exact SeqAt.EqAt.bool_str a b t
   |_=>exact absurd (show false=true from fx) aG
 | int a=>
   obtain⟨t',rfl⟩:=ry;cases x with
   |non=>cases rx;exact SeqAt.EqAt.int_none a t'
   |bl b=>cases rx;exact SeqAt.EqAt.int_bool a t' b
   |int b=>obtain⟨t,rfl⟩:=rx;exact SeqAt.EqAt.int_int a t' b t
   |str b=>obtain⟨t,rfl⟩:=rx;exact SeqAt.EqAt.int_str a t' b t
   |_=>exact absurd (show false=true from fx) aG
 | str a=>
   obtain⟨t',rfl⟩:=ry;cases x with
   |non=>cases rx;exact SeqAt.EqAt.str_none a t'
   |bl b=>cases rx;exact SeqAt.EqAt.str_bool a t' b
   |int b=>obtain⟨t,rfl⟩:=rx;exact SeqAt.EqAt.str_int a t' b t
   |str b=>obtain⟨t,rfl⟩:=rx;exact SeqAt.EqAt.str_str a t' b t
   |_=>exact absurd (show false=true from fx) aG
 |_=>exact absurd (show false=true from fy) aG
noncomputable def eqU(x:V)(u:Value):Bool:=match u with
 |.none =>eqV .non x
 |.bool b=>eqV (.bl b) x
 |.int i _=>eqV (.int i) x
 |.str z _=>eqV (.str z) x
 |_=>false
theorem zQg{x:V}(r:RelV y u)(f:qZy y=true):eqU x u=eqV y x:=by
 cases y with
 |non=>cases r;rfl
 |bl b=>cases r;rfl
 |int i=>obtain⟨t,rfl⟩:=r;rfl
 |str z=>obtain⟨t,rfl⟩:=r;rfl
 |_=>exact absurd (show false=true from f) aG
theorem qJq{x:V}:∀{xs:List V} {us:List Value},Vals xs us->xs.all qZy=true->us.any (eqU x)=xs.any fun y=>eqV y x
 |_,_,.nil,_=>rfl
 | y::xs,u::us, .cons r t,f=>by
   rw[dP,aP]at f;rw[List.any_cons,List.any_cons,zQg r f.1,qJq t f.2]
theorem qV8{s:aJ}{x:V}(rx:RelV x v)(fx:qZy x=true):∀{xs:List V} {us:List Value},Vals xs us->xs.all qZy=true->∀u∈us,dH A s u v (eqU x u)
 |_,_,.nil,_=>fun u hu=>by cases hu
 | y::xs,u::us, .cons r t,f=>fun u' hu=>by
   rw[dP,aP]at f;rcases aA.mp hu with rfl|hu
   ·rw[zQg r f.1];exact zKz r rx f.1 fx
   ·exact qV8 rx fx t f.2 u' hu
noncomputable def inV(x:V)(xs:List V):Bool:=xs.any fun y=>eqV y x
noncomputable def rIn(K:aQ)(neg:Bool):R2:=fun x y H Q=>∃p xs,y=.ref p/\(SqL K H p xs\/SqT K H p xs)/\qZy x=true/\xs.all qZy=true/\Q (.bl (if neg then !inV x xs else inV x xs)) H
theorem vYe:OpR X (cV .In) (rIn X.K false):=by
 intro pins s σ H x y v u Q I rx ry h;obtain⟨p,xs,rfl,hq,fx,fs,q⟩:=h;cases ry;rcases hq with hq|hq
 ·obtain⟨its,r,pl,hz⟩:=I.list hq;refine SeqAt.in_listAt (eqU x) pl.isList (fun w hw=>qV8 rx fx r fs w (by simpa using hw)) ⟨.bl _,H,I,rfl,?_⟩;rw[show its.toArray.any (eqU x)=its.any (eqU x) by simp,qJq r fs];exact q
 ·obtain⟨its,r,pl,hz⟩:=I.tuple hq;refine SeqAt.in_tupleAt (eqU x) pl (fun w hw=>qV8 rx fx r fs w (by simpa using hw)) ⟨.bl _,H,I,rfl,?_⟩;rw[show its.toArray.any (eqU x)=its.any (eqU x) by simp,qJq r fs];exact q
theorem vQw:OpR X (cV .NotIn) (rIn X.K true):=by
 intro pins s σ H x y v u Q I rx ry h;obtain⟨p,xs,rfl,hq,fx,fs,q⟩:=h;cases ry;rcases hq with hq|hq
 ·obtain⟨its,r,pl,hz⟩:=I.list hq;refine SeqAt.notIn_listAt (eqU x) pl.isList (fun w hw=>qV8 rx fx r fs w (by simpa using hw)) ⟨.bl _,H,I,rfl,?_⟩;rw[show its.toArray.any (eqU x)=its.any (eqU x) by simp,qJq r fs];exact q
 ·obtain⟨its,r,pl,hz⟩:=I.tuple hq;refine SeqAt.notIn_tupleAt (eqU x) pl (fun w hw=>qV8 rx fx r fs w (by simpa using hw)) ⟨.bl _,H,I,rfl,?_⟩;rw[show its.toArray.any (eqU x)=its.any (eqU x) by simp,qJq r fs];exact q
theorem vQ1:yV X (.builtin "len") (fun xs H Q=>∃p ys,xs=[.ref p]/\(SqL X.K H p ys\/SqT X.K H p ys)/\Q (.int ys.length) H):=by
 intro pins s σ H xs us Q I r h;obtain⟨p,ys,rfl,hq,q⟩:=h;obtain⟨u,rfl,rx⟩:=qZw r;cases rx;have hn:=qJ6;rcases hq with hq|hq
 ·obtain⟨its,r',pl,hz⟩:=I.list hq;have hlen:=r'.length;exact Calls.call_len_list pl.isList (by simp only[aF] <;> omega) ⟨.int ys.length,H,I.tok _,⟨s.toks+1,by rw[aF,hlen]⟩,q⟩
 ·obtain⟨its,r',pl,hz⟩:=I.tuple hq;have hlen:=r'.length;exact len_tuple pl (by simp only[aF] <;> omega) ⟨.int ys.length,H,I.tok _,⟨s.toks+1,by rw[aF,hlen]⟩,q⟩
theorem vQ0:yV X (.builtin "len") (fun xs H Q=>∃z,xs=[.str z]/\z.length<=aR/\Q (.int z.length) H):=by
 intro pins s σ H xs us Q I r h;obtain⟨z,rfl,hz,q⟩:=h;obtain⟨u,rfl,t,rfl⟩:=qZw r;have hn:=qJ6;exact len_str (by omega) ⟨.int z.length,H,I.tok _,⟨_,rfl⟩,q⟩
theorem yV.or{f:Value}{r r' :List V->Hp->VK->Prop}(h:yV X f r)(h' :yV X f r'):yV X f (fun xs H Q=>r xs H Q\/r' xs H Q):=by
 intro pins s σ H xs us Q I rs q;rcases q with q|q
 ·exact h pins s σ H xs us Q I rs q
 ·exact h' pins s σ H xs us Q I rs q
theorem vQz:yV X (.type "list") (fun xs H Q=>∃p ys,xs=[.ref p]/\(SqL X.K H p ys\/SqT X.K H p ys)/\∀l,H l=none->Q (.ref l) (upd H l (.lst ys))):=by
 intro pins s σ H xs us Q I r h;obtain⟨p,ys,rfl,hq,q⟩:=h;obtain⟨u,rfl,rx⟩:=qZw r;cases rx
 have fin:∀(its:List Value),Vals ys its->ys.length<=aR->∀(h' :Heap) (c' :Nat),(∀b o',s.heap.get? b=some o' ->h'.get? b=some o')->
   h'.get? s.heap.objs.size=some {cls:=.type "list",dict:=none,data:=.seq its.toArray c',slots:=#[]}->EP X pins σ Q (.ref s.heap.objs.size) {s with heap:=h' }:=fun its r' hz h' c' kp e=>
  ⟨.ref s.heap.objs.size,_,I.laid (t' :=s.toks) kp (aD _) (show zD X.prog X.w _ h' _ (.lst ys) from⟨hz,its,c',r',e⟩),rfl,q _ (I.hok.fresh (aD _))⟩
 rcases hq with hq|hq
 ·obtain⟨its,r',pl,hz⟩:=I.list hq;have hlen:=r'.length;obtain⟨o,ho,hc,n,hd⟩:=pl.isList;exact call_list_seq p (.inl rfl) ho hc hd (fun h' c' kp e=>fin its r' hz h' c' kp e) (by simp only[aF] <;> omega)
 ·obtain⟨its,r',pl,hz⟩:=I.tuple hq;have hlen:=r'.length;obtain⟨o,ho,hc,n,hd⟩:=pl;exact call_list_seq p (.inr rfl) ho hc hd (fun h' c' kp e=>fin its r' hz h' c' kp e) (by simp only[aF] <;> omega)
theorem qY1:yV X (.type "tuple") (fun xs H Q=>∃p ys,xs=[.ref p]/\((SqL X.K H p ys/\∀l,H l=none->Q (.ref l) (upd H l (.tup ys)))\/(SqT X.K H p ys/\Q (.ref p) H))):=by
 intro pins s σ H xs us Q I r h;obtain⟨p,ys,rfl,h⟩:=h;obtain⟨u,rfl,rx⟩:=qZw r;cases rx;rcases h with⟨hq,q⟩|⟨hq,q⟩
 ·obtain⟨its,r',pl,hz⟩:=I.list hq;have hlen:=r'.length;refine call_tuple_list pl.isList (fun h' kp=>?_) (by simp only[aF] <;> omega);have I1:Inv X pins σ H {s with heap:=h' }:=I.kept (t' :=s.toks) kp;have I2:Inv X pins σ (upd H h'.objs.size (.tup ys)) {s with heap:=h'.push {cls:=.type "tuple",data:=.seq its.toArray}}:=
   I1.laid (t' :=s.toks) (fun b o e=>aW _ e) (aD _) (show zD X.prog X.w _ _ _ (.tup ys) from⟨hz,its,r',IsTup.new _ _⟩)
  exact⟨.ref h'.objs.size,_,I2,rfl,q _ (I1.hok.fresh (aD _))⟩
 ·obtain⟨its,r',pl,hz⟩:=I.tuple hq;exact call_tuple_same pl ⟨.ref p,H,I,rfl,q⟩
noncomputable def tyV(K:aQ)(T:String)(x:V)(H:Hp):Prop:=match x with
 |.str _=>T="str"
 |.int _=>T="int"
 | .ref p=>(T="list"/\∃xs,SqL K H p xs)\/(T="tuple"/\∃o,K.lookup p=some o/\o.cls= .type "tuple"/\o.dict=none)\/
   (T="dict"/\((∃kvs,H p=some (.dK kvs))\/∃kvs,H p=some (.dT kvs)))\/(T="set"/\∃S n,H p=some (.set S n))
 |_=>False
theorem vKo{s:aJ}{T:String}{x:V}(I:Inv X pins σ H s)(r:RelV x v)(ty:tyV X.K T x H):
  s.TypeIs v T/\∀a,v=.ref a->∃ob,s.heap.get? a=some ob/\ob.dict=none:=by
 cases x with
 | str z=>
   obtain⟨t,rfl⟩:=r;cases(show T="str" from ty);exact⟨typeIs_str s z t,fun _ e=>nomatch e⟩
 | int i=>
   obtain⟨t,rfl⟩:=r;cases(show T="int" from ty);exact⟨typeIs_int s i t,fun _ e=>nomatch e⟩
 | ref p=>
   cases r;rcases ty with⟨rfl,xs,hq⟩|⟨rfl,o,hk,hc,hd⟩|⟨rfl,hk⟩|⟨rfl,S,n,hk⟩
   ·obtain⟨its,_,pl,_⟩:=I.list hq;refine⟨pl.isList.typeIs,fun a e=>?_⟩;cases e;obtain⟨o,n,e,c,hd,_⟩:=pl;exact⟨o,e,hd⟩
   ·refine⟨⟨o,I.kIn p o hk,hc⟩,fun a e=>?_⟩;cases e;exact⟨o,I.kIn _ o hk,hd⟩
   ·have z:∃o,s.heap.get? p=some o/\o.ExactDict:=by
     rcases hk with⟨kvs,hk⟩|⟨kvs,hk⟩
     ·obtain⟨_,_,_,_,o,_,_,e,ex,_⟩:=I.hok p _ hk;exact⟨o,e,ex⟩
     ·obtain⟨_,_,_,_,o,_,_,e,ex,_⟩:=I.hok p _ hk;exact⟨o,e,ex⟩
    obtain⟨o,e,ex⟩:=z;refine⟨⟨o,e,ex.1⟩,fun a e2=>?_⟩;cases e2;exact⟨o,e,ex.2.1⟩
   ·obtain⟨o,_,_,_,e,ex,_⟩:=I.hok p _ hk;refine⟨⟨o,e,ex.1⟩,fun a e2=>?_⟩;cases e2;exact⟨o,e,ex.2.1⟩
 |_=>exact False.elim ty
noncomputable def tBM0(K:aQ)(T:String)(r:V->List V->Hp->VK->Prop)(to:TE):TE:=fun σ H Q=>to σ H fun x H1=>tyV K T x H1/\r x [] H1 Q
noncomputable def tBM(K:aQ)(T:String)(r:V->List V->Hp->VK->Prop)(to:TE)(t:TA):TE:=fun σ H Q=>to σ H fun x H1=>tyV K T x H1/\t σ H1 fun xs H2=>r x xs H2 Q
variable{o e:Expr}{es:List Expr}{to:TE}{t:TA}{name:Str}{apos cpos:Pos}{T id:String}{r:V->List V->Hp->VK->Prop}
theorem zYx(pa:PlainAttrs T)(slot:Slot T name id)(hty:typeOf (.builtin id)=pure (.type "method_descriptor"))(hm:MtR X id r)(ho:PE X o to)(hbase:attributeBase o name X.env (eval o X.env)=eval o X.env:=by rfl)(hline:(apos.endLine == cpos.line)=true:=by rfl):PE X (.Call (.Attribute o name apos) [] [] cpos) (tBM0 X.K T r to):=by
 intro pins s σ H Q I h;refine wpAny_Call_method0_late hbase hline (thn (ho pins s σ H _ I h) fun v s1 ⟨x,H1,I1,r1,ty,q1⟩=>?_);obtain⟨h1,h2⟩:=vKo I1 r1 ty;exact⟨T,id,pa,slot,hty,h1,h2,Calls.callWith_builtin rfl (PySem.evalArgs_none (hm pins s1 σ H1 x [] v [] Q I1 r1 .nil q1))⟩
theorem zXb(pa:PlainAttrs T)(slot:Slot T name id)(hty:typeOf (.builtin id)=pure (.type "method_descriptor"))(hm:MtR X id r)(ho:PE X o to)(ha:PA X (e::es) t)(hbase:attributeBase o name X.env (eval o X.env)=eval o X.env:=by rfl)(hfew:((bI cpos (aX (e::es) X.env)).all (fun x=>!x.1) && (backToKw cpos (keywordEach [] X.env)).all (fun x=>x.1.isSome)
   && decide ((e::es).length+([]:List Keyword).length+(if([]:List Keyword).isEmpty then 0 else 1)<30))=true:=by rfl)(hline:(apos.endLine == cpos.line)=true:=by rfl)(hs:aX (e::es) X.env=(false,eval e X.env)::aX es X.env:=by rfl)(hplain:(bI cpos (aX es X.env)).any (·.1)=false:=by rfl):
  PE X (.Call (.Attribute o name apos) (e::es) [] cpos) (tBM X.K T r to t):=by
 intro pins s σ H Q I h;refine wpAny_Call_method_late hbase hfew hline rfl (thn (ho pins s σ H _ I h) fun v s1 ⟨x,H1,I1,r1,ty,q1⟩=>?_);obtain⟨h1,h2⟩:=vKo I1 r1 ty;refine⟨T,id,pa,slot,hty,h1,h2,?_⟩;have hA:=ha cpos pins s1 σ H1 _ I1 q1;rw[hs]at hA⊢;refine Calls.callWith_builtin (by show(false || (bI cpos (aX es X.env)).any (·.1))=false;rw[hplain] <;> rfl) (Calls.evalArgs_plain ?_);exact thn hA fun us s2 ⟨vs,H2,I2,r2,q2⟩=>hm pins s2 σ H2 x vs v us Q I2 r1 r2 q2
end
noncomputable def MtM(X:Cx)(id:String)(r:V->List V->Hp->VK->Prop):Prop:=
 ∀(pins:List (aV×Obj)) (s:aJ) (σ:St) (H:Hp) (x:V) (xs:List V) (v:Value) (us:List Value) (Q:VK),Inv X pins σ H s->RelV x v->Vals xs us->r x xs H Q->
  aI (model X.prog X.w) X.A (call (.builtin id) (v::us)) (EP X pins σ Q) X.xe s
theorem Vals.one:∀{x:V} {us:List Value},Vals [x] us->∃u,us=[u]/\RelV x u
 |_,_,.cons r .nil =>⟨_,rfl,r⟩
theorem Vals.zero:∀{us:List Value},Vals [] us->us=[]
 |_,.nil =>rfl
theorem Vals.dropLast{us:List Value}(h:Vals xs us):Vals xs.dropLast us.dropLast:=by
 induction h with
 |nil=>exact .nil
 | cons r t ih=>
   cases t with
   |nil=>exact .nil
   |cons q t' =>exact .cons r ih
theorem vJr(l:List α):l.eraseIdx (l.length - 1)=l.dropLast:=by
 induction l with
 |nil=>rfl
 | cons a r ih=>
   cases r with
   |nil=>rfl
   | cons b r=>
     have e:(a::b::r).length - 1=((b::r).length - 1)+1:=by
      have h1:(a::b::r).length =r.length+2:=rfl;have h2:(b::r).length =r.length+1:=rfl;omega
     rw[e,List.eraseIdx_cons_succ,ih];all_goals rfl
section
variable{X:Cx}{pins:List (aV×Obj)}{σ:St}{H:Hp}{s:aJ}{l b:aV}{xs ys zs:List V}
theorem Inv.lset{f:Array Value->Array Value}(I:Inv X pins σ H s)(hH:H l=some (.lst xs))(e:s.heap.get? l=some {cls:=.type "list",data:=.seq its.toArray n})(hf:f its.toArray=its'.toArray)(hv:Vals ys its')(hz:ys.length<=aR):
  Inv X pins σ (upd H l (.lst ys)) {s with heap:=s.heap.update l (Obj.mapSeq f),toks:=t' }:=by
 have q:=PySem.IsL.update e f;rw[hf]at q;refine I.write (x:=l) (e:=l) (by rw[hH];exact trivial) (.inl rfl) (fun b' u hb hu=>(Heap.get?_update_other s.heap (Obj.mapSeq f) (Ne.symm hb)).trans hu) ⟨_,q⟩ ?_
 exact⟨hz,its',_,hv,q⟩
theorem Inv.lnew(I:Inv X pins σ H s)(hv:Vals ys its)(hz:ys.length<=aR):
  Inv X pins σ (upd H s.heap.objs.size (.lst ys)) {s with heap:=s.heap.push {cls:=.type "list",data:=.seq its.toArray},toks:=t' }:=
 I.laid (fun _ _ q=>aW _ q) (aD _) ⟨hz,its,0,hv,aT _ rfl⟩
theorem Inv.fresh(I:Inv X pins σ H s):H s.heap.objs.size=none:=I.hok.fresh (aD _)
theorem Inv.lstM(I:Inv X pins σ H s)(hH:H l=some (.lst xs)):xs.length<=aR/\∃(its:List Value) (n:Nat),Vals xs its/\xs.length=its.length/\s.heap.get? l=some {cls:=.type "list",data:=.seq its.toArray n}:=by
 obtain⟨z,its,n,r,e⟩:=I.hok l _ hH;exact⟨z,its,n,r,r.length,e⟩
theorem zVo(h:n<=aR):Builtin.List.listTooLong n=false:=by
 unfold Builtin.List.listTooLong;exact decide_eq_false (by omega)
end
section
variable{X:Cx}
noncomputable def rAppend:V->List V->Hp->VK->Prop:=fun x vs H Q=>∃l xs y,x=.ref l/\vs=[y]/\H l=some (.lst xs)/\xs.length<aR/\Q .non (upd H l (.lst (xs ++ [y])))
theorem qKm:MtM X "list.append" rAppend:=by
 intro pins s σ H x vs v us Q I rx rv h;obtain⟨l,xs,y,rfl,rfl,hH,hz,q⟩:=h;cases rx;obtain⟨u,rfl,ru⟩:=rv.one;obtain⟨z,its,n,r,hl,e⟩:=I.lstM hH;refine call_meets F.slot_list_append ⟨_,e,rfl⟩ F.entry_list_append (F.args_list_append_2 _ _) (PySem.list_append l its.toArray n u (by rw[aF];omega)) ⟨e,?_⟩;refine⟨.non,_,I.lset (its' :=its ++ [u]) hH e (by simp) (r.append (.cons ru .nil)) ?_,rfl,q⟩;rw[aB,List.length_singleton];omega
noncomputable def rExtend:V->List V->Hp->VK->Prop:=fun x vs H Q=>∃l b xs zs,x=.ref l/\vs=[.ref b]/\H l=some (.lst xs)/\H b=some (.lst zs)/\xs.length+zs.length<=aR/\Q .non (upd H l (.lst (xs ++ zs)))
theorem vYh:MtM X "list.extend" rExtend:=by
 intro pins s σ H x vs v us Q I rx rv h;obtain⟨l,b,xs,zs,rfl,rfl,hH,hB,hz,q⟩:=h;cases rx;obtain⟨u,rfl,ru⟩:=rv.one;cases ru;obtain⟨z,its,n,r,hl,e⟩:=I.lstM hH;obtain⟨z2,its2,n2,r2,hl2,e2⟩:=I.lstM hB;have hsz:its.toArray.size+its2.toArray.size<=aR:=by rw[aF,aF];omega
 have hlong:¬(!its.toArray.isEmpty && Builtin.List.listTooLong (its.toArray.size+its2.toArray.size))=true:=by
  rw[zVo hsz,Bool.and_false];exact aG
 refine call_meets F.slot_list_extend ⟨_,e,rfl⟩ F.entry_list_extend (F.args_list_extend_2 _ _)
  (AutoSeq1.list_extend_list_list_0 l its.toArray n b its2.toArray n2 hlong (by rw[aF];omega) (by omega)) ⟨e,e2,?_⟩
 refine⟨.non,_,I.lset (its' :=its ++ its2) hH e (by simp) (r.append r2) ?_,rfl,q⟩;rw[aB];omega
noncomputable def rPop:V->List V->Hp->VK->Prop:=fun x vs H Q=>∃l xs y,x=.ref l/\vs=[]/\H l=some (.lst xs)/\xs[xs.length - 1]?=some y/\Q y (upd H l (.lst xs.dropLast))
theorem zY8:MtM X "list.pop" rPop:=by
 intro pins s σ H x vs v us Q I rx rv h;obtain⟨l,xs,y,rfl,rfl,hH,hy,q⟩:=h;cases rx;have hus:=rv.zero;subst hus;obtain⟨z,its,n,r,hl,e⟩:=I.lstM hH;obtain⟨u,hu,ru⟩:=r.get hy;have hy' :its.toArray[its.toArray.size - 1]?=some u:=by
  show its.toArray[its.length - 1]?=some u;rw[←Array.getElem?_toList,←hl];exact hu
 refine call_meets F.slot_list_pop ⟨_,e,rfl⟩ F.entry_list_pop (F.args_list_pop_1 _) (MeetsSeq.list_pop_last l its.toArray n u hy' (by rw[aF];omega)) ⟨e,?_⟩;refine⟨y,_,I.lset (its' :=its.dropLast) hH e ?_ r.dropLast ?_,ru,q⟩
 ·show its.toArray.eraseIdxIfInBounds (its.toArray.size - 1)=its.dropLast.toArray;rw[aF,List.eraseIdxIfInBounds_toArray,vJr]
 ·rw [List.length_dropLast];omega
end
end L2
namespace Att
open PySem PySem.W PySem.Calls PyProof.Rows
variable{P:Params}{l:OpenLaw}{n:Nat}
theorem qXb{h:Heap}:∀(ns:List Int) (vs:List Value),WellAll P h vs (ns.map WData.int)->IntsAre vs ns:=by
 intro ns;induction ns with
 | nil=>
   intro vs w;cases w;exact .nil
 | cons n ns ih=>
   intro vs w;cases w with
   | cons a b=>
     cases a;exact .cons _ _ (ih _ b)
theorem vXz(hn:l.most=some n){h:Heap}{args:List WData}{vals:List Value}(hpre:l.row.toRowW.claim.pre args=true)(hwl:WellAll P h vals args):
  ∃a vs ns,vals=[Value.ref a]/\args=[WData.list (ns.map WData.int)]/\h.get? a=some {cls:=.type "list",data:=.seq vs.toArray}/\IntsAre vs ns/\ns.length<=n:=by
 have hsh:WShape.hasAll [] args [.list .int]=true:=(pre_splitW hpre).1;have hc:l.pre.holds [] {args:=args}=true:=(pre_splitW hpre).2;obtain⟨d,r,rfl,h1,h2⟩:=hasAllW_cons hsh;obtain rfl:=hasAllW_nil h2;obtain⟨xs,rfl,h3⟩:=hasW_list h1;obtain⟨ns,rfl⟩:=items_int h3;have hlen:ns.length<=n:=by
  have h4:(WTm.not (.lt (.lit (.int (n:Int))) (.len (.arg 0)))).holds [] {args:=[.list (ns.map .int)]}=true:=by
   have h4:=(holds_andW hc).1;grind
  have h5:=condW_of h4 (w_not (w_lt w_lit (w_len_list (w_arg rfl))));grind
 cases hwl with
 | cons w1 w2=>
   cases w2;cases w1 with
   |list ho hall=>exact⟨_,_,ns,rfl,rfl,ho,qXb ns _ hall,hlen⟩
theorem vX5(l:OpenLaw)(args:List WData):l.row.toRowW.claim.post args (.bool true) args=true:=
 postW_of (r:=l.row.toRowW) (X:=(true == true))
  (show WShape.has [] (.bool true) .bool =true by first|rfl|decide|simp[WShape.has,WShape.arms,WShape.armsAll])
  (show(WTm.eq .res (.lit (.bool true))).value [] {args:=args,res:=some (.bool true),after:=args}=some (.bool (true == true)) from w_eq_bool (w_res rfl) w_lit) rfl
theorem vZj{q:bV}{loose:List Str}{XP:(Str->Option Value)->Heap->Prop}{YP:bW->Heap->Prop}{d:DefRec}(hn:l.most=some n)(hdf:d.params.defaults=[])(call:∀(w:bW) (s₀ s₁:aJ) (mg mb:Str->Option Value) (fa:aV) (o:Obj) (pm cd doc:Value) (a:aV) (vs:List Value) (ns:List Int),
   Ground q loose [] XP w s₀ mg mb s₁.heap->YP w s₁.heap->
   s₁.heap.get? fa=some o->o.data=.func (docDef d.name d.params d.body d.scope pm cd doc)->s₁.heap.CodeRec cd d.name->mg d.name=some (.ref fa)->
   s₁.heap.get? a=some {cls:=.type "list",data:=.seq vs.toArray}->IntsAre vs ns->ns.length<=n->s₁.gens=#[]->
   codeAny (model l.prog w) callerA (.call (.ref fa) ⟨[.ref a],[]⟩) (fun r s' =>r=.ok (.ret (.bool true))/\OldK s₁.heap s'.heap/\s'.os=s₁.os/\AllBare s'.gens) s₁):
  WalkO q loose XP YP l.row.toRowW d [] (fun f vs=>PySem.call f vs):=by
 intro w s₀ s₁ mg mb G Y fa o pm cd doc dV kV ho hd hcd hD hmg hg args vals as hpre hlay hrd hwl hlo
 obtain rfl:dV=.none :=Dflts.none hD hdf
 obtain rfl:kV=.none :=Dflts.noKw hD
 obtain⟨a,vs,ns,rfl,rfl,hobj,hints,hlen⟩:=vXz hn hpre hwl
 refine enter_call (codeAny_mono (call w s₀ s₁ mg mb fa o pm cd doc a vs ns G Y ho (fd_plain hd) hcd hmg hobj hints hlen hg) fun r s' hq=>?_)
 obtain⟨rfl,h2,h3,h4⟩:=hq
 exact⟨.inl ⟨.bool true,.bool true,[],rfl,fun _=>rfl,.bool true,vX5 l _,fun _=>⟨List.Pairwise.nil,fun _ hm=>(nomatch hm)⟩⟩,h2,h3,h4⟩
end Att
namespace L2
open PySem PySem.Spec PyProof.Rows
variable{P:bV}{w:bW}{K:aQ}{mg:Str->Option Value}{a f p C:aV}{fd:bQ}{n t' i:Nat}{qual:Str}{ps:List Str}{oc doc pm cdv ct:Value}{od:Option aV}{osl:Array (Option Value)}{A:bS}{H H1 H2:Hp}{X:Cx}{pins:List (aV×Obj)}{σ:St}{fp ch:List aV}{E:Value->aJ->Prop}
theorem qKd:∀{vs:List Value} {ns:List Int},IntsAre vs ns->Vals (ns.map V.int) vs
 |_,_,.nil =>.nil
 |_,_,.cons n t h=>.cons ⟨t,rfl⟩ (qKd h)
noncomputable def Only(H:Hp):Prop:=∀b,H b=none\/∃o xs,H b=some (.frz o (.lst xs))
theorem zVt{mb:Str->Option Value}{CX:CXT}{k:Nat}{fa:aV}{x:Str}{sp:Sp}{s₁:aJ}{vs:List Value}{ns:List Int}(KX:K.In s₁.heap)(hns:s₁.heap.Ns bO mg)(hb:s₁.heap.Ns builtinsNs mb)(hbb:∀x:Str,x≠"__name__"->mb x=cI x)(hlim:s₁.heap.NoLimit)(hg:s₁.gens=#[])(ha:s₁.heap.get? a=some {cls:=.type "list",data:=.seq vs.toArray})(hi:IntsAre vs ns)(hl:ns.length<=aR)(hr:Room k callerA)(F:∀base:Heap,K.In base->base.Ns bO mg->FnOk P w K mg base CX k fa fd [x] sp)(hbind:∀(s:aJ) (u:Value),BindsTo s fd ⟨[u],[]⟩ [(x,u)])(hsp:∀H:Hp,Only H->SqL K H a (ns.map V.int)->sp [.ref a] H (fun v _=>v=.bl true) fun _ _ _=>False)(hCX:∀H e s',CX [] H s₁ (fun _ _ _=>False) e s' ->False):
  codeAny (model P w) callerA (.call (.ref fa) ⟨[.ref a],[]⟩) (fun r s' =>r=.ok (.ret (.bool true))/\OldK s₁.heap s'.heap/\s'.os=s₁.os/\AllBare s'.gens) s₁:=by
 have rv:=qKd hi;have lenV:=hi.length
 have core:∀H:Hp,Only H->SqL K H a (ns.map V.int)->HOk P w H s₁.heap->(∀b,H b≠none->b=a)->(H a≠none->K.lookup a=none)->
   codeAny (model P w) callerA (.call (.ref fa) ⟨[.ref a],[]⟩) (fun r s' =>r=.ok (.ret (.bool true))/\OldK s₁.heap s'.heap/\s'.os=s₁.os/\AllBare s'.gens) s₁:=by
  intro H hO hS hok hA hK;have base_of:∀{b:aV} {o:Obj},s₁.heap.get? b=some o->H b=none->(hidT s₁.heap H).get? b=some o:=fun e n=>zV4 e n
  have noA:∀{b:aV} {o:Obj} {es:Array DictEntry} {ep:Nat},s₁.heap.get? b=some o->o.data=.dict es ep->H b=none:=fun {b o es ep} e d=>by
   cases q:H b with
   |none=>rfl
   | some u=>
     have e' :b=a:=hA b (by rw[q];simp);subst e';rw[ha]at e;cases e;have d' :Data.seq vs.toArray _=Data.dict es ep:=d;cases d'
  have nsK:∀{b:aV} {m:Str->Option Value},s₁.heap.Ns b m->(hidT s₁.heap H).Ns b m:=fun {b m} ⟨o,es,ep,e,d,r⟩=>⟨o,es,ep,base_of e (noA e d),d,r⟩
  have hKb:K.In (hidT s₁.heap H):=fun b o e=>base_of (KX b o e) (by
   cases q:H b with
   |none=>rfl
   | some u=>
     have e' :b=a:=hA b (by rw[q];simp);subst e';rw[hK (by rw[q];simp)]at e;cases e)
  have hM:Mod K mg (hidT s₁.heap H):=⟨hKb,nsK hns,⟨mb,nsK hb,hbb⟩,let ⟨mc,h1,h2⟩:=hlim;⟨mc,nsK h1,h2⟩⟩
  have e0:Env0 P w K mg (hidT s₁.heap H) callerA [] s₁ H:=⟨rfl,hM,fun b o e=>zJ2 e,Nat.le_of_eq (vYo _ _),trivial,fun b hb=>absurd (show b∈([]:List aV) from hb) (by simp),hok,.of_eq hg⟩
  refine codeAny_mono ((F _ hKb (nsK hns)).run callerA [] s₁ H ⟨[.ref a],[]⟩ [.ref a] [.ref a] _ _ hr e0 (hbind s₁ (.ref a)) (.cons rfl .nil) (hsp H hO hS)) fun r s' h=>?_
  cases r with
  |error e=>exact(hCX H e s' h).elim
  | ok fl=>
    cases fl with
    |next=>exact False.elim h
    |brk=>exact False.elim h
    |cont=>exact False.elim h
    | ret u=>
      obtain⟨v,H',os,bare,un,hok',r',q⟩:=h;have q' :v=.bl true:=q;subst q';obtain rfl:u=Value.bool true:=r';refine⟨rfl,OldK.of_keep fun b o e=>?_,os,bare⟩;cases q:H b with
      |none=>exact un.keep b o e q (by intro z;exact absurd (show b∈([]:List aV) from z) (by simp)) (by simp)
      | some u=>
        rcases hO b with z|⟨ob,xs,z⟩
        ·rw[q]at z;cases z
        ·have z2:=un.frzs b ob _ z;obtain⟨e1,_⟩:=hok b _ z;obtain⟨e2,_⟩:=hok' b _ z2;rw[e]at e1;cases e1;exact e2
 cases hk:K.lookup a with
 | some o=>
   have e:=KX a o hk;rw[ha]at e;cases e;refine core (fun _=>none) (fun _=>.inl rfl) (.inr ⟨_,vs.toArray,_,hk,rfl,rfl,rfl,by rw[aF,lenV];exact hl,by simpa using rv⟩) (fun b u z=>by have z' :(none:Option HO)=some u:=z;cases z') (fun b z=>absurd rfl z) fun z=>absurd rfl z
 | none=>
   refine core (fun b=>if b=a then some (.frz {cls:=.type "list",data:=.seq vs.toArray} (.lst (ns.map V.int))) else none) (fun b=>?_) (.inl (.inr ⟨{cls:=.type "list",data:=.seq vs.toArray},if_pos rfl⟩)) (fun b u z=>?_) (fun b z=>?_) fun _=>hk
   ·by_cases hb:b=a
    ·exact .inr ⟨_,_,if_pos hb⟩
    ·exact .inl (if_neg hb)
   ·by_cases hb:b=a
    ·have z' :=(if_pos hb).symm.trans z;cases z';subst hb;exact⟨ha,by rw[aK];exact hl,vs,_,rv,ha⟩
    ·have z' :=(if_neg hb).symm.trans z;cases z'
   ·by_cases hb:b=a
    ·exact hb
    ·exact absurd (if_neg hb) z
theorem zZo{l:PySem.W.OpenLaw}{k:Nat}{q:bV}{loose:List Str}{XP:(Str->Option Value)->Heap->Prop}{YP:bW->Heap->Prop}{d:DefRec}{K:Params->aQ}{CX:bW->CXT}{sp:bW->Sp}{x:Str}(hn:l.most=some n)(hn2:n<=aR)(hdf:d.params.defaults=[])(hr:Room k callerA)(hY:∀(w:bW) (h:Heap),YP w h->(K w.params).In h)(F:∀(w:bW) (mg:Str->Option Value) (fa:aV) (h:Heap),(K w.params).In h->h.Ns bO mg->mg d.name=some (.ref fa)->
   ∃fd:bQ,(∀(s:aJ) (u:Value),BindsTo s fd ⟨[u],[]⟩ [(x,u)])/\
    ∀base:Heap,(K w.params).In base->base.Ns bO mg->FnOk l.prog w (K w.params) mg base (CX w) k fa fd [x] (sp w))(hsp:∀(w:bW) (H:Hp) (a:aV) (ns:List Int),ns.length<=n->Only H->SqL (K w.params) H a (ns.map V.int)->sp w [.ref a] H (fun v _=>v=.bl true) fun _ _ _=>False)(hCX:∀(w:bW) (H:Hp) (s:aJ) (e:Value) (s' :aJ),CX w [] H s (fun _ _ _=>False) e s' ->False):
  PySem.W.WalkO q loose XP YP l.row.toRowW d [] (fun f vs=>PySem.call f vs):=by
 refine Att.vZj hn hdf fun w s₀ s₁ mg mb fa o pm cd doc a vs ns G Y ho hd hcd hmg hobj hints hlen hg=>?_
 have KX:=hY w _ Y;obtain⟨fd,hb,hF⟩:=F w mg fa _ KX G.T.g hmg;exact zVt KX G.T.g G.T.b G.T.builtins G.T.nolimit hg hobj hints (aO hlen hn2) hr hF hb (fun H hO hS=>hsp w H a ns hlen hO hS) fun H e s' =>hCX w H s₁ e s'
noncomputable abbrev E0:XK:=fun _ _ _=>False
structure Fun(K:aQ)(x qual:Str)(st:Stmt)(f:aV)(fd:bQ):Prop where
 ex:∃(oc:Value) (od:Option aV) (kV doc pm:Value) (an:Option aV) (cdv ct:Value) (osl:Array (Option Value)),
  fd=bM x qual (wW st) (jW st) (qP st) .none kV doc pm an cdv ct/\K.lookup f=some ⟨oc,od,.func fd,osl⟩/\PySem.W.codeIn K cdv qual=true
 kp:cX K (.ref f)=true
section
variable{P:bV}{w:bW}{K:aQ}{mg:Str->Option Value}{base:Heap}
theorem Fun.binds{x:Str}{st:Stmt}(F:Fun K x qual st f fd)(h:∀(kV doc pm:Value) (an:Option aV) (cdv ct:Value) (us:List Value),us.length=ps.length->bindArgs (bM x qual (wW st) (jW st) (qP st) .none kV doc pm an cdv ct) ⟨us,[]⟩=pure (ps.zip us)):wI K fd ps []:=by
 obtain⟨oc,od,kV,doc,pm,an,cdv,ct,osl,rfl,lk,hcd⟩:=F.ex;exact .all (h kV doc pm an cdv ct)
theorem qK7{x:Str}{st:Stmt}{an:Option aV}{kV:Value}(l:K.lookup f=some ⟨oc,od,.func (bM x qual (wW st) (jW st) (qP st) .none kV doc pm an cdv ct),osl⟩)(c:PySem.W.codeIn K cdv qual=true)(k:cX K (.ref f)=true):Fun K x qual st f (bM x qual (wW st) (jW st) (qP st) .none kV doc pm an cdv ct):=⟨⟨oc,od,kV,doc,pm,an,cdv,ct,osl,rfl,l,c⟩,k⟩
end
theorem qZx{k:Nat}(hr:Room k A):A.units+1<dF:=Nat.lt_of_le_of_lt (Nat.add_le_add_left (by decide:1<=64) _) hr.units
theorem vXx(h:n<=1000):n<aR:=Nat.lt_of_le_of_lt h (by decide)
section
variable{X:Cx}
theorem pv(i:Nat){x:Str}{pos:Pos}(hN:X.N[i]?=some x:=by rfl)(hv:Vis X.env.scope x:=by first|exact Or.inl rfl|exact Or.inr (Or.inl rfl)|exact Or.inr (Or.inr rfl))(hd:(x == ("__debug__":Str))=false:=by decide)(hcd:(x == ("__classdict__":Str))=false:=by decide):PE X (.Name x pos) (tVar i):=zYp hN hv hd hcd
end
noncomputable def Same(H H' :Hp):Prop:=∀b o,H b=some o->H' b=some o
theorem Same.refl(H:Hp):Same H H:=fun _ _ h=>h
theorem Same.trans(a:Same H H1)(b:Same H1 H2):Same H H2:=fun c o h=>b c o (a c o h)
structure FnAt(K:aQ)(mg:Str->Option Value)(x:Str)(st:Stmt)(ps:List Str)(f:aV)(fd:bQ):Prop where
 F:Fun K x x st f fd
 b:wI K fd ps []
 m:mg x=some (.ref f)
theorem Same.upd{o:HO}(h:H p=Option.none):Same H (upd H p o):=fun b u e=>by
 rw[qF (vC e h)];exact e
theorem Same.tup{H':Hp}{xs:List V}(e:Same H H')(h:SqT K H a xs):SqT K H' a xs:=by
 rcases h with(h|⟨o,h⟩)|h
 ·exact .inl (.inl (e _ _ h))
 ·exact .inl (.inr ⟨o,e _ _ h⟩)
 ·exact .inr h
theorem vKp:(2:Nat)<=aR:=by decide
theorem zWl{h:Heap}{x:Str}{st:Stmt}{an:Option aV}{kV:Value}(X:K.In h)(G:h.Ns bO mg)(a:PySem.W.nsIn K bO x=some (some (.ref f)))(l:K.lookup f=some ⟨oc,od,.func (bM x x (wW st) (jW st) (qP st) .none kV doc pm an cdv ct),osl⟩)(c:PySem.W.codeIn K cdv x=true)(k:cX K (.ref f)=true)(b:∀(kV doc pm:Value) (an:Option aV) (cdv ct:Value) (us:List Value),us.length=ps.length->bindArgs (bM x x (wW st) (jW st) (qP st) .none kV doc pm an cdv ct) ⟨us,[]⟩=pure (ps.zip us)):
  FnAt K mg x st ps f (bM x x (wW st) (jW st) (qP st) .none kV doc pm an cdv ct):=
 ⟨qK7 l c k,(qK7 l c k).binds b,PySem.W.mg_of X G a⟩
section
variable{X:Cx}
theorem zJz:OpR X (binaryOp .Mult) (rI IntMulOk fun i j=>.int (i * j)):=opI fun _ _ _ _ _ _ _ hc q=>mul_int q hc
noncomputable def vJ7(_ j:Int):Prop:=0<j/\j.natAbs.log2<9000
theorem zVm:OpR X (binaryOp .FloorDiv) (rI vJ7 fun i j=>.int (i / j)):=opI fun i j _ _ _ _ _ hc q=>by
 have h0:(0:Int)<j:=hc.1;refine floordiv_int (by omega) ?_ (.inl (PyProof.noPylong_of_log2 hc.2))
 rw[Int.fdiv_eq_ediv_of_nonneg _ (Int.le_of_lt h0)];exact q
end
noncomputable def cCx(X:Cx)(scope:Scope)(cl:List (Str×aV))(C:aV)(Nc:List Str)(s:aJ)(H:Hp)(fp:List aV):Cx where
 prog:=X.prog;w:=X.w;K:=X.K;mg:=X.mg;base:=X.base;A:=X.A;N:=Nc;s₀:=s;H₀:=H;env:=compEnvC scope cl C X.env;outer:=X.stack;stack:=X.stack;ex:=fp;fn:=fun _=>false
 calm:=X.calm;pn:=[]
 xe:=fun _ _=>False
noncomputable def PTs(X:Cx)(ifs:List Expr)(t:TT):Prop:=
 ∀(pins:List (aV×Obj)) (s:aJ) (σ:St) (H:Hp) (Q:Bool->Hp->Prop),Inv X pins σ H s->t σ H Q->
  aI (model X.prog X.w) X.A (forIn ifs true fun c r=>if r=true then do let ok ←isTrue c X.env (eval c X.env);pure (ForInStep.yield ok) else pure (ForInStep.yield r)) (TP X pins σ Q) X.xe s
noncomputable def tTrue:TT:=fun _ H Q=>Q true H
theorem zZ9:PTs X [] tTrue:=fun _ _ _ H _ I h=>wpAny_tests_nil ⟨H,I,h⟩
theorem zZ8{c:Expr}{t:TT}(h:PT X c t):PTs X [c] t:=fun pins s σ H Q I q=>wpAny_tests_one (h pins s σ H Q I q)
theorem vJt{prog:bV}{R:Result->aJ->Prop}{s:aJ}{elt target iter:Expr}{ifs:List Expr}{scope:Scope}{pos:Pos}{it acc:Value}{env:Env}(I:Nat->aJ->Prop)(turn:∀n s,I n s->aI (model prog w) A (pyNext it) (fun r s₁=>match r with
   |none=>R (.ok .next) s₁
   | some v=>aI (model prog w) A (letOwnedTupleGo target it v) (fun _ s₂=>aI (model prog w) A (assign target env v) (fun _ s₃=>
     aI (model prog w) A (forIn ifs true fun c r=>if r=true then do let ok ←isTrue c env (eval c env);pure (ForInStep.yield ok) else pure (ForInStep.yield r)) (fun ok s₄=>
      if ok=true then aI (model prog w) A (eval elt env) (fun x s₅=>
       aI (model prog w) A (call (.builtin "list.append") [acc,x]) (fun _ s₆=>∃m,m<n/\I m s₆) (fun _ _=>False) s₅) (fun _ _=>False) s₄
      else∃m,m<n/\I m s₄) (fun _ _=>False) s₃) (fun _ _=>False) s₂) (fun _ _=>False) s₁) (fun _ _=>False) s)(n:Nat)(h:I n s):
  codeAny (model prog w) A (.compLoop (.ListComp elt [⟨target,iter,ifs,0⟩] scope pos) 0 it acc env) R s:=by
 refine codeAny_loop rfl I (fun n s hI=>?_) n h;refine wpAny_noted ?_
 refine aZ (wpAny_standAt (aZ (bU (turn n s hI) (fun r s₁ h₁=>?_) fun _ _ h' =>h'.elim)));cases r with
 |none=>exact aL h₁
 | some v=>
   refine aZ (bU h₁ (fun _ s₂ h₂=>aZ (bU h₂ (fun _ s₃ h₃=>aZ (bU h₃ (fun ok s₄ h₄=>?_) fun _ _ h' =>h'.elim)) fun _ _ h' =>h'.elim)) fun _ _ h' =>h'.elim);cases ok with
   |false=>exact aL ⟨rfl,h₄⟩
   | true=>
     exact aZ (aZ (bU h₄ (fun x s₅ h₅=>aZ (bU h₅ (fun _ s₆ h₆=>aL (aL ⟨rfl,h₆⟩)) fun _ _ h' =>h'.elim)) fun _ _ h' =>h'.elim))
noncomputable def zXo(J:It)(g:TG)(tt:TT)(te:TE)(σ0:St)(Q:VK)(D:aV)(H1:Hp):Prop:=
 ∃W:Nat->Nat->St->List V->Hp->Prop,(∃m,W 0 m σ0 [] H1)/\∀i m σ2 ys H2,W i m σ2 ys H2->H2 D=some (.lst ys)/\ys.length<aR/\
  ((J.stop i H2/\Q (.ref D) H2)\/(J.go i H2/\∀x H3,J.yld i H2 x H3->g x σ2 H3 fun σ4 H4=>tt σ4 H4 fun b H5=>
    if b=true then te σ4 H5 fun v H6=>H6 D=some (.lst ys)/\∃m',m'<m/\W (i+1) m' σ4 (ys ++ [v]) (upd H6 D (.lst (ys ++ [v])))
    else∃m',m'<m/\W (i+1) m' σ4 ys H5))
noncomputable def tComp(wi:TI)(g:TG)(tt:TT)(te:TE)(σc:St->St):TE:=fun σ H Q=>wi σ H fun J H1=>∀D,H1 D=none->zXo J g tt te (σc σ) Q D (upd H1 D (.lst []))
structure Caps(X:Cx)(scope:Scope)(cl:List (Str×aV))(Nc:List Str)(σc:St->St):Prop where
 clos:closureFor scope X.env=pure cl
 kind:scope.kind=.function
 nocell:∀y∈scope.names,y.2≠ .cell
 names:∀y∈scope.names,y.2=.local ->scope.names.lookup y.1=some .local
 cells:∀x c,cl.lookup x=some c->X.env.cells.lookup x=some c
 has:∀x,((relabel scope X.env).names.lookup x=some .cell \/(relabel scope X.env).names.lookup x=some .free)->∃c,cl.lookup x=some c
 len:∀σ,(σc σ).length =Nc.length
 cap:∀σ (i:Nat) x v,Nc[i]?=some x->(σc σ)[i]?=some (some v)->Vis (relabel scope X.env) x->
  ((relabel scope X.env).names.lookup x=some .cell \/(relabel scope X.env).names.lookup x=some .free)/\
  (X.env.kindOf x=some .cell \/X.env.kindOf x=some .free)/\∃j:Nat,X.N[j]?=some x/\σ[j]?=some (some v)/\Vis X.env.scope x
section
variable{X:Cx}{tg iter elt:Expr}{ifs:List Expr}{scope:Scope}{cl:List (Str×aV)}{Nc:List Str}{σc:St->St}{pos:Pos}{wi:TI}{g:TG}{tt:TT}{te:TE}
theorem zQj{s:aJ}(I:Inv X pins σ H s)(c:Caps X scope cl Nc σc)(hC:s.heap.objs.size<=C)(hf:∀b∈fp,FpOk X pins H b)(hlt:∀b∈fp,b<s.heap.objs.size):
  (cCx X scope cl C Nc s H fp).Ok where
 mod:=I.ok.mod;kind:=c.kind;glob:=I.ok.glob;blt:=I.ok.blt;above:=hC;inj:=fun x y a h1 h2=>I.ok.inj x y a (c.cells x a h1) (c.cells y a h2)
 has:=c.has;cab:=fun _ _ h _=>absurd (show false=true from h) aG
 hd:=I.ok.hd;frames:=I.ok.frames;stk:=.inl rfl;exf:=fun b hb=>⟨fun z=>absurd (aE (hlt b hb) hC) (by
    have z' :b=C:=z;rw[z'];exact cW _),fun x a h z=>(hf b hb).2.2.2.2.1 x a (c.cells x a h) z⟩
 bs:=I.bs;bsz:=aO I.ok.bsz I.sz;noex:=fun b o e hb=>by
  rcases(hf b hb).2.2.2.1 with z|z
  ·exact I.ok.noex b o e z
  ·exact absurd (aE (aU e) (aO I.ok.bsz z)) (cW _)
 exfs:=fun b hb z=>by
  rcases aA.mp (I.stkSub b z) with q|q
  ·exact(hf b hb).2.1 q
  ·exact(hf b hb).2.2.1 q
 funs:=I.stack;frf:=I.stkFree
theorem zWy{s:aJ}{h' :Heap}{m:Str->Option Value}(I:Inv X pins σ H s)(c:Caps X scope cl Nc σc)(hC:s.heap.objs.size<=C)(hf:∀b∈fp,FpOk X pins H b)(hlt:∀b∈fp,b<s.heap.objs.size)(hk:∀b o,s.heap.get? b=some o->h'.get? b=some o)(hn:h'.Ns C m):
  Inv (cCx X scope cl C Nc s H fp) [] (σc σ) H {s with heap:=h',toks:=t' }:=by
 refine⟨zQj I c hC hf hlt,rfl,I.bare,Un.kept hk,⟨m,hn,fun i x v e1 e2 e3=>?_⟩,fun x a h=>?_,I.hok.fresh hC,fun x a h=>I.freeC x a (c.cells x a h),fun p hp=>absurd (show p∈([]:List (aV×Obj)) from hp) (by simp),I.hok.kept hk,c.len σ⟩
 ·obtain⟨k1,k2,j,n1,n2,n3⟩:=c.cap σ i x v e1 e2 e3;obtain⟨m0,_,hl⟩:=I.loc;obtain⟨u,ru,lk⟩:=hl j x v n1 n2 n3;refine⟨u,ru,.inr ⟨k1,?_⟩⟩;rcases lk with⟨z,_⟩|⟨_,a,ha,hcell⟩
  ·rcases k2 with k2|k2 <;> rw[k2]at z <;> cases z
  ·obtain⟨a',ha'⟩:=c.has x k1;have e:=c.cells x a' ha';rw[ha]at e;cases e;obtain⟨o,ho,hd⟩:=hcell;exact⟨a,ha',⟨o,hk _ _ ho,hd⟩⟩
 ·obtain⟨v,o,ho,hd⟩:=I.cell x a (c.cells x a h);exact⟨v,o,hk _ _ ho,hd⟩
theorem qYr{s:aJ}{Q:VK}{J:It}{it:aV}{tn:Nat->Heap->Prop}{RR:Value->aV->Result->aJ->Prop}(hc:X.calm=true)(c:Caps X scope cl Nc σc)(hg:∀C s H fp,PG (cCx X scope cl C Nc s H fp) tg g)(ht:∀C s H fp,PTs (cCx X scope cl C Nc s H fp) ifs tt)(he:∀C s H fp,PE (cCx X scope cl C Nc s H fp) elt te)(I:Inv X pins σ H s)(T:Turn X.prog X.w X.K tg J fp it tn)(st:tn 0 s.heap)(hf:∀b∈fp,FpOk X pins H b)(h:∀D,H D=none->zXo J g tt te (σc σ) Q D (upd H D (.lst [])))(hRR:∀D C H' s' m,Inv X pins σ H' s' ->H' C=none->s.heap.objs.size<=C->s'.heap.Ns C m->Q (.ref D) H' ->RR (.ref D) C (.ok .next) s'):
  aI (model X.prog X.w) X.A (newList []) (fun acc s₃=>aI (model X.prog X.w) X.A (newFunctionEnv scope X.env.globals cl [] X.env.qual none .none (some X.env)) (fun cenv s₄=>
   codeAny (model X.prog X.w) X.A (.compStart (.ListComp elt [⟨tg,iter,ifs,0⟩] scope pos) 0 (.ref it) acc {cenv with scope:=relabel scope X.env}) (RR acc cenv.locals) s₄) E s₃) E s:=by
 have fit:∀b∈fp,b<s.heap.objs.size:=fun b hb=>by
  obtain⟨o,e,_⟩:=T.obj _ _ st b hb;exact aU e
 obtain⟨W,⟨m0,w0⟩,turn⟩:=h s.heap.objs.size (I.hok.fresh (aD _));refine wpAny_newObj_type (wpAny_newFunctionEnv c.nocell (by intro y hy;simp at hy) (fun h₁ hns₁ hsb₁=>?_) c.kind);dsimp only at hns₁ hsb₁⊢;have I1:Inv X pins σ (upd H s.heap.objs.size (.lst [])) {s with heap:=s.heap.push {cls:=.type "list",dict:=none,data:=.seq ([]:List Value).toArray }}:=
  I.laid (t' :=s.toks) (fun b u e=>aW _ e) (aD _) ⟨Nat.zero_le _,[],0,.nil,aT _ rfl⟩
 generalize hH2:s.heap.push {cls:=.type "list",dict:=none,data:=.seq ([]:List Value).toArray }=G at hns₁ hsb₁ I1⊢;have hG:G.objs.size=s.heap.objs.size+1:=by rw[←hH2,dJ]
 have old:∀b o,G.get? b=some o->h₁.get? b=some o:=fun b o e=>hsb₁.extBut b o (bJ (aU e)) (aW _ e)
 have hf1:∀b∈fp,FpOk X pins (upd H s.heap.objs.size (.lst [])) b:=fun b hb=>
  ⟨by rw[qF (bJ (fit b hb))];exact(hf b hb).1,(hf b hb).2⟩
 have hlt1:∀b∈fp,b<G.objs.size:=fun b hb=>aE (fit b hb) (by rw[hG];exact Nat.le_succ _)
 have I2:=zWy (C:=G.objs.size) (t' :=s.toks+([]:List (Str×Value)).length) I1 c (aD _) hf1 hlt1 old hns₁;have st1:tn 0 h₁:=T.keep _ _ _ st fun b hb o e=>old b o (by rw[←hH2];exact aW _ e)
 have fpB:∀{H' :Hp},(∀b∈fp,H' b=none)->∀b∈fp,FpOk (cCx X scope cl G.objs.size Nc {s with heap:=G} (upd H s.heap.objs.size (.lst [])) fp) [] H' b:=fun {H'} hn b hb=>by
  have ok:=zQj (C:=G.objs.size) I1 c (aD _) hf1 hlt1;obtain⟨e1,e2⟩:=ok.exf b hb;exact⟨hn b hb,e1,ok.exfs b hb,.inl hb,e2,fun p hp=>absurd (show p∈([]:List (aV×Obj)) from hp) (by simp)⟩
 have loop:∀s₃:aJ,s₃={s with heap:=h₁,toks:=s.toks+([]:List (Str×Value)).length }->
   codeAny (model X.prog X.w) X.A (.compLoop (.ListComp elt [⟨tg,iter,ifs,0⟩] scope pos) 0 (.ref it) (.ref s.heap.objs.size) (compEnvC scope cl G.objs.size X.env))
    (RR (.ref s.heap.objs.size) G.objs.size) s₃:=by
  rintro s₃ rfl
  refine vJt (fun n s' =>∃i σ' ys H',Inv (cCx X scope cl G.objs.size Nc {s with heap:=G} (upd H s.heap.objs.size (.lst [])) fp) [] σ' H' s' /\tn i s'.heap/\(∀b∈fp,H' b=none)/\W i n σ' ys H') ?_ m0
   ⟨0,σc σ,[],_,I2,st1,fun b hb=>(hf1 b hb).1,w0⟩
  rintro n s5 ⟨i,σ5,ys,H5,I5,st5,fr5,w5⟩;obtain⟨hD,hsz,alt⟩:=turn i n σ5 ys H5 w5;rcases alt with⟨stop,q⟩|⟨go,step⟩
  ·refine thn (T.done (cCx X scope cl G.objs.size Nc {s with heap:=G} (upd H s.heap.objs.size (.lst [])) fp) rfl rfl rfl hc i [] s5 σ5 H5 _ I5 (fpB fr5) st5 stop) fun r s6 ⟨hr,I6⟩=>?_
   subst hr;obtain⟨m6,n6,_⟩:=I6.loc;have I7:Inv X pins σ H5 s6:=I1.call' I6.os I6.base I6.hok I6.bare fun b hb=>⟨(hf1 b hb).2.2.2.1,(hf1 b hb).2.1,(hf1 b hb).2.2.2.2.1,(hf1 b hb).2.2.2.2.2⟩
   exact hRR _ _ H5 s6 m6 I7 I6.free (by rw[hG];exact Nat.le_succ _) n6 q
  ·refine thn (T.item (cCx X scope cl G.objs.size Nc {s with heap:=G} (upd H s.heap.objs.size (.lst [])) fp) rfl rfl rfl hc i [] s5 σ5 H5 _ I5 (fpB fr5) st5 go) fun r s6 ⟨u,hr,h6⟩=>?_
   subst hr;refine thn h6 fun _ s7 ⟨x,H7,I7,r7,y7,st7,fr7⟩=>?_
   have I7' :=I7.pinned (fpB fr7) (T.obj _ _ st7);refine thn (hg _ _ _ _ _ s7 σ5 H7 x u _ I7' r7 (step x H7 y7)) fun _ s8 ⟨σ8,H8,I8,q8⟩=>?_
   refine thn (ht _ _ _ _ _ s8 σ8 H8 _ I8 q8) fun ok s9 ⟨H9,I9,q9⟩=>?_
   have again:∀{σ' :St} {H' :Hp} {s' :aJ} {ys' :List V} {m' :Nat},Inv (cCx X scope cl G.objs.size Nc {s with heap:=G} (upd H s.heap.objs.size (.lst [])) fp) ([] ++ qXs fp s7.heap) σ' H' s' ->m'<n->W (i+1) m' σ' ys' H' ->
     ∃m,m<n/\∃i σ' ys H',Inv (cCx X scope cl G.objs.size Nc {s with heap:=G} (upd H s.heap.objs.size (.lst [])) fp) [] σ' H' s' /\tn i s'.heap/\(∀b∈fp,H' b=none)/\W i m σ' ys H' :=fun {σ' H' s' ys' m'} J7 hm hw=>by
    refine⟨m',hm,i+1,σ',ys',H',J7.unpinned,T.keep _ _ _ st7 fun b hb o e=>(J7.pin (b,o) (bX _ (bX _ (qVk hb e)))).1,fun b hb=>?_,hw⟩;obtain⟨o,e,d⟩:=T.obj _ _ st7 b hb;exact(J7.pin (b,o) (bX _ (bX _ (qVk hb e)))).2.1
   cases ok with
   | false=>
     rw[if_neg aG]at q9⊢;obtain⟨m',hm,hw⟩:=q9;exact again I9 hm hw
   | true=>
     rw[if_pos rfl]at q9⊢;refine thn (he _ _ _ _ _ s9 σ8 H9 _ I9 q9) fun v s10 ⟨y,H10,I10,r10,hD10,m',hm,hw⟩=>?_
     refine thn (qKm _ s10 σ8 H10 (.ref s.heap.objs.size) [y] (.ref s.heap.objs.size) [v] (fun _ H' =>H' =upd H10 s.heap.objs.size (.lst (ys ++ [y]))) I10 rfl (.cons r10 .nil) ⟨_,ys,y,rfl,rfl,hD10,hsz,rfl⟩) fun _ s11 ⟨z,H11,I11,_,e11⟩=>?_
     subst e11;exact again I11 hm hw
 exact codeAny_compStart_list (loop _ rfl) (T.self _ 0 _ _ _ st1 (loop _ rfl))
theorem zJr(hc:X.calm=true)(c:Caps X scope cl Nc σc)(hi:PI X tg iter wi)(hg:∀C s H fp,PG (cCx X scope cl C Nc s H fp) tg g)(ht:∀C s H fp,PTs (cCx X scope cl C Nc s H fp) ifs tt)(he:∀C s H fp,PE (cCx X scope cl C Nc s H fp) elt te)(hs:∀x,foldedSetIterable iter X.env x=pure x:=by intro _;rfl):PE X (.ListComp elt [⟨tg,iter,ifs,0⟩] scope pos) (tComp wi g tt te σc):=by
 intro pins s σ H Q I h;rw[eval_ListComp];refine wpAny_comprehension_free (use:=none) rfl hs c.clos c.kind c.names (thn (hi pins s σ H _ I h) fun v s1 h1=>thn h1 fun itv s2 h2=>?_);obtain⟨it,fp,tn,J,H2,rfl,I2,T,st2,f2,W⟩:=h2;refine qYr (Q:=Q) hc c hg ht he I2 T st2 f2 W ?_
 intro D C H' s' m I' hC hCs hn q;refine⟨m,hn,fun h' sb=>⟨.ref D,H',?_,rfl,q⟩⟩;have nl:C≠X.env.locals:=Nat.ne_of_gt (aE I2.lt hCs);refine I'.turned (t' :=s'.toks) (it:=C) (fun b o hb e=>sb.extBut b o hb e) hC nl (.inr (aO I2.sz hCs)) (fun x a e z=>?_) (fun p hp z=>?_)
 ·obtain⟨v,q⟩:=I2.cell x a e;exact absurd (aE q.lt hCs) (by rw[z];exact cW _)
 ·exact absurd (aE (aU (I2.pin p hp).1) hCs) (by rw[z];exact cW _)
theorem zJg{y:Str}{py spos:Pos}(hc:X.calm=true)(hN:X.N.Nodup)(hiy:X.N[i]?=some y)(hy:Loc X.env.scope y)(c:Caps X scope cl Nc σc)(hi:PI X tg iter wi)(hg:∀C s H fp,PG (cCx X scope cl C Nc s H fp) tg g)(ht:∀C s H fp,PTs (cCx X scope cl C Nc s H fp) ifs tt)(he:∀C s H fp,PE (cCx X scope cl C Nc s H fp) elt te)(hsw:swapsWith (.ListComp elt [⟨tg,iter,ifs,0⟩] scope pos) (some (.Name y py)) spos.line X.env=pure true:=by rfl)(hs:∀x,foldedSetIterable iter X.env x=pure x:=by intro _;rfl)(hf:X.fn y=true\/X.env.scope.names.lookup y=some .local :=by first|exact .inl rfl|exact .inr rfl|assumption):
  PS X (.Assign [.Name y py] (.ListComp elt [⟨tg,iter,ifs,0⟩] scope pos) spos) (tAsg (tComp wi g tt te σc) (vJ4 i)):=by
 intro pins s σ H D I h;rw[exec_Assign_Name_used _ _ _ _ hsw];refine aZ (wpAny_standAt (aZ ?_));show aI _ X.A (do let _ ←comprehension (.ListComp elt [⟨tg,iter,ifs,0⟩] scope pos) scope X.env _ (newList []) false (eval iter X.env) (some (assign (.Name y py) X.env))) _ _ s
 refine aZ (bU (wpAny_comprehension_free (use:=some (assign (.Name y py) X.env)) (Q:=fun _ s' =>SP X pins D .next s') rfl hs c.clos c.kind c.names
  (thn (hi pins s σ H _ I h) fun v s1 h1=>thn h1 fun itv s2 h2=>?_)) (fun _ s' hq=>aL (aL hq)) fun _ _ e=>e)
 obtain⟨it,fp,tn,J,H2,rfl,I2,T,st2,f2,W⟩:=h2;refine qYr (Q:=fun v H' =>D.nx (σ.set i (some v)) H') hc c hg ht he I2 T st2 f2 W ?_
 intro L C H' s' m I' hC hCs hn q;have nl:C≠X.env.locals:=Nat.ne_of_gt (aE I2.lt hCs);have nfs:C∉X.fs:=I2.nofs hCs;obtain⟨oC,es,ep,hoC,hdC,hrC⟩:=id hn;have ncell:∀v,oC.data≠ .cell v:=fun v z=>by rw[hdC]at z;cases z
 have I'' :Inv X (pins ++ [(C,oC)]) σ H' s' :=I'.pins_of fun p hp=>by
  rcases cT.mp hp with z|z
  ·exact I'.pin p (bX _ z)
  ·have e:p=(C,oC):=by simpa using z
   subst e;exact⟨hoC,hC,nl,nfs,ncell⟩
 show aI _ X.A (assign (.Name y py) X.env (.ref L)) _ _ _;refine wpAny_assign_Name (qV5 I'' hN hiy hy (v:=.ref L) rfl (fun s3 I3=>?_) hf);have hn3:s3.heap.Ns C m:=⟨oC,es,ep,(I3.pin (C,oC) (by simp)).1,hdC,hrC⟩
 refine⟨m,hn3,fun h' sb=>⟨σ.set i (some (.ref L)),H',?_,q⟩⟩;refine I3.unpinned.turned (t' :=s3.toks) (it:=C) (fun b o hb e=>sb.extBut b o hb e) hC nl (.inr (aO I2.sz hCs)) (fun x a e z=>?_) (fun p hp z=>?_)
 ·obtain⟨v,q⟩:=I2.cell x a e;exact absurd (aE q.lt hCs) (by rw[z];exact cW _)
 ·exact absurd (aE (aU (I2.pin p hp).1) hCs) (by rw[z];exact cW _)
theorem jVi(hk:scope.kind=.function)(hfree:∀x∈scope.names,x.2≠ .free)(hcell:∀x∈scope.names,x.2≠ .cell)(hnames:∀y∈scope.names,y.2=.local ->scope.names.lookup y.1=some .local):
  Caps X scope [] Nc (fun _=>List.replicate Nc.length none) where
 clos:=closureFor_none hfree;kind:=hk;nocell:=hcell;names:=hnames;cells:=fun x c e=>by cases e
 has:=fun x h=>by
  have hm:(relabel scope X.env).names =scope.names:=by
   unfold relabel;refine map_eq_self fun y hy=>?_
   obtain⟨n,k⟩:=y;have:(k == NameKind.free)=false:=by simpa using hfree _ hy
   simp[this]
  rw[hm]at h;rcases h with h|h
  ·exact absurd rfl (hcell _ (bR h))
  ·exact absurd rfl (hfree _ (bR h))
 len:=fun _=>by simp
 cap:=fun σ i x v _ e _=>by
  rw[List.getElem?_replicate]at e;split at e <;> cases e
end
section
variable{X:Cx}{pins:List (aV×Obj)}{σ:St}{H:Hp}{s:aJ}{h' :Heap}
theorem Inv.turnedLaid{o:HO}(I:Inv X pins σ H s)(k:∀b u,b∉ch->s.heap.get? b=some u->h'.get? b=some u)(hf:∀b∈ch,FpOk X pins H b)(hp:s.heap.objs.size<=p)(new:zD X.prog X.w (upd H p o) h' p o):Inv X pins σ (upd H p o) {s with heap:=h',toks:=t' }:=by
 have hn:=I.hok.fresh hp;have nch:∀b u,H b=some u->b∉ch:=fun b u e z=>by rw[(hf b z).1]at e;cases e
 refine I.call (g' :=s.gens) (d' :=s.drawn) (ch:=ch) ⟨fun b u e _ _ hc=>k b u hc e,fun b u e _ _ hc=>⟨u.slots,k b u hc e⟩,fun b u e n _=>?_,fun b u e hc=>⟨u,k b u hc e⟩,fun b xs e=>?_,fun b u xs e=>?_,fun b ps e=>?_⟩ (fun b u e=>?_) I.bare
  fun b hb=>⟨(hf b hb).2.2.2.1,(hf b hb).2.1,(hf b hb).2.2.2.2.1,(hf b hb).2.2.2.2.2⟩
 ·rw [qF (bJ (aE (aU e) hp))];exact n
 ·rw [qF (vC e hn)];exact e
 ·rw [qF (vC e hn)];exact e
 ·exact⟨#[],by rw[qF (vC e hn),e];simp⟩
 ·by_cases hb:b=p
  ·subst hb;rw[upd_same]at e;cases e;exact new
  ·rw [qF hb] at e;refine(I.hok b u e).stay (fun c v hc q=>k c v ?_ q) (fun c q=>by rw[qF (vC q hn)];exact q) fun c xs q=>by rw[qF (vC q hn)];exact q
   rcases hc with z|z
   ·rw [z];exact nch b u e
   ·exact nch c _ z
theorem Inv.turnedAll(I:Inv X pins σ H s)(k:∀b u,b∉ch->s.heap.get? b=some u->h'.get? b=some u)(hf:∀b∈ch,FpOk X pins H b):Inv X pins σ H {s with heap:=h',toks:=t' }:=by
 have nch:∀b u,H b=some u->b∉ch:=fun b u e z=>by rw[(hf b z).1]at e;cases e
 refine I.call (g' :=s.gens) (d' :=s.drawn) (ch:=ch) ⟨fun b u e _ _ hc=>k b u hc e,fun b u e _ _ hc=>⟨u.slots,k b u hc e⟩,fun b u e n _=>n,fun b u e hc=>⟨u,k b u hc e⟩,fun b xs e=>e,fun b u xs e=>e,fun b ps e=>⟨#[],by rw[e];simp⟩⟩ (fun b u e=>?_) I.bare
  fun b hb=>⟨(hf b hb).2.2.2.1,(hf b hb).2.1,(hf b hb).2.2.2.2.1,(hf b hb).2.2.2.2.2⟩
 refine(I.hok b u e).stay (fun c v hc q=>k c v ?_ q) (fun c q=>q) fun c xs q=>q
 rcases hc with z|z
 ·rw [z];exact nch b u e
 ·exact nch c _ z
end
theorem zD.there{h:Heap}{o:HO}(x:zD P w H h a o):∃ob,h.get? a=some ob:=by
 cases o with
 |lst xs=>obtain⟨_,_,_,_,e⟩:=x;exact⟨_,e⟩
 |tup xs=>obtain⟨_,_,_,_,e,_⟩:=x;exact⟨_,e⟩
 |dK kvs=>obtain⟨_,_,_,_,o,_,_,e,_⟩:=x;exact⟨_,e⟩
 |dT kvs=>obtain⟨_,_,_,_,o,_,_,e,_⟩:=x;exact⟨_,e⟩
 |set S n=>obtain⟨o,_,_,_,e,_⟩:=x;exact⟨_,e⟩
 |ins C dx fs=>obtain⟨_,_,_,e,_⟩:=x;exact⟨_,e⟩
 |own y=>exact x
 |xd fs=>obtain⟨_,⟨_,_,_,e,_⟩,_⟩:=x;exact⟨_,e⟩
 |rng lo hi=>obtain⟨_,_,_,e⟩:=x;exact⟨_,e⟩
 |frz ob u=>obtain⟨e,_⟩:=x;exact⟨_,e⟩
 |tbl ps=>exact⟨_,(show h.get? a=some _ from x)⟩
 |tab l c q=>obtain⟨_,e,_⟩:=x;exact⟨_,e⟩
 |met f y=>exact⟨_,(show h.get? a=some _ from x)⟩
 |ext φ=>obtain⟨_,e,_⟩:=x;exact e
theorem HOk.there{h:Heap}{o:HO}(x:HOk P w H h)(e:H a=some o):∃ob,h.get? a=some ob:=(x a o e).there
theorem HOk.untracked{h:Heap}(x:HOk P w H h)(e:h.get? a=none):H a=none:=by
 cases q:H a with
 |none=>rfl
 | some u=>
   obtain⟨ob,z⟩:=x.there q;grind
structure ExcCls(K:aQ)(mg:Str->Option Value)(x:Str)(C:aV):Prop where
 m:mg x=some (.ref C)
 ex:PySem.W.excIn K C [.type "ValueError",.type "Exception",.type "BaseException",.type "object"] "ValueError.__new__"=true
noncomputable def vZy(X:Cx)(C:aV)(R:Hp->Prop):Prop:=
 ∀(pins:List (aV×Obj)) (σ:St) (H:Hp) (s:aJ) (h' :Heap) (ea:aV) (vs:List Value),Inv X pins σ H s->Heap.MadeExcOf s.heap h' ea (.ref C) vs->R H->X.xe (.ref ea) {s with heap:=h' }
theorem zWo{h:Heap}{bmB:List Value}{newId:String}(X:K.In h)(q:PySem.W.excIn K C bmB newId=true):
  ∃bm N nm q bs hdct sn sub ab col dd k0 k1 k2 k3 k5 mN,h.get? C=some (excClassObj nm q C N bs bm hdct sn sub ab col dd k0 k1 k2 k3 k5 newId)/\h.Ns N mN/\mN "__init__"=none/\OwnTail h bmB bm:=by
 unfold PySem.W.excIn at q;split at q
 ·rename_i dd cd sl ho;split at q
  ·rename_i C' bm k0 k1 k2 k3 n k5 hm hs;simp only[aP,beq_iff_eq,Bool.not_eq_true']at q;obtain⟨⟨⟨⟨⟨rfl,rfl⟩,hdel⟩,ht⟩,hok⟩,hni⟩:=q;obtain⟨nm,bs,mro,ns,qn,hd,sn,sub,ab,col,del⟩:=cd;dsimp only at hm hdel hok hni;subst hm hdel;have hsl:sl=#[k0,k1,k2,k3,some (.builtin n),k5]:=by
    obtain⟨l⟩:=sl;simp only at hs;rw[hs]
   subst hsl;exact⟨bm,ns,nm,qn,bs,hd,sn,sub,ab,col,dd,k0,k1,k2,k3,k5,_,X _ _ ho,.of_isNs (PySem.W.isNs_of_in X hok),PySem.W.nsMap_none_of_in X hok hni,PySem.W.tail_of_in X ht⟩
  ·cases q
 ·cases q
section
variable{X:Cx}
noncomputable def zXv(te:TE)(R:Hp->Prop):TS:=fun _ σ H=>te σ H fun v H1=>([v]:List V).length =1/\R H1
theorem zQ9{x:Str}{R:Hp->Prop}{e:Expr}{te:TE}{np cpos pos:Pos}(c:ExcCls X.K X.mg x C)(hg:Gl X x)(hcalm:X.calm=true)(he:PE X e te)(ht:vZy X C R)(hs:aX [e] X.env=[(false,eval e X.env)]:=by rfl)(hdb:(x == ("__debug__":Str))=false:=by decide):
  PS X (.Raise (some (.Call (.Name x np) [e] [] cpos)) none pos) (zXv te R):=by
 intro pins s σ H D I h;obtain⟨bm,N,nm,q,bs,hdct,sn,sub,ab,col,dd,k0,k1,k2,k3,k5,mN,hC,hN,hni,T⟩:=zWo I.ok.mod.kin c.ex
 refine wpAny_Raise_call_subT (C:=C) (nm:=nm) (q:=q) (N:=N) (bs:=bs) (bm:=bm) (hdct:=hdct) (sn:=sn) (sub:=sub) (ab:=ab) (col:=col) (dd:=dd) (k0:=k0) (k1:=k1) (k2:=k2) (k3:=k3) (k5:=k5)
  dC (mN:=mN) (T.hasType dC.hasBase) (I.ok.hd hcalm) (by rw[hs];rfl) hni (qQo I hg c.m ⟨rfl,?_⟩ hdb)
 have hA:PA X [e] (qY3 te tNil):=qQn he qZ6 hs;have h1:=hA cpos pins s σ H (fun vs H1=>vs.length=1/\R H1) I h;rw[hs]at h1⊢;refine Calls.evalArgs_plain (bU h1 (fun vs s2 h2=>?_) fun _ _ y=>y);obtain⟨ws,H1,I1,rv,hl,q1⟩:=h2;refine⟨rfl,?_,I1.bk _ _ hC,hN.keeps I1.bk,T.keeps I1.bk,fun h' ea hm=>ht pins σ H1 s2 h' ea vs I1 hm q1⟩;show vs.length<=aR;rw[←rv.length,hl];decide
end
noncomputable abbrev Cx.marked(X:Cx)(ea:aV):Cx:={X with A:=X.A.mark (some (.ref ea)),calm:=false,xe:=fun _ _=>False}
section
variable{X:Cx}{pins:List (aV×Obj)}{σ:St}{H:Hp}{s:aJ}{ea:aV}
theorem Inv.marked(I:Inv X pins σ H s)(ea:aV):Inv (X.marked ea) pins σ H s:=
 ⟨⟨I.ok.mod,I.ok.kind,I.ok.glob,I.ok.blt,I.ok.above,I.ok.inj,I.ok.has,I.ok.cab,fun h=>absurd (show false=true from h) aG,I.ok.frames,I.ok.stk,I.ok.exf,I.ok.bs,I.ok.bsz,I.ok.noex,I.ok.exfs,I.ok.funs,I.ok.frf⟩,
   I.os,I.bare,I.base,I.loc,I.cell,I.free,I.freeC,I.pin,I.hok,I.len⟩
theorem Inv.unmarked(I:Inv (X.marked ea) pins σ H s)(hd:X.calm=true->X.A.handled=none):Inv X pins σ H s:=
 ⟨⟨I.ok.mod,I.ok.kind,I.ok.glob,I.ok.blt,I.ok.above,I.ok.inj,I.ok.has,I.ok.cab,hd,I.ok.frames,I.ok.stk,I.ok.exf,I.ok.bs,I.ok.bsz,I.ok.noex,I.ok.exfs,I.ok.funs,I.ok.frf⟩,
   I.os,I.bare,I.base,I.loc,I.cell,I.free,I.freeC,I.pin,I.hok,I.len⟩
theorem Inv.adopt{o:HO}(I:Inv X pins σ H s)(hn:H p=none)(h0:X.s₀.heap.get? p=none)(hL:p≠X.env.locals)(hc:∀x c,X.env.cells.lookup x=some c->c≠p)(hp:∀q∈X.pn ++ pins,q.1≠p)(new:zD X.prog X.w (upd H p o) s.heap p o):Inv X pins σ (upd H p o) s:=by
 refine⟨I.ok,I.os,I.bare,⟨I.base.keep,I.base.slot,fun b u e n hx=>?_,I.base.there,fun b xs e=>?_,fun b u xs e=>?_,fun b ps e=>?_⟩,I.loc,I.cell,?_,fun x c e=>?_,fun q hq=>?_,fun b u e=>?_,I.len⟩
 ·rw [qF (fun z=>by rw [z,h0] at e;cases e)];exact I.base.free b u e n hx
 ·have z:=I.base.tups b xs e;rw[qF (vC z hn)];exact z
 ·have z:=I.base.frzs b u xs e;rw[qF (vC z hn)];exact z
 ·obtain⟨more,z⟩:=I.base.tbls b ps e;exact⟨more,by rw[qF (vC z hn)];exact z⟩
 ·rw [qF hL.symm];exact I.free
 ·rw [qF (hc x c e)];exact I.freeC x c e
 ·obtain⟨a1,a2,a3⟩:=I.pin q hq;exact⟨a1,by rw[qF (hp q hq)];exact a2,a3⟩
 ·by_cases hb:b=p
  ·subst hb;rw[upd_same]at e;cases e;exact new
  ·rw [qF hb] at e;exact(I.hok b u e).stay (fun c v _ q=>q) (fun c q=>by rw[qF (vC q hn)];exact q) fun c xs q=>by rw[qF (vC q hn)];exact q
theorem qKe{M:Model}{x:Str}{pos:Pos}{Q:Unit->aJ->Prop}(I:Inv X pins σ H s)(hN:X.N.Nodup)(hi:X.N[i]?=some x)(hx:X.env.scope.names.lookup x=some .local)(h:∀s',Inv X pins (σ.set i none) H s' ->Q () s'):aI M A (do bindName X.env x .none;unbindBehindTheSuite X.env x pos) Q E s:=by
 refine aZ (wpAny_bindName (qV5 I hN hi (Or.inl hx) (v:=.non) rfl (fun s1 I1=>?_) (.inr hx)));have hkind:(X.env.scope.kind ==.class || (X.env.scope.kind ==.module && X.env.locals != X.env.globals))=false:=by rw[I.ok.kind];rfl
 obtain⟨m,hn,hl⟩:=I1.loc;have hlen:i<(σ.set i (some V.non)).length :=by
  rw[I1.len];exact(aH.mp hi).1
 obtain⟨u,ru,lk⟩:=hl i x .non hi (by rw[bT]at hlen;simp[hlen]) (Or.inl hx);have hm:m x=some u:=by
  rcases lk with⟨_,z⟩|⟨z,_⟩
  ·exact z
  ·have hx' :X.env.kindOf x=some .local :=hx;rcases z with z|z <;> rw[hx']at z <;> cases z
 unfold unbindBehindTheSuite;refine wpAny_onRaise (wpAny_unbindName_local hx hn hm hkind fun h' v hn' sb=>?_);refine h _ ?_
 have tracked:HOk X.prog X.w H h' :=fun b ob e=>by
  refine(I1.hok b ob e).stay (fun c w' hc q=>(sb.2 c ?_).trans q) (fun _ q=>q) fun _ _ q=>q
  rintro rfl;rcases hc with z|hc
  ·rw[←z,I1.free]at e;cases e
  ·rw[I1.free]at hc;cases hc
 refine⟨I.ok,I1.os,I1.bare,⟨fun b o e n hb hx=>?_,fun b o e n hb hx=>?_,I1.base.free,fun b o e hx=>?_,I1.base.tups,I1.base.frzs,I1.base.tbls⟩,⟨_,hn',fun j y v' e1 e2 e3=>?_⟩,fun y c e=>?_,I1.free,I1.freeC,fun p hp=>?_,tracked,by rw[bT];exact I.len⟩
 ·exact(sb.2 b (bJ (aE (aU e) I.ok.above))).trans (I1.base.keep b o e n hb hx)
 ·obtain⟨sl,e1⟩:=I1.base.slot b o e n hb hx;exact⟨sl,(sb.2 b (bJ (aE (aU e) I.ok.above))).trans e1⟩
 ·obtain⟨o',e1⟩:=I1.base.there b o e hx;exact⟨o',(sb.2 b (bJ (aE (aU e) I.ok.above))).trans e1⟩
 ·have hj:j≠i:=fun z=>by
   subst z;rw[List.getElem?_set]at e2;split at e2
   ·split at e2 <;> cases e2
   ·rename_i z;exact absurd rfl z
  rw[bK (Ne.symm hj)]at e2;obtain⟨u',r',q⟩:=hl j y v' e1 (by rw[bK (Ne.symm hj)];exact e2) e3;refine⟨u',r',?_⟩;rcases q with⟨k,e⟩|⟨k,c,e,z⟩
  ·refine .inl ⟨k,?_⟩;have:y≠x:=fun e=>hj (qX6 hN e1 (e▸hi))
   simp[this,e]
  ·exact .inr ⟨k,c,e,z.sameBut sb (I1.cne y c e)⟩
 ·obtain⟨w',z⟩:=I1.cell y c e;exact⟨w',z.sameBut sb (I1.cne y c e)⟩
 ·obtain⟨e,n,ne,nf,d⟩:=I1.pin p hp;exact⟨(sb.2 p.1 ne).trans e,n,ne,nf,d⟩
theorem vV7{s1 s' :aJ}{cls a0:Value}{B h5:Heap}(I1:Inv X pins σ H1 s1)(os:s'.os=s1.os)(bare:AllBare s'.gens)(un:Un (frs X.stack) [] H1 H2 s1.heap s'.heap)(hok:HOk X.prog X.w H2 s'.heap)(fl:Heap.FlyingW B X.stack ea cls a0 h5)(cov:∀b o,s'.heap.get? b=some o->b∉frs X.stack->(H2 b≠none\/s1.heap.get? b≠none)->B.get? b=some o)(sm:s'.heap.UpToSlots h5):Inv X pins σ H2 {s' with heap:=h5}:=by
 have nx:∀b,b∉([]:List aV):=fun b=>by simp
 have k5:∀b o,s'.heap.get? b=some o->b∉frs X.stack->(H2 b≠none\/s1.heap.get? b≠none)->h5.get? b=some o:=fun b o e n1 n2=>fl.1 b o (cov b o e n1 n2)
 have slt:∀b o,s1.heap.get? b=some o->b∈frs X.stack->∃sl,h5.get? b=some {o with slots:=sl}:=fun b o e hb=>by
  obtain⟨_,o',ho',hd⟩:=I1.stack.mem hb;rw[e]at ho';cases ho';obtain⟨sl,e1⟩:=un.slot b o e (I1.stkFree b hb) hb (nx b);obtain⟨sl',e2⟩:=sm b _ e1 hd;exact⟨sl',e2⟩
 have fr2:∀b u,H2 b=some u->b∉frs X.stack:=fun b u e hb=>by
  obtain⟨_,o',ho',hd⟩:=I1.stack.mem hb;rw[un.free b o' ho' (I1.stkFree b hb) (nx b)]at e;cases e
 refine I1.call' (s' :={s' with heap:=h5}) (ch:=[]) os ⟨fun b o e n hb _=>?_,fun b o e n hb _=>slt b o e hb,un.free,fun b o e hx=>?_,un.tups,un.frzs,un.tbls⟩ (fun b u e=>?_) bare fun b hb=>absurd hb (nx b)
 ·exact k5 b o (un.keep b o e n hb (nx b)) hb (.inr (by rw[e];simp))
 ·by_cases hb:b∈frs X.stack
  ·obtain⟨sl,z⟩:=slt b o e hb;exact⟨_,z⟩
  ·obtain⟨o',e1⟩:=un.there b o e hx;exact⟨o',k5 b o' e1 hb (.inr (by rw[e];simp))⟩
 ·refine(hok b u e).stay (fun c v hc q=>?_) (fun _ q=>q) fun _ _ q=>q
  rcases hc with z|z
  ·subst z;exact k5 c v q (fr2 c u e) (.inl (by rw[e];simp))
  ·exact k5 c v q (fr2 c _ z) (.inl (by rw[z];simp))
noncomputable def jVk(p:aV)(cls:Value)(h:Heap):Prop:=∃o,h.get? p=some o/\o.cls=cls
end
end L2
namespace L2
open PySem PySem.Spec PySem.W PySem.Calls PyProof.Rows
variable{M:Model}{R:Result->aJ->Prop}{tk:Tok}
structure ExcKit(K:Frag)(C:aV):Prop where
 ga:findIn K (.ref C) "__getattribute__"=some (some (.builtin "BaseException.__getattribute__"))
 gx:findIn K (.ref C) "__getattr__"=some none
 cl:findIn K (.ref C) "__class__"=some (some (.builtin "object.__class__"))
 mo:mroIn K C (.type "object")=some true
 mb:mroIn K C (.type "BaseException")=some true
section
variable{prog:bV}{w:bW}{A:bS}{E:Value->aJ->Prop}{h:Heap}{g:Array GenState}{d:Drawn}{t:Nat}{os:OsState}{a C:aV}{o:Obj}{K:Frag}
theorem vZu(hx:h.get? a=some o)(hc:o.cls=.ref C):Looks M h (typeOf (.ref a)) (.ref C):=hc▸(Looks.ld hx).andThen .now
open Builtin Builtin.ObjectAttr Builtin.Getset_descriptor in
theorem zWq{tp:Value}(X:K.In h)(k:ExcKit K C)(hx:h.get? a=some o)(hc:o.cls=.ref C)(hq:R (.ok (.ret (.ref C))) ⟨h,g,d,t,os⟩):
  codeAny (model prog w) A (.call (.builtin "getset_descriptor.__get__") ⟨[.builtin "object.__class__",.ref a,tp],[]⟩) R ⟨h,g,d,t,os⟩:=by
 have L0:=vZu (M:=model prog w) hx hc;have L1:=looks_mroIn (M:=model prog w) X k.mo;refine codeAny_call_builtin KF.slot_gs.plain KF.entry_gs (KF.slot_gs.check _ _ _ _ _ _ _ _ KF.type_class (KF.args_gs _ _ _) ?_);unfold Builtin.«getset_descriptor.__get__» descrGet;rw[dga_obj];refine aZ (aL ?_);unfold descrGetter descrCheckInstance descrNameAndClass isInstance;simp only[KF.owner_class];repeat lk
 refine⟨Code.quiet_builtin _ (by decide +kernel),codeAny_builtin KF.entry_class ?_⟩;unfold Builtin.«object.__class__» shownTypeOf;repeat lk
 exact hq
theorem vYs{Q:Fin->aJ->Prop}(X:K.In h)(k:ExcKit K C)(hx:h.get? a=some o)(hc:o.cls=.ref C)(hq:Q (.done (.ret (.ref C))) ⟨h,g,d,t,os⟩):
  aI (model prog w) A (Builtin.«object.__getattribute__» ⟨[.ref a,.str "__class__" tk],[]⟩) Q E ⟨h,g,d,t,os⟩:=by
 have f5:=F.typeOf_object_class;have f6:=F.slot_gs_get.lookup;have f7:=F.slot_gs_set.lookup;have L3:=looks_findIn (M:=model prog w) X k.cl;repeat (any_goals (first|assumption|with_reducible refine L3.at ?_|(with_reducible refine bA hx ?_;rw[hc])|wp_step))
 refine zWq X k hx hc ?_
 repeat (any_goals (first|assumption|wp_step))
theorem qKs{nameV:Value}{Q:Unit->aJ->Prop}(X:K.In h)(k:ExcKit K C)(hx:h.get? a=some o)(hc:o.cls=.ref C)(hq:Q () ⟨h,g,d,t,os⟩):
  aI M A (checkBuiltinCall "BaseException.__getattribute__" ⟨[.ref a,nameV],[]⟩) Q E ⟨h,g,d,t,os⟩:=by
 have hk:builtinKind "BaseException.__getattribute__"=some .slot :=by decide +kernel
 have hsplit:splitId "BaseException.__getattribute__"=some ("BaseException","__getattribute__"):=by decide +kernel
 have L0:=vZu (M:=M) hx hc;have L1:=looks_mroIn (M:=M) X k.mb;simp only[checkBuiltinCall,hsplit];repeat (first|with_reducible refine L0.at ?_|with_reducible refine L1.at ?_|wp_step)
 exact hq
theorem zV9(X:K.In h)(k:ExcKit K C)(hx:h.get? a=some o)(hc:o.cls=.ref C)(hq:R (.ok (.ret (.ref C))) ⟨h,g,d,t,os⟩):
  codeAny (model prog w) A (.call (.builtin "BaseException.__getattribute__") ⟨[.ref a,.str "__class__" tk],[]⟩) R ⟨h,g,d,t,os⟩:=
 codeAny_call_builtin F.attrBase_ValueError.ga.plain F.entry_bexc_ga (qKs X k hx hc (vYs X k hx hc hq))
theorem zKw{fill expr:Bool}{Q:Value->aJ->Prop}(X:K.In h)(k:ExcKit K C)(hx:h.get? a=some o)(hc:o.cls=.ref C)(hq:Q (.ref C) ⟨h,g,d,t,os⟩):
  aI (model prog w) A (getAttrBy (.ref a) (.str "__class__" tk) fill expr) Q E ⟨h,g,d,t,os⟩:=by
 have f3:=F.attrBase_ValueError.ga.bind (.ref a);have hx0:(expr && onTheHeap (Value.builtin "BaseException.__getattribute__"))=false:=by cases expr <;> rfl
 have hx2:(Value.builtin "BaseException.__getattribute__" == Value.builtin "object.__getattribute__")=false:=by decide +kernel
 have L1:=looks_findIn (M:=model prog w) X k.ga;have L2:=looks_findIn (M:=model prog w) X k.gx;repeat (any_goals (first|assumption|with_reducible refine L1.at ?_|with_reducible refine L2.at ?_|(with_reducible refine bA hx ?_;rw[hc])|wp_step))
 refine zV9 X k hx hc ?_
 repeat (any_goals (first|assumption|wp_step))
theorem zZa{Q:Option Value->aJ->Prop}(X:K.In h)(k:ExcKit K C)(hx:h.get? a=some o)(hc:o.cls=.ref C)(hq:Q (some (.ref C)) ⟨h,g,d,t+1,os⟩):
  aI (model prog w) A (getAttr? (.ref a) "__class__") Q E ⟨h,g,d,t,os⟩:=by
 repeat (any_goals (first|assumption|with_reducible apply zKw X k hx hc|wp_step))
theorem zVu(k:ExcKit K C):KitX K (.ref a) (.ref C) (jVk a (.ref C)) where
 ty:=fun _ _ _ ⟨_,e,c⟩=>vZu e c
 it:=fun _ _ X _=>by
  obtain⟨cdD,hcD,_⟩:=cC.mp k.mo;unfold clsIn at hcD;split at hcD
  ·rename_i c' d' cd' sl' ho;intro A' Q' E' s' k q;exact aZ (wpAny_loadPart (k _ _ (X _ _ ho)) (aL q))
  ·cases hcD
 ne:=fun h tp dd its n sl X htp=>by
  obtain⟨cdD,hcD,_⟩:=cC.mp k.mo;refine Bool.eq_false_iff.mpr fun q=>?_
  have e:C=tp:=Value.ref.inj (beq_iff_eq.mp q);subst e;unfold clsIn at hcD;split at hcD
  ·rename_i c' d' cd' sl' ho;have z:=(X _ _ ho).symm.trans htp;cases z
  ·cases hcD
 ca:=fun {_ _ _ _ _ s} X ⟨o,e,c⟩ q=>by
  exact zZa X k e c q
end
section
variable{X:Cx}
theorem zQ3{c:V}{u v:Value}(h:(∃n,c=.ty n)\/∃a,c=.ref a)(r:RelV c u)(q:RelV c v):u=v:=by
 rcases h with⟨n,rfl⟩|⟨n,rfl⟩
 ·exact(show u=Value.type n from r).trans (show v=Value.type n from q).symm
 ·exact(show u=Value.ref n from r).trans (show v=Value.ref n from q).symm
end
end L2
namespace L2
open PySem PySem.Spec PyProof.Rows
variable{l:aV}{Q:Value->aJ->Prop}{u:Value}{P:bV}{w:bW}{H H':Hp}{xs:List (List Key×aV×Value)}{h':Heap}{X:Cx}{pins:List (aV×Obj)}{σ:St}
section
variable{X:Cx}
theorem vJj:OpR X (binaryOp .Mult) (fun x y H Q=>∃z n,x=.str z/\y=.int n/\MulOk z n/\Q (.str (Txt.mul z n)) H):=by
 intro pins s σ H x y v u Q I rx ry h;obtain⟨z,n,rfl,rfl,hm,q⟩:=h;obtain⟨t,rfl⟩:=rx;obtain⟨t',rfl⟩:=ry;exact SB.mul hm fun t' k=>⟨.str (Txt.mul z n),H,I.tok _,⟨_,rfl⟩,q⟩
end
structure Feed(i l:aV)(P:Nat->Heap->Prop)(f:Nat->Option Value):Prop where
 obj:∀k h,P k h->∃o,h.get? i=some o/\∀v,o.data≠ .cell v
 keep:∀k (h g:Heap),P k h->(∀b o,b=i\/b=l->h.get? b=some o->g.get? b=some o)->P k g
 item:∀{prog:bV} {w:bW} {A:bS} {E:Value->aJ->Prop} {s:aJ} {k:Nat} {x:Value} {Q:Value->aJ->Prop},P k s.heap->f k=some x->
  (∀g,P (k+1) g->dI i s.heap g->Q x {s with heap:=g})->aI (model prog w) A (Builtin.SmallTypes.nextOf (.ref i)) Q E s
 stop:∀{prog:bV} {w:bW} {A:bS} {E:Value->aJ->Prop} {s:aJ} {k:Nat} {Q:Value->aJ->Prop},A.handled=none->P k s.heap->f k=none->
  (∀g e,Heap.ExtBut i s.heap g->(∃o,g.get? e=some o/\o.cls=.type "StopIteration")->E (.ref e) {s with heap:=g})->aI (model prog w) A (Builtin.SmallTypes.nextOf (.ref i)) Q E s
section
variable{prog:bV}{w:bW}{A:bS}{E:Value->aJ->Prop}{s:aJ}
theorem vJp{i:aV}(hil:l≠i)(xs:Array Value):Feed i l (fun k h=>h.IsTupleIter i l k/\h.IsTuple l xs) (fun k=>xs[k]?) where
 obj:=fun k h p=>by
  obtain⟨⟨o,e,_,d⟩,_⟩:=p;exact⟨o,e,fun v z=>by rw[d]at z;cases z⟩
 keep:=fun k h g p q=>⟨p.1.at fun o e=>q i o (.inl rfl) e,by
  obtain⟨o,e,r⟩:=p.2;exact⟨o,q l o (.inr rfl) e,r⟩⟩
 item:=by
  intro prog w A E s k x Q p hx hQ;obtain⟨⟨oi,ei,ci,di⟩,⟨ol,el,cl,nl,dl⟩⟩:=id p;unfold Builtin.SmallTypes.nextOf;refine aZ (wpAny_callSpecial?_slot (name:=Str.ofString "__next__") p.1.typeIs cR (wpAny_call_entry cR p.1.typeIs PySem.F.entry_tuple_iterator_next ?_ (PySem.F.args_tuple_iterator_next_1 _)));show aI _ _ (field (.ref i) 0 >>=_) _ _ s;refine aZ (cL ei di (x:=.ref l) rfl ?_);show aI _ _ (if(Value.ref l == Value.none)=true then _ else _) _ _ s;rw[if_neg (show¬((Value.ref l == Value.none)=true) from aG)];show aI _ _ (field (.ref i) 1 >>=_) _ _ s;refine aZ (cL ei di (x:=.int k 0) rfl ?_);show aI _ _ (seqItems? (.ref l) >>=_) _ _ s;refine aZ (dW el dl ?_);have hx' :xs[k]?=some x:=hx;simp only[Int.toNat_natCast,hx'];refine aZ (wpAny_setField ei di (by simp) (aL ⟨x,rfl,aL (hQ _ ⟨?_,?_⟩ (Heap.SameBut.update ..))⟩))
  ·exact⟨_,Heap.get?_update_self _ ei (Obj.isFreed_of_fields (Obj.data_mapFields di _)),(Obj.cls_mapFields ..).trans ci,by rw[Obj.data_mapFields di];simp[rawInt]⟩
  ·exact⟨ol,((Heap.SameBut.update ..).2 l hil).trans el,cl,nl,dl⟩
 stop:=by
  intro prog w A E s k Q hh p hx hE;obtain⟨⟨oi,ei,ci,di⟩,⟨ol,el,cl,nl,dl⟩⟩:=id p;unfold Builtin.SmallTypes.nextOf;refine aZ (wpAny_callSpecial?_slot (name:=Str.ofString "__next__") p.1.typeIs cR (wpAny_call_entry cR p.1.typeIs PySem.F.entry_tuple_iterator_next ?_ (PySem.F.args_tuple_iterator_next_1 _)));show aI _ _ (field (.ref i) 0 >>=_) _ _ s;refine aZ (cL ei di (x:=.ref l) rfl ?_);show aI _ _ (if(Value.ref l == Value.none)=true then _ else _) _ _ s;rw[if_neg (show¬((Value.ref l == Value.none)=true) from aG)];show aI _ _ (field (.ref i) 1 >>=_) _ _ s;refine aZ (cL ei di (x:=.int k 0) rfl ?_);show aI _ _ (seqItems? (.ref l) >>=_) _ _ s;refine aZ (dW el dl ?_);have hx' :xs[k]?=none:=hx;simp only[Int.toNat_natCast,hx'];refine aZ (wpAny_rule (aZ (wpAny_setField ei di (by simp) ?_)));show aI _ _ (newExc (.type "StopIteration") [] >>=_) _ _ _;refine aZ ?_
  simp only[newExc,newTuple];refine aZ (wpAny_newObj_type ?_ (by size_fits));refine aZ (m:=firstArgMember _ _) (wpAny_of_eq (a:=Value.none) (by first|rfl|(simp only[firstArgMember];rfl)) (wpAny_newObj_type ?_ (by size_fits)));simp only[raiseNew];refine aZ (wpAny_handled ?_);first|rw[show A.in1.handled=none from hh]|rw[hh]
  refine aZ (aL (wpAny_throw ?_));exact hE _ _ (((Heap.SameBut.update ..).extBut.push _).push _) ⟨_,aT _ rfl,rfl⟩
variable{z TI TO i1 i2 l1 l2:aV}{P1 P2:Nat->Heap->Prop}{f1 f2:Nat->Option Value}{k1 k2:Nat}{x y a b:Value}
theorem vXp{Q:Option Value->aJ->Prop}(F1:Feed i1 l1 P1 f1)(F2:Feed i2 l2 P2 f2)(D:ZipApart z TI TO i1 i2 l1 l2)(hz:IsZip s.heap z TI TO .none)(hI:IsPair s.heap TI (.ref i1) (.ref i2))(hO:IsPair s.heap TO a b)(p1:P1 k1 s.heap)(p2:P2 k2 s.heap)(hx:f1 k1=some x)(hy:f2 k2=some y)(hQ:∀g,IsZip g z TI TO (rawInt s.heap.objs.size)->IsPair g TO x y->P1 (k1+1) g->P2 (k2+1) g->IsPair g s.heap.objs.size x y->
   (∀c o,c≠z->c≠TO->c≠i1->c≠i2->s.heap.get? c=some o->g.get? c=some o)->Q (some (.ref s.heap.objs.size)) {s with heap:=g}):
  aI (model prog w) A (pyNext (.ref z)) Q E s:=by
 have ty:s.TypeIs (.ref z) "zip":=⟨_,hz,rfl⟩
 unfold pyNext;refine aZ (wpAny_attempt (wpAny_callSpecial?_slot (name:=Str.ofString "__next__") ty PySem.F.slot_zip_next (wpAny_call_entry PySem.F.slot_zip_next ty PySem.F.entry_zip_next ?_ (PySem.F.args_zip_next_1 _))));show aI _ _ (field (.ref z) 2 >>=_) _ _ _;refine aZ (cL hz rfl (x:=.bool false) rfl ?_);show aI _ _ (field (.ref z) 3 >>=_) _ _ _;refine aZ (cL hz rfl (x:=.ref TI) rfl (aZ (dW hI rfl ?_)));show aI _ _ (Builtin.SmallTypes.ownedTupleIsFree (.ref z) >>=_) _ _ _;refine aZ ?_
 unfold Builtin.SmallTypes.ownedTupleIsFree;refine aZ (cL hz rfl (x:=.none) rfl (aL ?_));simp only[if_true];refine aZ (wpAny_rule (aZ (cL hz rfl (x:=.ref TO) rfl ?_)));refine aZ (dU hz (by simp) fun g1 z1 b1=>?_);replace z1:IsZip g1 z TI TO .ellipsis :=z1;refine aZ ?_
 simp only[List.zipIdx_cons,List.zipIdx_nil,List.forIn_cons,List.forIn_nil];refine aZ (aZ (wpAny_onRaise ?_));show aI _ _ (Builtin.SmallTypes.nextOf (.ref i1) >>=_) _ _ _;have q1:P1 k1 g1:=F1.keep _ _ _ p1 fun c o hc e=>b1.extBut _ _ (by rcases hc with rfl|rfl;exact D.i1z;exact D.l1z) e
 refine aZ (F1.item q1 hx fun g2 r1 b2=>aL ?_);have O2:IsPair g2 TO a b:=b2.extBut _ _ D.TOi1 (b1.extBut _ _ D.TOz hO);refine aZ (dW O2 rfl (aZ (wpAny_updateSeq_pair O2 fun g3 O3 b3=>?_)));replace O3:IsPair g3 TO x b:=O3;refine aZ (wpAny_letGo (aL (aZ (aZ (wpAny_onRaise ?_)))));show aI _ _ (Builtin.SmallTypes.nextOf (.ref i2) >>=_) _ _ _;have q2:P2 k2 g3:=F2.keep _ _ _ p2 fun c o hc e=>b3.extBut _ _ (by rcases hc with rfl|rfl;exact D.TOi2.symm;exact D.l2TO) (b2.extBut _ _ (by rcases hc with rfl|rfl;exact D.i12.symm;exact D.l2i1) (b1.extBut _ _ (by rcases hc with rfl|rfl;exact D.i2z;exact D.l2z) e))
 refine aZ (F2.item q2 hy fun g4 r2 b4=>aL ?_);have O4:IsPair g4 TO x b:=b4.extBut _ _ D.TOi2 O3;refine aZ (dW O4 rfl (aZ (wpAny_updateSeq_pair O4 fun g5 O5 b5=>?_)));replace O5:IsPair g5 TO x y:=O5;refine aZ (wpAny_letGo (aL (aL (aZ (dW O5 rfl (aZ (wpAny_newTuple ?_)))))));have sz:g5.objs.size=s.heap.objs.size:=by rw[b5.1,b4.1,b3.1,b2.1,b1.1]
 have z5:IsZip g5 z TI TO .ellipsis :=b5.extBut _ _ D.TOz.symm (b4.extBut _ _ D.i2z.symm (b3.extBut _ _ D.TOz.symm (b2.extBut _ _ D.i1z.symm z1)));have all5:∀c o,c≠z->c≠TO->c≠i1->c≠i2->s.heap.get? c=some o->g5.get? c=some o:=fun c o n1 n2 n3 n4 e=>
  b5.extBut _ _ n2 (b4.extBut _ _ n4 (b3.extBut _ _ n2 (b2.extBut _ _ n3 (b1.extBut _ _ n1 e))))
 have s1:P1 (k1+1) g5:=F1.keep _ _ _ r1 fun c o hc e=>b5.extBut _ _ (by rcases hc with rfl|rfl;exact D.TOi1.symm;exact D.l1TO) (b4.extBut _ _ (by rcases hc with rfl|rfl;exact D.i12;exact D.l1i2) (b3.extBut _ _ (by rcases hc with rfl|rfl;exact D.TOi1.symm;exact D.l1TO) e))
 have s2:P2 (k2+1) g5:=F2.keep _ _ _ r2 fun c o hc e=>b5.extBut _ _ (by rcases hc with rfl|rfl;exact D.TOi2.symm;exact D.l2TO) e
 have ltz:z<g5.objs.size:=aU z5;show aI _ _ (Builtin.SmallTypes.ownedTupleHandOut (.ref z) (.ref g5.objs.size) >>=_) _ _ _;refine aZ ?_
 unfold Builtin.SmallTypes.ownedTupleHandOut;have z6:IsZip (g5.push {cls:=.type "tuple",data:=.seq #[x,y]}) z TI TO .ellipsis :=aW _ z5;refine aZ (dU z6 (by simp) fun g7 z7 b7=>?_);replace z7:IsZip g7 z TI TO (rawInt g5.objs.size):=z7;refine dU z7 (by simp) fun g8 z8 b8=>?_
 replace z8:IsZip g8 z TI TO (rawInt g5.objs.size):=z8;have up:∀c o,c≠z->g5.get? c=some o->g8.get? c=some o:=fun c o n e=>b8.extBut _ _ n (b7.extBut _ _ n (aW _ e))
 have T8:IsPair g8 g5.objs.size x y:=b8.extBut _ _ (Nat.ne_of_gt ltz) (b7.extBut _ _ (Nat.ne_of_gt ltz) (aT _ rfl));rw[sz]at z8 T8;refine aL ⟨_,rfl,aL ?_⟩;show Q (some (.ref g5.objs.size)) _;rw[sz]
 exact hQ g8 z8 (up _ _ D.TOz O5) (F1.keep _ _ _ s1 fun c o hc e=>up c o (by rcases hc with rfl|rfl;exact D.i1z;exact D.l1z) e) (F2.keep _ _ _ s2 fun c o hc e=>up c o (by rcases hc with rfl|rfl;exact D.i2z;exact D.l2z) e) T8
  fun c o n1 n2 n3 n4 e=>up c o n1 (all5 c o n1 n2 n3 n4 e)
theorem zQn{Q:Option Value->aJ->Prop}(hh:A.handled=none)(F1:Feed i1 l1 P1 f1)(F2:Feed i2 l2 P2 f2)(D:ZipApart z TI TO i1 i2 l1 l2)(hz:IsZip s.heap z TI TO .none)(hI:IsPair s.heap TI (.ref i1) (.ref i2))(hO:IsPair s.heap TO a b)(p1:P1 k1 s.heap)(p2:P2 k2 s.heap)(ends:f1 k1=none\/f2 k2=none)(hQ:∀g,(∀c o,c≠z->c≠TO->c≠i1->c≠i2->s.heap.get? c=some o->g.get? c=some o)->Q none {s with heap:=g}):aI (model prog w) A (pyNext (.ref z)) Q E s:=by
 have ty:s.TypeIs (.ref z) "zip":=⟨_,hz,rfl⟩
 have last:∀(g:Heap) (e:aV),(∀c o,c≠z->c≠TO->c≠i1->c≠i2->s.heap.get? c=some o->g.get? c=some o)->(∃o,g.get? e=some o/\o.cls=.type "StopIteration")->
   aI (model prog w) A (do let b ←isInstance (.ref e) (.type "StopIteration");if b=true then pure none else throw (.ref e)) Q E {s with heap:=g}:=fun g e k1 k2=>by
  obtain⟨o,ho,hc⟩:=k2;refine aZ (wpAny_isInstance (T:="StopIteration") (b:=true) ⟨o,ho,hc⟩ isSubtype_stop ?_);exact aL (hQ g k1)
 unfold pyNext;refine aZ (wpAny_attempt (wpAny_callSpecial?_slot (name:=Str.ofString "__next__") ty PySem.F.slot_zip_next (wpAny_call_entry PySem.F.slot_zip_next ty PySem.F.entry_zip_next ?_ (PySem.F.args_zip_next_1 _))));show aI _ _ (field (.ref z) 2 >>=_) _ _ _;refine aZ (cL hz rfl (x:=.bool false) rfl ?_);show aI _ _ (field (.ref z) 3 >>=_) _ _ _;refine aZ (cL hz rfl (x:=.ref TI) rfl (aZ (dW hI rfl ?_)));show aI _ _ (Builtin.SmallTypes.ownedTupleIsFree (.ref z) >>=_) _ _ _;refine aZ ?_
 unfold Builtin.SmallTypes.ownedTupleIsFree;refine aZ (cL hz rfl (x:=.none) rfl (aL ?_));simp only[if_true];refine aZ (wpAny_rule (aZ (cL hz rfl (x:=.ref TO) rfl ?_)));refine aZ (dU hz (by simp) fun g1 z1 b1=>?_);replace z1:IsZip g1 z TI TO .ellipsis :=z1;refine aZ ?_
 simp only[List.zipIdx_cons,List.zipIdx_nil,List.forIn_cons,List.forIn_nil];refine aZ (aZ (wpAny_onRaise ?_));show aI _ _ (Builtin.SmallTypes.nextOf (.ref i1) >>=_) _ _ _;have q1:P1 k1 g1:=F1.keep _ _ _ p1 fun c o hc e=>b1.extBut _ _ (by rcases hc with rfl|rfl;exact D.i1z;exact D.l1z) e
 cases hx:f1 k1 with
 | none=>
   refine aZ (F1.stop hh q1 hx fun g2 e b2 he=>?_);obtain⟨oe,hoe,hce⟩:=he;have z2:IsZip g2 z TI TO .ellipsis :=b2 _ _ D.i1z.symm z1;have ez:e≠z:=fun q=>by subst q;rw[z2]at hoe;cases hoe;simp at hce
   exact dU z2 (by simp) fun g3 _ b3=>last g3 e (fun c o n1 _ n3 _ q=>b3.extBut _ _ n1 (b2 _ _ n3 (b1.extBut _ _ n1 q))) ⟨oe,b3.extBut _ _ ez hoe,hce⟩
 | some x=>
   have hy:f2 k2=none:=by
    rcases ends with q|q
    ·rw[hx]at q;cases q
    ·exact q
   refine aZ (F1.item q1 hx fun g2 r1 b2=>aL ?_);have O2:IsPair g2 TO a b:=b2.extBut _ _ D.TOi1 (b1.extBut _ _ D.TOz hO);refine aZ (dW O2 rfl (aZ (wpAny_updateSeq_pair O2 fun g3 O3 b3=>?_)));refine aZ (wpAny_letGo (aL (aZ (aZ (wpAny_onRaise ?_)))));show aI _ _ (Builtin.SmallTypes.nextOf (.ref i2) >>=_) _ _ _;have q2:P2 k2 g3:=F2.keep _ _ _ p2 fun c o hc e=>b3.extBut _ _ (by rcases hc with rfl|rfl;exact D.TOi2.symm;exact D.l2TO) (b2.extBut _ _ (by rcases hc with rfl|rfl;exact D.i12.symm;exact D.l2i1) (b1.extBut _ _ (by rcases hc with rfl|rfl;exact D.i2z;exact D.l2z) e))
   refine aZ (F2.stop hh q2 hy fun g4 e b4 he=>?_);obtain⟨oe,hoe,hce⟩:=he;have z4:IsZip g4 z TI TO .ellipsis :=b4 _ _ D.i2z.symm (b3.extBut _ _ D.TOz.symm (b2.extBut _ _ D.i1z.symm z1));have ez:e≠z:=fun q=>by subst q;rw[z4]at hoe;cases hoe;simp at hce
   exact dU z4 (by simp) fun g5 _ b5=>last g5 e (fun c o n1 n2 n3 n4 q=>b5.extBut _ _ n1 (b4 _ _ n4 (b3.extBut _ _ n2 (b2.extBut _ _ n3 (b1.extBut _ _ n1 q))))) ⟨oe,b5.extBut _ _ ez hoe,hce⟩
end
section
variable{κ:Type}[DecidableEq κ]
noncomputable def valV(kvs:List (κ×V))(k:κ):Option V:=(kvs.find? fun kv=>decide (kv.1=k)).map (·.2)
noncomputable def putK(kvs:List (κ×V))(k:κ)(v:V):List (κ×V):=
 if(kvs.any fun kv=>decide (kv.1=k))=true then kvs.map (fun kv=>if kv.1=k then(kv.1,v) else kv) else kvs ++ [(k,v)]
theorem qJr{p:κ×V}{r:List (κ×V)}{k:κ}(e:p.1=k):valV (p::r) k=some p.2:=by simp[valV,List.find?_cons,e]
theorem qJs{p:κ×V}{r:List (κ×V)}{k:κ}(e:¬p.1=k):valV (p::r) k=valV r k:=by simp[valV,List.find?_cons,e]
theorem vVb(k:κ):∀kvs:List (κ×V),(kvs.any fun kv=>decide (kv.1=k))=(valV kvs k).isSome
 |[]=>rfl
 | p::r=>by
   rw[List.any_cons];by_cases e:p.1=k
   ·simp only[qJr e,decide_eq_true e,Bool.true_or,Option.isSome_some]
   ·rw[qJs e,decide_eq_false e,Bool.false_or];exact vVb k r
theorem qW0(kvs:List (κ×V))(k:κ)(v:V):(putK kvs k v).length <=kvs.length+1:=by
 unfold putK;grind
theorem RelO.isSome_eq{o:Option V}{u:Option Value}(r:RelO o u):o.isSome=u.isSome:=by
 cases o with
 | none=>cases u with
   |none=>rfl
   |some _=>exact(show False from r).elim
 | some _=>cases u with
   |none=>exact(show False from r).elim
   |some _=>rfl
theorem RelO.getD{o:Option V}{u:Option Value}{d:V}{d' :Value}(r:RelO o u)(rd:RelV d d'):RelV (o.getD d) (u.getD d'):=by
 cases o with
 | none=>cases u with
   |none=>exact rd
   |some _=>exact(show False from r).elim
 | some _=>cases u with
   |none=>exact(show False from r).elim
   |some _=>exact r
theorem KV.val{kvs:List (κ×V)}{vs:List (κ×Value)}(r:KV kvs vs)(k:κ):RelO (valV kvs k) (valueAt vs k):=by
 unfold KV at r;induction r with
 |nil=>exact True.intro
 | @cons p q ps qs h t ih=>
   obtain⟨h1,h2⟩:=h;by_cases e:p.1=k
   ·have e' :q.1=k:=h1.symm.trans e;have b:valueAt (q::qs) k=some q.2:=by simp[valueAt,List.find?_cons,e']
    rw[qJr e,b];exact h2
   ·have e' :¬q.1=k:=fun z=>e (h1.trans z)
    have b:valueAt (q::qs) k=valueAt qs k:=by simp[valueAt,List.find?_cons,e']
    rw[qJs e,b];exact ih
theorem KV.any{kvs:List (κ×V)}{vs:List (κ×Value)}(r:KV kvs vs)(k:κ):(kvs.any fun kv=>decide (kv.1=k))=vs.any fun kv=>decide (kv.1=k):=by
 induction r with
 |nil=>rfl
 |cons h t ih=>grind
theorem KV.repl{kvs:List (κ×V)}{vs:List (κ×Value)}(r:KV kvs vs)(k:κ){y:V}(ry:RelV y u):
  KV (kvs.map fun kv=>if kv.1=k then(kv.1,y) else kv) (vs.map fun kv=>if kv.1=k then(kv.1,u) else kv):=by
 induction r with
 |nil=>exact .nil
 | @cons p q ps qs h t ih=>
   rw[aS,aS];refine .cons ?_ ih;grind
theorem KV.put{kvs:List (κ×V)}{vs:List (κ×Value)}(r:KV kvs vs)(k:κ){y:V}(ry:RelV y u):KV (putK kvs k y) (stored vs k u):=by
 unfold putK stored;rw[r.any k];by_cases e:(vs.any fun kv=>decide (kv.1=k))=true
 ·rw[if_pos e,if_pos e];exact r.repl k ry
 ·rw[if_neg e,if_neg e];exact Paired.snoc r ⟨rfl,ry⟩
theorem KV.length{kvs:List (κ×V)}{vs:List (κ×Value)}(r:KV kvs vs):kvs.length=vs.length:=Paired.length r
end
theorem qY9{k:Key}(r:RelV (kV k) u):(jO P w).is k u=true:=by
 cases k with
 |inl i=>obtain⟨t,e⟩:=(show∃t,u=Value.int i t from r);subst e;exact vZe P w i t
 |inr x=>obtain⟨t,e⟩:=(show∃t,u=Value.str x t from r);subst e;exact vZd P w x t
theorem qKp:∀{ks:List Key} {us:List Value},Vals (ks.map kV) us->ItemsAre (jO P w) ks us
 |[],_,r=>by rw[List.map_nil]at r;cases r;exact .nil
 | k::ks,_,r=>by
   cases r with
   |cons h t=>exact .cons (qY9 h) (qKp t)
noncomputable abbrev KT(H:Hp):List (List Key×V)->List (List Key×aV×Value)->Prop:=Paired fun p q=>p.1=q.1/\H q.2.1=some (.tup (p.1.map kV))/\RelV p.2 q.2.2
theorem KT.val{kvs:List (List Key×V)}(r:KT H kvs xs)(k:List Key):RelO (valV kvs k) ((atKey xs k).map (·.2)):=by
 induction r with
 |nil=>exact True.intro
 | @cons p q ps qs h t ih=>
   obtain⟨h1,_,h2⟩:=h;by_cases e:p.1=k
   ·have e' :q.1=k:=h1.symm.trans e;have b:atKey (q::qs) k=some q.2:=by simp[atKey,e']
    rw[qJr e,b];exact h2
   ·have e' :¬q.1=k:=fun z=>e (h1.trans z)
    have b:atKey (q::qs) k=atKey qs k:=by simp[atKey,e']
    rw[qJs e,b];exact ih
theorem KT.repl{kvs:List (List Key×V)}(r:KT H kvs xs)(k:List Key){y:V}(ry:RelV y u):
  KT H (kvs.map fun kv=>if kv.1=k then(kv.1,y) else kv) (xs.map (putAt k u)):=by
 induction r with
 |nil=>exact .nil
 | @cons p q ps qs h t ih=>
   rw[aS,aS];refine .cons ?_ ih;obtain⟨h1,h2,h3⟩:=h;unfold putAt;grind
theorem KT.put{kvs:List (List Key×V)}(r:KT H kvs xs)(k:List Key){b:aV}{y:V}(hb:H b=some (.tup (k.map kV)))(ry:RelV y u):
  KT H (putK kvs k y) (storedH xs k b u):=by
 have e:(kvs.any fun kv=>decide (kv.1=k))=(atKey xs k).isSome :=by
  rw[vVb,(r.val k).isSome_eq,Option.isSome_map]
 unfold putK storedH;rw[e];by_cases q:(atKey xs k).isSome =true
 ·rw[if_pos q,if_pos q];exact r.repl k ry
 ·rw[if_neg q,if_neg q];exact Paired.snoc r ⟨rfl,hb,ry⟩
theorem KT.keeps{kvs:List (List Key×V)}(r:KT H kvs xs)(ht:∀b ys,H b=some (.tup ys)->H' b=some (.tup ys)):KT H' kvs xs:=
 Paired.mapP r fun _ _ z=>⟨z.1,ht _ _ z.2.1,z.2.2⟩
section
variable{P:bV}{w:bW}{H:Hp}{h:Heap}{a:aV}
theorem zW8{u:HO}(ok:HOk P w H h)(e:Rd H a u):zD P w H h a u:=e.ok ok
theorem qWv{kvs:List (Key×V)}(ok:HOk P w H h)(e:Rd H a (.dK kvs)):kvs.length<=aR/\(a == dG)=false/\∃vs,KV kvs vs/\h.DictOf (jO P w) a vs:=
 show zD P w H h a (.dK kvs) from zW8 ok e
theorem jVc{kvs:List (Key×V)}(ok:HOk P w H h)(e:H a=some (.dK kvs)):kvs.length<=aR/\(a == dG)=false/\∃vs,KV kvs vs/\h.DictOf (jO P w) a vs:=qWv ok (.inl e)
theorem qJ8{ks:List Key}(ok:HOk P w H h)(e:H a=some (.tup (ks.map kV))):(tupleKind (jO P w)).is h ks a:=by
 obtain⟨_,its,r,o,h1,h2,n,h3⟩:=(show zD P w H h a (.tup (ks.map kV)) from ok a _ e)
 exact⟨o,its.toArray,n,h1,h2,h3,by simpa using qKp r⟩
theorem qXp{kvs:List (List Key×V)}(ok:HOk P w H h)(e:Rd H a (.dT kvs)):kvs.length<=aR/\(a == dG)=false/\
  ∃xs,KT H kvs xs/\h.DictOfH (tupleKind (jO P w)) a xs:=by
 obtain⟨z,y,xs,r,o,es,ep,h1,h2,h3,h4,h5⟩:=(show zD P w H h a (.dT kvs) from zW8 ok e)
 refine⟨z,y,xs,r,o,es,ep,h1,h2,h3,h4,fun x hx=>?_,h5⟩;have all:∀{l:List (List Key×V)} {m:List (List Key×aV×Value)},KT H l m->∀x∈m,(tupleKind (jO P w)).is h x.1 x.2.1:=by
  intro l m q;induction q with
  |nil=>intro x hx;exact nomatch hx
  | @cons p q ps qs hq t ih=>
    intro x hx;rcases aA.mp hx with e|hx
    ·subst e;exact qJ8 ok (by rw[←hq.1];exact hq.2.1)
    ·exact ih x hx
 exact all r x hx
theorem jVb{kvs:List (List Key×V)}(ok:HOk P w H h)(e:H a=some (.dT kvs)):kvs.length<=aR/\(a == dG)=false/\
  ∃xs,KT H kvs xs/\h.DictOfH (tupleKind (jO P w)) a xs:=qXp ok (.inl e)
end
noncomputable def DGet(H:Hp)(a:aV)(y:V)(r:Option V):Prop:=
 (∃kvs k,Rd H a (.dK kvs)/\y=kV k/\r=valV kvs k)\/∃kvs k b,Rd H a (.dT kvs)/\y=.ref b/\H b=some (.tup (k.map kV))/\r=valV kvs k
noncomputable def DPut(H:Hp)(a:aV)(y v:V)(H' :Hp):Prop:=
 (∃kvs k,H a=some (.dK kvs)/\y=kV k/\kvs.length<aR/\H' =upd H a (.dK (putK kvs k v)))\/
 ∃kvs k b,H a=some (.dT kvs)/\y=.ref b/\H b=some (.tup (k.map kV))/\kvs.length<aR/\H' =upd H a (.dT (putK kvs k v))
theorem DGet.k{a:aV}{kvs:List (Key×V)}{k:Key}(e:H a=some (.dK kvs)):DGet H a (kV k) (valV kvs k):=.inl ⟨kvs,k,.inl e,rfl,rfl⟩
theorem DPut.k{a:aV}{kvs:List (Key×V)}{k:Key}{v:V}(e:H a=some (.dK kvs))(hl:kvs.length<aR):DPut H a (kV k) v (upd H a (.dK (putK kvs k v))):=.inl ⟨kvs,k,e,rfl,hl,rfl⟩
section
variable{X:Cx}{pins:List (aV×Obj)}{σ:St}{H:Hp}{s:aJ}{a:aV}{y v:V}{u r:Value}{o:Option V}{A:bS}{E:Value->aJ->Prop}
theorem Inv.big(I:Inv X pins σ H s):dG<s.heap.objs.size:=by
 have h:bO<s.heap.objs.size:=(I.mod.glob.keeps I.bk).lt;exact Nat.lt_trans (by decide) h
theorem vY0(hu:A.units+1<dF)(I:Inv X pins σ H s)(g:DGet H a y (some v))(ry:RelV y u)(h:∀w' s',Inv X pins σ H s' ->RelV v w' ->Q w' s'):
  aI (model X.prog X.w) A (getItem (.ref a) u) Q E s:=by
 rcases g with⟨kvs,k,e,ey,l⟩|⟨kvs,k,b,e,ey,eb,l⟩
 ·subst ey;obtain⟨z,hd,vs,rel,dd⟩:=qWv I.hok e;obtain⟨w',hw,rw'⟩:=RelO.some_of (v:=v) (o:=valueAt vs k) (by rw[l];exact rel.val k);exact wpAny_getItem_of (qY9 ry) dd.mapOf hw (h w' _ (I.tok _) rw')
 ·subst ey;cases(show u=Value.ref b from ry);obtain⟨z,hd,xs,rel,dd⟩:=qXp I.hok e;obtain⟨w',hw,rw'⟩:=RelO.some_of (v:=v) (o:=(atKey xs k).map (·.2)) (by rw[l];exact rel.val k);obtain⟨p,hp,hp2⟩:=bZ.mp hw;refine wpAny_getItem_heap (tupleKind_room_in1 hu) (qJ8 I.hok eb) dd hp ?_
  rw[hp2];exact h w' _ (I.tok _) rw'
theorem d_in(hu:A.units+1<dF)(I:Inv X pins σ H s)(g:DGet H a y o)(ry:RelV y u)(h:∀s',Inv X pins σ H s' ->Q (.bool o.isSome) s'):
  aI (model X.prog X.w) A (cV .In u (.ref a)) Q E s:=by
 rcases g with⟨kvs,k,e,ey,l⟩|⟨kvs,k,b,e,ey,eb,l⟩
 ·subst ey;obtain⟨z,hd,vs,rel,dd⟩:=qWv I.hok e;refine wpAny_in_of (qY9 ry) hd dd.mapOf ?_
  rw[←(rel.val k).isSome_eq,←l];exact h _ (I.tok _)
 ·subst ey;cases(show u=Value.ref b from ry);obtain⟨z,hd,xs,rel,dd⟩:=qXp I.hok e;refine wpAny_in_heap (tupleKind_room_in1 hu) (qJ8 I.hok eb) hd dd ?_
  have q:=(rel.val k).isSome_eq;rw[Option.isSome_map]at q;rw[←q,←l];exact h _ (I.tok _)
theorem zWx(hu:A.units+1<dF)(I:Inv X pins σ H s)(g:DGet H a y o)(ry:RelV y u)(h:∀s',Inv X pins σ H s' ->Q (.bool (!o.isSome)) s'):
  aI (model X.prog X.w) A (cV .NotIn u (.ref a)) Q E s:=by
 rcases g with⟨kvs,k,e,ey,l⟩|⟨kvs,k,b,e,ey,eb,l⟩
 ·subst ey;obtain⟨z,hd,vs,rel,dd⟩:=qWv I.hok e;refine wpAny_notIn_of (qY9 ry) hd dd.mapOf ?_
  rw[←(rel.val k).isSome_eq,←l];exact h _ (I.tok _)
 ·subst ey;cases(show u=Value.ref b from ry);obtain⟨z,hd,xs,rel,dd⟩:=qXp I.hok e;refine wpAny_notIn_heap (tupleKind_room_in1 hu) (qJ8 I.hok eb) hd dd ?_
  have q:=(rel.val k).isSome_eq;rw[Option.isSome_map]at q;rw[←q,←l];exact h _ (I.tok _)
theorem vXk{t' :Nat}{ob:HO}(I:Inv X pins σ H s)(mu:Mut (H a))(hs:dI a s.heap h')(he:∃q,h'.get? a=some q)(new:zD X.prog X.w (upd H a ob) h' a ob):
  Inv X pins σ (upd H a ob) {s with heap:=h',toks:=t' }:=
 I.write (x:=a) (e:=a) mu (.inl rfl) (fun b q hb z=>(hs.2 b hb).trans z) he new
theorem zK1{kvs:List (Key×V)}{vs:List (Key×Value)}(z:kvs.length<=aR)(hd:(a == dG)=false)(rel:KV kvs vs)(dd:h'.DictOf (jO P w) a vs):
  zD P w H' h' a (.dK kvs):=⟨z,hd,vs,rel,dd⟩
theorem vYz{Q:Unit->aJ->Prop}(hu:A.units+1<dF)(I:Inv X pins σ H s)(g:DPut H a y v H')(ry:RelV y u)(rv:RelV v r)(h:∀s',Inv X pins σ H' s' ->Q () s'):
  aI (model X.prog X.w) A (setItem (.ref a) u r) Q E s:=by
 rcases g with⟨kvs,k,e,ey,l,eH⟩|⟨kvs,k,b,e,ey,eb,l,eH⟩
 ·subst ey eH;obtain⟨z,hd,vs,rel,dd⟩:=jVc I.hok e;have hz:vs.length<=aR:=by rw[←rel.length];exact z
  have hl:(putK kvs k v).length <=aR:=by have:=qW0 kvs k v;omega
  refine wpAny_setItem_pairs (hsz:=hz) (qY9 ry) dd fun h' dd' hs=>h _ ?_
  have he:∃q,h'.get? a=some q:=let ⟨q,_,_,hq,_⟩:=dd';⟨q,hq⟩;exact vXk I (by rw[e];exact True.intro) hs he (zK1 hl hd (rel.put k rv) dd')
 ·subst ey eH;cases(show u=Value.ref b from ry);obtain⟨z,hd,xs,rel,dd⟩:=jVb I.hok e;have hz:xs.length<=aR:=by rw[←Paired.length rel];exact z
  have hl:(putK kvs k v).length <=aR:=by have:=qW0 kvs k v;omega
  refine wpAny_setItem_heap (hsz:=hz) (tupleKind_room_in1 hu) (qJ8 I.hok eb) dd fun h' dd' hs=>h _ ?_
  obtain⟨q,es,ep,hq,h2,h3,h4,_,h5⟩:=dd';refine vXk I (by rw[e];exact True.intro) hs ⟨q,hq⟩ ⟨hl,hd,_,(rel.put k eb rv).keeps fun c ys ec=>?_,q,es,ep,hq,h2,h3,h4,h5⟩;rw[qF (jQ0 ec e (fun z=>nomatch z))];exact ec
end
section
variable{X:Cx}{pins:List (aV×Obj)}{σ:St}{H:Hp}{s:aJ}{a:aV}{kvs:List (Key×V)}{k:Key}{u:Value}{A:bS}{E:Value->aJ->Prop}
theorem jVf(I:Inv X pins σ H s)(e:Rd H a (.dK kvs))(h:∀t s',Inv X pins σ H s' ->Q (.int kvs.length t) s'):aI (model X.prog X.w) A (call (.builtin "len") [.ref a]) Q E s:=by
 obtain⟨z,hd,vs,rel,dd⟩:=qWv I.hok e;refine call_len_dict hd dd (by rw[←rel.length];rw[sizeLine_eq]at z;omega) ?_
 rw[←rel.length];exact h _ _ (I.tok _)
end
theorem vZg{s:aJ}{a:aV}{y:V}{o:Option V}(I:Inv X pins σ H s)(g:DGet H a y o):s.TypeIs (.ref a) "dict":=by
 rcases g with⟨kvs,k,e,_,_⟩|⟨kvs,k,b,e,_,_,_⟩
 ·obtain⟨_,_,vs,_,dd⟩:=qWv I.hok e;exact dd.typeIs
 ·obtain⟨_,_,xs,_,dd⟩:=qXp I.hok e;exact dd.typeIs
noncomputable def jQf(td ty tv:TE):TS:=fun D σ H=>tv σ H fun v H1=>td σ H1 fun x H2=>ty σ H2 fun y H3=>∃a H4,x=.ref a/\DPut H3 a y v H4/\D.nx σ H4
section
variable{X:Cx}{o i e value:Expr}{pos pos' tpos:Pos}{td ty tv:TE}
theorem zJf(hu:X.A.units+1<dF)(ho:PE X o td)(hi:PE X i ty)(hv:PE X value tv)(hs:swapsWith value (some (.Subscript o i pos')) pos.line X.env=pure false):
  PS X (.Assign [.Subscript o i pos'] value pos) (jQf td ty tv):=by
 intro pins s σ H D I h;refine wpAny_Assign_Subscript (thn (hv pins s σ H _ I h) fun r s1 ⟨v,H1,I1,rv,q1⟩=>thn (ho pins s1 σ H1 _ I1 q1) fun u s2 ⟨x,H2,I2,rx,q2⟩=>thn (hi pins s2 σ H2 _ I2 q2) fun iv s3 ⟨y,H3,I3,ry,a,H4,ex,g,q3⟩=>?_) hs;subst ex;obtain rfl:u=Value.ref a:=rx;exact vYz hu I3 g ry rv fun s4 I4=>⟨σ,H4,I4,q3⟩
end
theorem zZi(h:Heap)(hb:dG<h.objs.size):zD P w H (h.push {cls:=.type "dict",data:=.dict #[]}) h.objs.size (.dK []):=
 ⟨Nat.zero_le _,beq_eq_false_iff_ne.mpr (Ne.symm (bJ hb)),[],.nil,Heap.DictOf.new h⟩
noncomputable def tDNewK:TE:=fun _ H Q=>∀p,H p=none->Q (.ref p) (upd H p (.dK []))
section
variable{X:Cx}{pos:Pos}
theorem zVg:PE X (.Dict [] [] pos) tDNewK:=fun pins s σ H Q I h=>
 wpAny_Dict_empty ⟨.ref s.heap.objs.size,_,I.laid (a:=s.heap.objs.size) (o:=.dK []) (t' :=s.toks) (fun _ _ q=>aW _ q) (aD _) (zZi s.heap I.big),rfl,h _ (I.hok.fresh (aD _))⟩
end
structure M1(X:Cx)(o:Expr)(m:Str)(apos:Pos)(e:Expr)(cpos:Pos):Prop where
 base:attributeBase o m X.env (eval o X.env)=eval o X.env
 few:((bI cpos (aX [e] X.env)).all (fun x=>!x.1) && (backToKw cpos (keywordEach [] X.env)).all (fun x=>x.1.isSome)
  && decide (([e]:List Expr).length+([]:List Keyword).length+(if([]:List Keyword).isEmpty then 0 else 1)<30))=true
 line:(apos.endLine == cpos.line)=true
 trees:bI cpos (aX [e] X.env)=[(false,eval e X.env)]
noncomputable def IsD(H:Hp)(a:aV):Prop:=(∃kvs,Rd H a (.dK kvs))\/∃kvs,Rd H a (.dT kvs)
theorem zKo{s:aJ}{a:aV}(I:Inv X pins σ H s)(d:IsD H a):
  s.TypeIs (.ref a) "dict"/\(∀b,Value.ref a=.ref b->∃ob,s.heap.get? b=some ob/\ob.dict=none)/\(a == dG)=false:=by
 rcases d with⟨kvs,e⟩|⟨kvs,e⟩
 ·obtain⟨_,hd,vs,_,dd⟩:=qWv I.hok e;refine⟨dd.typeIs,fun b q=>?_,hd⟩;cases q;obtain⟨ob,_,_,h1,h2,_⟩:=dd;exact⟨ob,h1,h2.2.1⟩
 ·obtain⟨_,hd,xs,_,dd⟩:=qXp I.hok e;refine⟨dd.typeIs,fun b q=>?_,hd⟩;cases q;obtain⟨ob,_,_,h1,h2,_⟩:=dd;exact⟨ob,h1,h2.2.1⟩
section
variable{X:Cx}{pins:List (aV×Obj)}{σ:St}{H:Hp}{s:aJ}{a:aV}{y d:V}{u r:Value}{o:Option V}{A:bS}{E:Value->aJ->Prop}
theorem zK3(hu:A.units+1<dF)(I:Inv X pins σ H s)(g:DGet H a y o)(ry:RelV y u)(h:∀w' s',Inv X pins σ H s' ->RelV (o.getD .non) w' ->Q w' s'):
  aI (model X.prog X.w) A (call (.builtin "dict.get") [.ref a,u]) Q E s:=by
 rcases g with⟨kvs,k,e,ey,l⟩|⟨kvs,k,b,e,ey,eb,l⟩
 ·subst ey;obtain⟨z,hd,vs,rel,dd⟩:=qWv I.hok e;refine call_meetsIn PySem.F.slot_dict_get dd.typeIs PySem.F.entry_dict_get (PySem.F.args_dict_get_2 _ _) (meets_dict_get (jO X.prog X.w) a (qY9 ry) hd) ⟨_,dd.mapOf,h _ _ (I.tok _) ?_⟩;rw[l];exact(rel.val k).getD rfl
 ·subst ey;cases(show u=Value.ref b from ry);obtain⟨z,hd,xs,rel,dd⟩:=qXp I.hok e;refine call_meetsIn PySem.F.slot_dict_get dd.typeIs PySem.F.entry_dict_get (PySem.F.args_dict_get_2 _ _) (meetsH_dict_get (tupleKind (jO X.prog X.w)) a b hd) ⟨tupleKind_room_in1 hu,k,xs,qJ8 I.hok eb,dd,h _ _ (I.tok _) ?_⟩;rw[l];exact(rel.val k).getD rfl
end
noncomputable def zXx(td ty:TE):TE:=fun σ H Q=>td σ H fun x H1=>∃a,x=.ref a/\IsD H1 a/\ty σ H1 fun y H2=>∃o,DGet H2 a y o/\Q (o.getD .non) H2
section
variable{X:Cx}{o e f:Expr}{apos cpos:Pos}{td ty tx:TE}
theorem zVh(hu:X.A.units+1<dF)(ho:PE X o td)(he:PE X e ty)(m:M1 X o "get" apos e cpos):PE X (.Call (.Attribute o "get" apos) [e] [] cpos) (zXx td ty):=by
 intro pins s σ H Q I h;refine wpAny_Call_method m.base m.few m.line PySem.F.plainAttrs_dict PySem.F.slot_dict_get PySem.F.type_dict_get (thn (ho pins s σ H _ I h) fun u s1 ⟨x,H1,I1,rx,a,ex,d,q1⟩=>?_);subst ex;obtain rfl:u=Value.ref a:=rx;obtain⟨t1,t2,_⟩:=zKo I1 d;refine⟨t1,t2,?_⟩;rw[m.trees];refine Calls.callWith_builtin rfl (Calls.evalArgs_plain (Calls.spliced_cons (thn (he pins s1 σ H1 _ I1 q1) fun iv s2 ⟨y,H2,I2,ry,ov,g,q2⟩=>Calls.spliced_nil ?_)));exact zK3 hu I2 g ry fun w' s3 I3 rw' =>⟨_,H2,I3,rw',q2⟩
end
theorem vYr{i:aV}(hil:l≠i)(xs:Array Value):Feed i l (fun k h=>h.IsListIter i l k/\h.IsList l xs) (fun k=>xs[k]?) where
 obj:=fun k h p=>by
  obtain⟨⟨o,e,_,d⟩,_⟩:=p;exact⟨o,e,fun v z=>by rw[d]at z;cases z⟩
 keep:=fun k h g p q=>⟨p.1.at fun o e=>q i o (.inl rfl) e,by
  obtain⟨o,e,r⟩:=p.2;exact⟨o,q l o (.inr rfl) e,r⟩⟩
 item:=fun p hx hQ=>wpAny_nextOf_list_item p.1 p.2 hx fun g h1 h2=>hQ g ⟨h1,p.2.extBut h2.extBut hil⟩ h2
 stop:=fun hh p hx hE=>wpAny_nextOf_list_end hh p.1 p.2 hx hE
end L2
namespace L2
open PySem PySem.Spec PySem.W PyProof.Rows
section
variable{X:Cx}
theorem zY3(hu:X.A.units+1<dF):OpR X (cV .In) (fun x y H Q=>∃a o,y=.ref a/\DGet H a x o/\Q (.bl o.isSome) H):=by
 intro pins s σ H x y u v Q I ru rv h;obtain⟨a,o,rfl,g,q⟩:=h;cases(show v=Value.ref a from rv);exact d_in hu I g ru fun s' I' =>⟨.bl _,H,I',rfl,q⟩
theorem vYc(hu:X.A.units+1<dF):OpR X (cV .NotIn) (fun x y H Q=>∃a o,y=.ref a/\DGet H a x o/\Q (.bl (!o.isSome)) H):=by
 intro pins s σ H x y u v Q I ru rv h;obtain⟨a,o,rfl,g,q⟩:=h;cases(show v=Value.ref a from rv);exact zWx hu I g ru fun s' I' =>⟨.bl _,H,I',rfl,q⟩
end
end L2
namespace L2
open PySem PySem.Spec PyProof.Rows
variable{P:bV}{w:bW}{K:aQ}{e1:Expr}{ta:TA}{p:Pos}{a:aV}{M:Model}
noncomputable def Ite(K:aQ)(a:aV):It:=
 ⟨fun i H=>∃xs x,SqL K H a xs/\xs[i]?=some x,
  fun i H v H' =>∃p,v=.ref p/\H p=none/\∀xs x,SqL K H a xs->xs[i]?=some x->H' =upd H p (.tup [.int (i:Int),x]),
  fun i H=>∃xs,SqL K H a xs/\xs.length<=i⟩
theorem vXs{elts:List Expr}{kk:Nat}{pos:Pos}(a e it:aV)(hne:e≠it):
  Turn P w K (.Tuple elts kk pos) (Ite K a) [e,it] e (fun i h=>(∃old,IsEnum h e it (i:Int) old)/\h.IsListIter it a i) where
 mem:=by simp
 obj:=fun i h st c hc=>by
  obtain⟨⟨old,he⟩,⟨o2,e2,c2,d2⟩⟩:=st;have hc' :c=e\/c=it:=by simpa using hc
  rcases hc' with rfl|rfl
  ·exact⟨_,he,fun v q=>by have q' :Data.fields _=Data.cell v:=q;cases q'⟩
  ·exact⟨_,e2,fun v q=>by rw[d2]at q;cases q⟩
 keep:=fun i h h' st k=>by
  obtain⟨⟨old,he⟩,h2⟩:=st;exact⟨⟨old,k e (by simp) _ he⟩,h2.at fun o e' =>k it (by simp) o e'⟩
 item:=by
  intro X hP hw hK hc i pins s σ H E I hf st hg;subst hP hw hK;obtain⟨xs,x,hq,hx⟩:=hg;obtain⟨its,rv,p1,hz1⟩:=I.list hq;obtain⟨u,hu,ru⟩:=rv.get hx;obtain⟨⟨old,he⟩,hit⟩:=st;refine wpAny_pyNext_enum_item he hit p1.isList (x:=u) (by simpa using hu) hne fun h' a1 a2 a3 a4 hk=>?_
  refine⟨_,rfl,wpAny_letOwnedTupleGo_enum a1 fun h'' hz'' sb=>?_⟩;have nz:s.heap.objs.size≠e:=Nat.ne_of_gt (aU he);have hk2:∀c o,c∉ [e,it]->s.heap.get? c=some o->h''.get? c=some o:=fun c o hc e' =>by
   simp only[aA,List.not_mem_nil,or_false,not_or]at hc;exact sb.extBut c o hc.1 (hk c o hc.1 hc.2 e')
  refine⟨.ref s.heap.objs.size,upd H s.heap.objs.size (.tup [.int (i:Int),x]),I.turnedLaid (t' :=s.toks+1) hk2 hf (aD _) ⟨vKp,[.int (i:Int) s.toks,u],.cons ⟨_,rfl⟩ (.cons ru .nil),⟨_,sb.extBut _ _ nz a3,rfl,_,rfl⟩⟩,rfl,
   ⟨_,rfl,I.hok.fresh (aD _),fun xs' x' e1 e3=>?_⟩,⟨⟨_,hz''⟩,a2.extBut sb.extBut hne.symm⟩,fun c hc=>?_⟩
  ·rw [I.list_inj e1 hq,hx] at e3;cases e3;rfl
  ·obtain⟨o,e',_⟩:∃o,s.heap.get? c=some o/\True:=by
    have hc' :c=e\/c=it:=by simpa using hc
    obtain⟨o2,e2,_⟩:=hit;rcases hc' with rfl|rfl
    ·exact⟨_,he,trivial⟩
    ·exact⟨_,e2,trivial⟩
   rw[qF (bJ (aU e'))];exact(hf c hc).1
 done:=by
  intro X hP hw hK hc i pins s σ H E I hf st hg;subst hP hw hK;obtain⟨xs,hq,hend⟩:=hg;obtain⟨its,rv,p1,hz1⟩:=I.list hq;obtain⟨⟨old,he⟩,hit⟩:=st;have l1:=rv.length;refine wpAny_pyNext_enum_end (I.ok.hd hc) he hit p1.isList (by simp;omega) fun h' hk=>⟨rfl,I.turnedAll (t' :=s.toks) (ch:=[e,it]) (fun c o hc e' =>?_) hf⟩
  simp only[aA,List.not_mem_nil,or_false,not_or]at hc;exact hk c o hc.2 e'
 self:=fun _ _ _ _ _ st h=>let ⟨_,he⟩:=st.1;wpAny_pyIter_enum he h
section
variable{X:Cx}{elts:List Expr}{kk:Nat}{tpos:Pos}
noncomputable def jQ6(K:aQ)(ta:TA):TI:=fun σ H R=>ta σ H fun vs H1=>∃a,vs=[.ref a]/\(∃xs,SqL K H1 a xs)/\R (Ite K a) H1
theorem zJm{pos:Pos}(hg:Gl X "enumerate")(hm:X.mg "enumerate"=none)(ha:PA X [e1] ta)(hs:aX [e1] X.env=[(false,eval e1 X.env)]:=by rfl)(hs2:aX [] X.env=[]:=by rfl):PI X (.Tuple elts kk tpos) (.Call (.Name "enumerate" p) [e1] [] pos) (jQ6 X.K ta):=by
 intro pins s σ H R I h;refine Call_ (qZ7 I hg hm Boot.«enumerate» (cB (thn (ha pos pins s σ H _ I h) fun us s1 ⟨vs,H1,I1,r1,q1⟩=>?_) (by rw[hs,hs2]) (by rw[hs2];rfl)));obtain⟨a,e,⟨xs,hx⟩,q⟩:=q1;subst e;obtain⟨u,rfl,r⟩:=qZw r1;cases(show u=Value.ref a from r);obtain⟨its,rv,p1,hz1⟩:=I1.list hx;refine call_enumerate_list p1.isList fun h' he hit hsz hk=>?_
 refine wpAny_pyIter_enum he ?_
 refine⟨s1.heap.objs.size+1,[s1.heap.objs.size+1,s1.heap.objs.size],_,_,H1,rfl,I1.kept (t' :=s1.toks) hk,vXs a _ _ (Nat.succ_ne_self _),⟨⟨_,he⟩,hit⟩,fun c hc=>?_,q⟩;have hc' :s1.heap.objs.size<=c:=by
  grind
 exact I1.fpOk hc' (I1.hok.fresh hc')
end
noncomputable def Itv(K:aQ)(a:aV)(n:Nat):It:=
 ⟨fun i H=>∃xs x,SqL K H a xs/\xs.length=n/\i<n/\xs[n - 1 - i]?=some x,fun i H x H' =>H' =H/\∀xs,SqL K H a xs->xs[n - 1 - i]?=some x,fun i H=>∃xs,SqL K H a xs/\xs.length=n/\i=n⟩
theorem zQq{tg:Expr}(a it:aV)(n:Nat)(hne:a≠it):Turn P w K tg (Itv K a n) [it] it (fun i h=>h.IsRevIter it a ((n:Int) - 1 - (i:Int))) where
 mem:=by simp
 obj:=fun i h st b hb=>by
  have e:b=it:=by simpa using hb
  subst e;obtain⟨o,e,c,d⟩:=st;exact⟨o,e,fun v z=>by rw[d]at z;cases z⟩
 keep:=fun i h h' st k=>by
  obtain⟨o,e,c,d⟩:=st;exact⟨o,k it (by simp) o e,c,d⟩
 item:=by
  intro X hP hw hK hc i pins s σ H E I hf st hg;subst hP hw hK;obtain⟨xs,x,hq,hn,hi,hx⟩:=hg;obtain⟨its,rv,p,hz⟩:=I.list hq;obtain⟨u,hu,ru⟩:=rv.get hx;have hl:=rv.length;obtain⟨f0,f1,f2,f3,f4,f5⟩:=hf it (by simp);have W:=Walks.listRev (prog:=X.prog) (w:=X.w) (A:=X.A) (I.ok.hd hc) it a hne its.toArray;have en:its.toArray.size=n:=by rw[aF];omega
  refine W.item i s _ _ (by omega) ⟨by omega,by rw[en];exact st,p.isList⟩ fun v h' tk pv st2 keep=>?_
  have ev:v=u:=by
   rw[en]at pv;have h2:its.toArray[n - 1 - i]?=some u:=by simpa using hu
   rw[h2]at pv;cases pv;rfl
  subst ev;have st3:h'.IsRevIter it a ((n:Int) - 1 - ((i+1:Nat):Int)):=by
   have:=st2.2.1;rw[en]at this;exact this
  have I1:Inv X pins σ H {s with heap:=h',toks:=tk}:=I.turned (t' :=tk) (fun b o hb e=>keep b o (by simpa using hb) e) f0 f1 f3 f4 f5;obtain⟨o,e,c,d⟩:=id st3;exact⟨v,rfl,vJ3 (s:={s with heap:=h',toks:=tk}) e c d (by decide) ⟨x,H,I1,ru,⟨rfl,fun ys hy=>by rw[I.list_inj hy hq];exact hx⟩,st3,fun b hb=>(hf b hb).1⟩⟩
 done:=by
  intro X hP hw hK hc i pins s σ H E I hf st hg;subst hP hw hK;obtain⟨xs,hq,hn,hi⟩:=hg;obtain⟨its,rv,p,hz⟩:=I.list hq;have hl:=rv.length;obtain⟨f0,f1,f2,f3,f4,f5⟩:=hf it (by simp);have W:=Walks.listRev (prog:=X.prog) (w:=X.w) (A:=X.A) (I.ok.hd hc) it a hne its.toArray;have en:its.toArray.size=n:=by rw[aF];omega
  refine W.done s _ _ ⟨aD _,by rw[en];rw[←hi]at st⊢;exact st,p.isList⟩ fun h' tk keep=>⟨rfl,I.turned (t' :=tk) (fun b o hb e=>keep b o (by simpa using hb) e) f0 f1 f3 f4 f5⟩
 self:=fun _ _ _ _ _ st h=>wpAny_pyIter_revIter st h
section
variable{X:Cx}{tg:Expr}
noncomputable def iRev(K:aQ)(ta:TA):TI:=fun σ H R=>ta σ H fun vs H1=>∃a xs,vs=[.ref a]/\SqL K H1 a xs/\R (Itv K a xs.length) H1
theorem zYm{pos:Pos}(hg:Gl X "reversed")(hm:X.mg "reversed"=none)(ha:PA X [e1] ta)(hs:aX [e1] X.env=[(false,eval e1 X.env)]:=by rfl)(hs2:aX [] X.env=[]:=by rfl):PI X tg (.Call (.Name "reversed" p) [e1] [] pos) (iRev X.K ta):=by
 intro pins s σ H R I h;refine Call_ (qZ7 I hg hm Boot.«reversed» (cB (thn (ha pos pins s σ H _ I h) fun us s1 ⟨vs,H1,I1,r1,q1⟩=>?_) (by rw[hs,hs2]) (by rw[hs2];rfl)));obtain⟨a,xs,e,hx,q⟩:=q1;subst e;obtain⟨u,rfl,r⟩:=qZw r1;cases(show u=Value.ref a from r);obtain⟨its,rv,p1,hz1⟩:=I1.list hx;have hl:s1.heap.IsList a its.toArray:=p1.isList;have len:=rv.length;have na:a≠s1.heap.objs.size:=let ⟨o,e,_⟩:=hl;bJ (aU e);refine call_reversed_list hl ?_
 have it:({s1 with heap:=s1.heap.push (revObj a ((its.toArray.size:Int) - 1))}:aJ).heap.IsRevIter s1.heap.objs.size a ((xs.length:Int) - 1 - ((0:Nat):Int)):=⟨_,aT _ rfl,rfl,by rw[show(xs.length:Int) - 1 - ((0:Nat):Int)=(its.toArray.size:Int) - 1 by rw[aF];omega];rfl⟩
 refine wpAny_pyIter_revIter it ?_
 refine⟨s1.heap.objs.size,[s1.heap.objs.size],_,_,H1,rfl,I1.kept (t' :=s1.toks) fun b o e=>aW _ e,zQq a _ _ na,it,fun b hb=>?_,q⟩;have e:b=s1.heap.objs.size:=by simpa using hb
 subst e;exact I1.fpOk (aD _) (I1.hok.fresh (aD _))
end
noncomputable def DkH(h h' :Heap):Prop:=∀b o,h.get? b=some o->∃o',h'.get? b=some o' /\o'.dict=o.dict
theorem DkH.refl(h:Heap):DkH h h:=fun _ o e=>⟨o,e,rfl⟩
theorem DkH.trans{h1 h2 h3:Heap}(x:DkH h1 h2)(y:DkH h2 h3):DkH h1 h3:=fun b o e=>by
 obtain⟨o1,e1,d1⟩:=x b o e;obtain⟨o2,e2,d2⟩:=y b o1 e1;grind
theorem DkH.push(h:Heap)(o:Obj):DkH h (h.push o):=fun _ u e=>⟨u,aW _ e,rfl⟩
noncomputable def TmF(f:Obj->Obj):Prop:=∀o:Obj,(f o).dict =o.dict/\(o.isFreed=false->(f o).isFreed =false)
theorem DkH.update{h:Heap}{f:Obj->Obj}(hf:TmF f):DkH h (h.update a f):=fun b o e=>by
 by_cases hb:a=b
 ·subst hb;exact⟨f o,Heap.get?_update_self f e ((hf o).2 (Heap.get?_some_iff.mp e).2),(hf o).1⟩
 ·exact⟨o,(Heap.get?_update_other h f hb).trans e,rfl⟩
inductive Tm{α:Type}:Sem α->Prop
 |pure (a:α):Tm (.pure a)
 |raise (e:Value):Tm (.raise e)
 |unsupported (w:String):Tm (.unsupported w)
 |load {a:aV} {p:Option Value} {k:Obj->Sem α} (h:∀o,Tm (k o)):Tm (.load a p k)
 |update {a:aV} {p:Option Value} {f:Obj->Obj} {k:Unit->Sem α} (hf:TmF f) (h:Tm (k ())):Tm (.update a p f k)
 |alloc {o:Obj} {k:aV->Sem α} (h:∀a,Tm (k a)):Tm (.alloc o k)
 |ask {k:Setting->Sem α} (h:∀a,Tm (k a)):Tm (.ask k)
 |rule {t:String} {k:Unit->Sem α} (h:Tm (k ())):Tm (.rule t k)
 |stack {k:List (Code×Pos)->Sem α} (h:∀l,Tm (k l)):Tm (.stack k)
section
variable{α β:Type}
theorem Tm.bind{m:Sem α}{f:α->Sem β}(h:Tm m)(k:∀a,Tm (f a)):Tm (m.bind f):=by
 induction h with
 |pure a=>exact k a
 |raise e=>exact .raise e
 |unsupported w=>exact .unsupported w
 |load _ ih=>exact .load ih
 |update hf _ ih=>exact .update hf ih
 |alloc _ ih=>exact .alloc ih
 |ask _ ih=>exact .ask ih
 |rule _ ih=>exact .rule ih
 |stack _ ih=>exact .stack ih
theorem Tm.bind'{m:Sem α}{f:α->Sem β}(h:Tm m)(k:∀a,Tm (f a)):Tm (m >>=f):=h.bind k
theorem Tm.wp{Γ:PySem.Ctx}{m:Sem α}(h:Tm m):∀{Q:α->Pos->aJ->Prop} {E:Value->Pos->aJ->Prop} {p:Pos} {s:aJ},Sem.wp M Γ m Q E p s->
  Sem.wp M Γ m (fun a p' s' =>Q a p' s' /\DkH s.heap s'.heap) (fun e p' s' =>E e p' s' /\DkH s.heap s'.heap) p s:=by
 induction h with
 |pure a=>intro Q E p s w;rw[Sem.wp_pure]at w⊢;exact⟨w,.refl _⟩
 |raise e=>intro Q E p s w;rw[Sem.wp_raise]at w⊢;exact⟨w,.refl _⟩
 |unsupported w=>intro Q E p s w;rw[Sem.wp_unsupported]at w;exact w.elim
 | load _ ih=>
   intro Q E p s w;rw[Sem.wp_load]at w⊢;obtain⟨o,e,w⟩:=w;exact⟨o,e,ih o w⟩
 | update hf _ ih=>
   intro Q E p s w;rw[Sem.wp_update]at w⊢;exact⟨w.1,Sem.wp_mono M Γ _ (fun _ _ _ q=>⟨q.1,(DkH.update hf).trans q.2⟩) (fun _ _ _ q=>⟨q.1,(DkH.update hf).trans q.2⟩) _ _ (ih w.2)⟩
 | alloc _ ih=>
   intro Q E p s w;rw[Sem.wp_alloc]at w⊢;exact Sem.wp_mono M Γ _ (fun _ _ _ q=>⟨q.1,(DkH.push _ _).trans q.2⟩) (fun _ _ _ q=>⟨q.1,(DkH.push _ _).trans q.2⟩) _ _ (ih _ w)
 |ask _ ih=>intro Q E p s w;rw[Sem.wp_ask]at w⊢;exact ih _ w
 |rule _ ih=>intro Q E p s w;rw[Sem.wp_rule]at w⊢;exact ih w
 |stack _ ih=>intro Q E p s w;rw[Sem.wp_stack]at w⊢;exact ih _ w
theorem Tm.any{A:bS}{m:Sem α}{Q:α->aJ->Prop}{E:Value->aJ->Prop}{s:aJ}(h:Tm m)(w:aI M A m Q E s):
  aI M A m (fun a s' =>Q a s' /\DkH s.heap s'.heap) (fun e s' =>E e s' /\DkH s.heap s'.heap) s:=fun Γ p hΓ=>h.wp (w Γ p hΓ)
end
theorem vZ3(f:Array Value->Array Value):TmF (Obj.mapFields f):=fun o=>by
 obtain⟨c,d,dt,sl⟩:=o;cases dt <;> exact⟨rfl,fun h=>h⟩
theorem qK9(a:aV):Tm (load a):=.load fun o=>.pure o
theorem qKf{f:Obj->Obj}(h:TmF f):Tm (update a f):=.update h (.pure ())
theorem zQs(o:Obj):Tm (alloc o):=.alloc fun a=>.pure a
theorem vZb(v:Value):Tm (fieldsOf v):=by
 unfold fieldsOf;split
 ·refine .bind' (qK9 _) fun o=>?_
  split <;> first|exact .pure _|exact .unsupported _
 ·exact .unsupported _
theorem qJt(v:Value)(i:Nat):Tm (field v i):=by
 refine .bind' (vZb v) fun vs=>?_
 split <;> first|exact .pure _|exact .unsupported _
theorem qZe(v:Value)(i:Nat)(x:Value):Tm (setField v i x):=by
 unfold setField;split
 ·unfold updateField;refine .bind' (qK9 _) fun o=>?_
  split
  ·split
   ·exact qKf (vZ3 _)
   ·exact .unsupported _
  ·exact .unsupported _
 ·exact .unsupported _
theorem qVm(e:Value)(f:Option aV):Tm (setFlight e f):=by
 refine .bind' (qJt _ _) fun tb=>?_
 split
 ·exact qZe _ _ _
 ·exact .pure _
theorem qZj:∀l:List Env,Tm (readyFrames l)
 |[]=>.pure _
 | env::outer=>by
   unfold readyFrames;split
   ·refine .bind' (qK9 _) fun o=>?_
    split
    ·exact .pure _
    ·refine .bind' ?_ fun _=> .bind' ?_ fun _=> .bind' (qKf fun o=>⟨rfl,fun h=>?_⟩) fun _=>qZj outer
     ·unfold behindIsImport;split
      ·exact .pure _
      ·split
       ·exact .pure _
       ·exact .bind' (qJt _ _) fun _=>.pure _
     ·unfold keptBack;split
      ·split
       ·exact .pure _
       ·unfold underTheClaimsCaller;exact .bind' (.bind' (.stack fun _=>.pure _) fun _=>.pure _) fun _=>.pure _
      ·exact .pure _
     ·obtain⟨c,d,dt,sl⟩:=o;cases dt <;> first|rfl|exact h
   ·exact .unsupported _
theorem vZ4(env:Env):Tm (PySem.frameOf env):=by
 refine .bind' (.bind' (.stack fun _=>.pure _) fun _=>.pure _) fun l=>.bind' ?_ fun o=>?_
 ·unfold frameObject;split
  ·exact .pure _
  ·exact .bind' (qZj _) fun _=>.pure _
 ·split <;> first|exact .pure _|exact .unsupported _
theorem vQt(t:String)(vs:List Value):Tm (newFields t vs):=by
 unfold newFields newObj;dsimp only;have k:Tm (newObjAsIs (.type t) (.fields vs.toArray)):=by
  exact .bind' (zQs _) fun _=>.pure _
 split
 ·exact .bind' (.unsupported _) fun _=>k
 ·exact k
theorem qJy(e:Value)(env:Env):Tm (noteFrame e env):=by
 unfold noteFrame;split
 ·refine .bind' (qJt _ _) fun head=>?_
  have rest:∀f,Tm (do setField e 1 (←EntryCells.newEntry head (←PySem.frameOf env) .none (rawInt f) .none (←entryPlaceOf f (head !=.none)))):=fun f=>by
   refine .bind' (vZ4 _) fun fr=>.bind' ?_ fun pl=>.bind' ?_ fun t=>qZe _ _ _
   ·unfold entryPlaceOf;refine .bind' (.stack fun _=>.pure _) fun acts=>?_
    split <;> exact .pure _
   ·unfold EntryCells.newEntry;exact vQt _ _
  split
  ·refine .bind' (qJt _ _) fun x=>?_
   split
   ·exact .pure _
   ·exact .bind' (qZe _ _ _) fun _=>rest _
  ·exact rest _
 ·exact .unsupported _
theorem qYh(env:Env)(e:Value):Tm (leaving env e):=.bind' (qJy _ _) fun _=>qVm _ _
end L2
namespace L2
open PySem PySem.Spec PySem.W PySem.Calls PyProof.Rows
variable{rest:List Value}{w:bW}{C:aV}
noncomputable abbrev vErr:List Value:=[.type "ValueError",.type "Exception",.type "BaseException",.type "object"]
structure IniCls(K:Frag)(C fI:aV):Prop where
 ob:∃nm q N bs bm hdct sn sub ab col dd k0 k1 k2 k3 k5,K.lookup C=some (excClassObj nm q C N bs bm hdct sn sub ab col dd k0 k1 k2 k3 k5 "ValueError.__new__")/\tailIn K vErr bm=true
 ini:findIn K (.ref C) "__init__"=some (some (.ref fI))
 fn:typeIn K (.ref fI)=some (.type "function")
 sa:findIn K (.ref C) "__setattr__"=some (some (.builtin "object.__setattr__"))
 hd:hasDictIn K C=true
section
variable{prog:bV}{w:bW}{A:bS}{E:Value->aJ->Prop}{h:Heap}{g:Array GenState}{d:Drawn}{t:Nat}{os:OsState}{K:Frag}{C fI:aV}
theorem qYx{Q:Fin->aJ->Prop}(X:K.In h)(k:IniCls K C fI)(hq:∀h' e,Heap.MadeExcOf h h' e (.ref C) rest->aI (model prog w) A (call (.ref fI) (.ref e::rest)) (fun r s' =>r=.none /\Q (.done (.ret (.ref e))) s') E ⟨h',g,d,t,os⟩)(hrest:rest.length<=aR):
  aI (model prog w) A (Builtin.«type.__call__» ⟨.ref C::rest,[]⟩) Q E ⟨h,g,d,t,os⟩:=by
 obtain⟨nm,q,N,bs,bm,hdct,sn,sub,ab,col,dd,k0,k1,k2,k3,k5,ho,ht⟩:=k.ob;have hC:=X _ _ ho;have T:=tail_of_in X ht;have F:=dC;repeat (first|with_reducible refine bA hC ?_|with_reducible refine wpAny_madeBy_exc hC ?_|wp_step)
 refine codeAny_call_builtin_code (Code.quiet_builtin _ F.quiet) (wpAny_check_new_subT F T hC ?_);refine codeAny_exc_new_subT F T hC ?_ hrest;generalize hh1:(h.push {cls:=.type "tuple",data:=.seq rest.toArray}).push {cls:=.ref C,data:=.fields #[.ref h.objs.size,.none,.none,.none,.bool false,.none]}=h1;have keep:∀b o,h.get? b=some o->h1.get? b=some o:=fun b o e=>by rw[←hh1];exact aW _ (aW _ e)
 have hget:h1.get? (h.objs.size+1)=some {cls:=.ref C,data:=.fields #[.ref h.objs.size,.none,.none,.none,.bool false,.none]}:=by rw[←hh1];heap_get
 have htup:h1.get? h.objs.size=some {cls:=.type "tuple",data:=.seq rest.toArray}:=by rw[←hh1];exact aW _ (Heap.get?_push_at rfl rfl)
 have X1:K.In h1:=fun a o e=>keep a o (X a o e)
 have L3:=looks_findIn (M:=model prog w) X1 k.ini;have L4:=bind_fn (M:=model prog w) X1 (.ref (h.objs.size+1)) k.fn;have hcC:(Value.ref C::bm).contains (.ref C)=true:=by simp
 repeat (first|with_reducible refine bA hget ?_|(with_reducible refine wpAny_isSubtype_exc (keep _ _ hC) ?_;rw[hcC])|wp_step)
 refine L3.at ?_
 refine cF (aZ (L4.at ?_));refine aZ (bU (hq h1 (h.objs.size+1) ⟨keep,Heap.get?_none_of_le (Nat.le_succ _),h.objs.size,hget,Heap.get?_none_of_le (aD _),htup⟩) (fun r s' hr=>?_) fun _ _ x=>x);obtain⟨rfl,hQ⟩:=hr;wp_walk;exact hQ
theorem zV2{Q:Value->aJ->Prop}(X:K.In h)(k:IniCls K C fI)(hq:∀h' e,Heap.MadeExcOf h h' e (.ref C) rest->aI (model prog w) (A.under (.builtin "type.__call__" ⟨.ref C::rest,[]⟩)) (call (.ref fI) (.ref e::rest)) (fun r s' =>r=.none /\Q (.ref e) s') E ⟨h',g,d,t,os⟩)(hrest:rest.length<=aR):
  aI (model prog w) A (call (.ref C) rest) Q E ⟨h,g,d,t,os⟩:=by
 obtain⟨nm,q,N,bs,bm,hdct,sn,sub,ab,col,dd,k0,k1,k2,k3,k5,ho,ht⟩:=k.ob;have hC:=X _ _ ho;have f1:=tc_lookup;have f2:=tc_bind (.ref C);refine wpAny_call (codeAny_of_tree ?_);repeat (any_goals (first|assumption|with_reducible refine bA hC ?_|wp_step))
 refine⟨rfl,?_⟩;exact codeAny_call_builtin_at (Code.quiet_builtin _ (by decide +kernel)) entry_typeCall (wpAny_check_type_call_sub hC (qYx X k hq hrest))
end
noncomputable def ExcR(e:aV)(cls:Value)(t:aV)(dx:Option aV):Heap->Prop:=fun h=>∃o,h.get? e=some o/\o.cls=cls/\o.data=.fields #[.ref t,.none,.none,.none,.bool false,.none]/\o.dict=dx
theorem vYn{prog:bV}{A:bS}{E:Value->aJ->Prop}{s:aJ}{env:Env}{K:Frag}{fI:aV}{x:Str}{np cpos pos:Pos}{args:List Expr}{Q:Flow->aJ->Prop}(k:IniCls K C fI)(hh:A.handled=none)(hplain:(bI cpos (aX args env)).any (·.1)=false)(h:aI (model prog w) A (eval (.Name x np) env) (fun f s₁=>f=.ref C/\aI (model prog w) A (evalArgs (.ref C) true (bI cpos (aX args env)) [])
   (fun a s₂=>a.kw=[]/\a.pos.length<=aR/\K.In s₂.heap/\
    ∀h' e,Heap.MadeExcOf s₂.heap h' e (.ref C) a.pos->aI (model prog w) (A.under (.builtin "type.__call__" ⟨.ref C::a.pos,[]⟩)) (call (.ref fI) (.ref e::a.pos))
     (fun r s' =>r=.none /\K.In s'.heap/\(∃t dx,ExcR e (.ref C) t dx s'.heap)/\E (.ref e) s') E {s₂ with heap:=h' }) E s₁) E s):
  aI (model prog w) A (exec (.Raise (some (.Call (.Name x np) args [] cpos)) none pos) env) Q E s:=by
 obtain⟨nm,q,N,bs,bm,hdct,sn,sub,ab,col,dd,k0,k1,k2,k3,k5,ho,ht⟩:=k.ob;have F:=dC;rw[arm_exec_Raise];refine aZ (wpAny_standAt ?_);unfold raiseStmt;refine aZ (aZ (bU (wpAny_Call_ofName (Q:=fun v s₃=>K.In s₃.heap/\∃e t dx,v=.ref e/\ExcR e (.ref C) t dx s₃.heap/\E (.ref e) s₃) (bU h (fun f s₁ h₁=>?_) fun _ _ x=>x)) (fun v s₃ h₃=>aZ (wpAny_standAt (aL ?_))) fun _ _ x=>x))
 ·obtain⟨rfl,h₁⟩:=h₁;unfold callWith;refine aZ (cF (bU h₁ (fun a s₂ h₂=>aZ (wpAny_standAt ?_)) fun _ _ x=>x));obtain⟨apos,akw⟩:=a;obtain⟨hkw,hlen,X2,h₂⟩:=h₂;obtain rfl:akw=[]:=hkw;obtain⟨hp,g,d,tk,os⟩:=s₂;simp only[hplain];refine aZ (wpAny_keeperOf_exc (X2 _ _ ho) ?_);refine aZ (zV2 X2 k (fun h' e hm=>bU (h₂ h' e hm) (fun r s' hr=>⟨hr.1,aZ (cF (wpAny_point (aL ?_)))⟩) fun _ _ x=>x) hlen);obtain⟨_,X3,⟨t,dx,hx⟩,hE⟩:=hr;exact⟨X3,e,t,dx,rfl,hx,hE⟩
 ·obtain⟨X3,e,t,dx,rfl,⟨o,he,hc,hd,_⟩,hE⟩:=h₃;have T:=tail_of_in X3 ht;have hC:=X3 _ _ ho;obtain⟨hp,g,d,tk,os⟩:=s₃;have hcB:(Value.ref C::bm).contains (.type "BaseException")=true:=by rw[List.contains_cons,T.hasType F.hasBase,Bool.or_true]
  obtain⟨oc,od,odt,osl⟩:=o;dsimp only at hc hd;subst hc hd;repeat (first|with_reducible refine bA he ?_|with_reducible refine bA hC ?_|(with_reducible refine wpAny_isSubtype_exc hC ?_;rw[hcB])|wp_step)
  exact wpAny_raiseNew_none hh hE
theorem vZc{h:Heap}{l:List Value}(self:Value)(T:OwnTail h vErr l):refuseLoop self "__setattr__" l=pure ():=by
 induction T with
 |base=>exact PySem.F.store_ValueError.passes self
 |own _ _ _ _ ih=>rw[refuseLoop_ref];exact ih
section
variable{prog:bV}{w:bW}{A:bS}{E:Value->aJ->Prop}{s:aJ}{K:Frag}{C fI x t:aV}{name:Str}{v:Value}
theorem zWd{Q:Unit->aJ->Prop}(X:K.In s.heap)(k:IniCls K C fI)(hn:findIn K (.ref C) name=some none)(hx:ExcR x (.ref C) t none s.heap)(h:∀h',ExcR x (.ref C) t (some s.heap.objs.size) h' ->h'.Ns1 s.heap.objs.size (fun y=>if y=name then some v else none)->(∀b o,b≠x->s.heap.get? b=some o->h'.get? b=some o)->h'.objs.size=s.heap.objs.size+1->Q () {s with heap:=h',toks:=s.toks+2}):
  aI (model prog w) A (setAttr (.ref x) name v) Q E s:=by
 obtain⟨nm,q,N,bs,bm,hdct,sn,sub,ab,col,dd,k0,k1,k2,k3,k5,ho,ht⟩:=k.ob;obtain⟨o,he,hc,hd,hdict⟩:=hx;obtain⟨oc,od,odt,osl⟩:=o;subst hc hd hdict;have SF:=PySem.F.store_object;have I:InstAt s.heap x _ C none:=⟨he,rfl,rfl,trivial⟩
 have T:=tail_of_in X ht;obtain⟨cd,hcl,hmro⟩:∃cd,clsIn K C=some cd/\cd.mro=.ref C::bm:=⟨_,by unfold clsIn;rw[ho],rfl⟩
 have hdd:cd.hasDict=true:=by
  obtain⟨cd',hcd,hdd⟩:=any_some k.hd;grind
 have hm:Looks (model prog w) s.heap (mroOf (.ref C)) (.ref C::bm):=hmro▸(looks_clsIn X hcl).andThen .now;have hobj:(Value.ref C::bm).contains (.type "object")=true:=by rw[List.contains_cons,T.hasType (show vErr.contains (.type "object")=true by decide),Bool.or_true]
 have sub' :Looks (model prog w) s.heap (isInstance (.ref x) (.type "object")) true:=I.type.andThen (looks_mroIn X (by unfold mroIn;rw[hcl,cZ,hmro];exact congrArg some hobj));refine set_plain X I k.sa ?_
 refine codeAny_call_builtin SF.slot.plain SF.entry (@check_slot (model prog w) _ _ {s with toks:=s.toks+1} "object.__setattr__" "object" "__setattr__" (.ref x) [.str name s.toks,v] [] _ SF.kind SF.split sub' (SF.args (.ref x) (.str name s.toks) v) ?_);rw[osa_eq,refuse_eq];refine aZ (aZ (I.type.here (s:={s with toks:=s.toks+1}) (aZ (hm.here (s:={s with toks:=s.toks+1}) ?_))));rw[refuseLoop_ref,vZc _ T];refine aL (aZ (I.type.here (s:={s with toks:=s.toks+1}) (aZ ((looks_findIn X hn).here (s:={s with toks:=s.toks+1}) (aZ (aL ?_))))));have hxs:x≠s.heap.objs.size:=bJ (aU he);have hx₁:=aW (h:=s.heap) {cls:=.type "dict",data:=.dict #[]} he;refine aZ (aL (aZ ?_));refine aZ (wpAny_loadPart he (aZ ((looks_clsIn X hcl).here (s:={s with toks:=s.toks+1}) ?_)));rw[hdd];refine aZ (wpAny_alloc' (aZ (wpAny_update' hx₁ ?_)));generalize hh1:(s.heap.push {cls:=.type "dict",data:=.dict #[]}).update x (fun o=> {o with dict:=some s.heap.objs.size})=h1;have gd:h1.get? s.heap.objs.size=some {cls:=.type "dict",data:=.dict #[]}:=by rw[←hh1];exact(Heap.get?_update_ne _ _ _ _ hxs.symm).trans (Heap.get?_push_at rfl rfl)
 have gx:h1.get? x=some {cls:=.ref C,dict:=some s.heap.objs.size,data:=.fields #[.ref t,.none,.none,.none,.bool false,.none],slots:=osl}:=by rw[←hh1];exact Heap.get?_update_self _ hx₁ rfl
 have gb:∀b o,b≠x->s.heap.get? b=some o->h1.get? b=some o:=fun b o n e=>by rw[←hh1];exact(Heap.get?_update_ne _ _ _ _ n).trans (aW _ e)
 have nd:h1.Ns s.heap.objs.size (fun _=>none):=⟨_,#[],_,gd,rfl,fun e he=>absurd he (by simp),fun _=>rfl⟩
 have sz:h1.objs.size=s.heap.objs.size+1:=by rw[←hh1,Heap.size_update,dJ]
 refine aL (a:=some s.heap.objs.size) (aZ (aL (aZ (wpAny_nsSet1 (s:={s with heap:=h1,toks:=s.toks+1}) (Heap.Ns1.of_empty nd) fun h2 hn2 hs2=>?_))));obtain⟨oD,esD,epD,hoD,hdD,hcD⟩:=hn2.count (Within.cons name v Within.nil);refine aZ (wpAny_lookBehind hoD (by rw[hdD];exact pastItsLine_dict (aO hcD (by rw[aY,List.length_nil,sizeLine_eq];omega))) ?_);refine aL (h h2 ⟨_,(hs2.2 x hxs).trans gx,rfl,rfl,rfl⟩ hn2 (fun b o n e=>(hs2.2 b (bJ (aU e))).trans (gb b o n e)) (hs2.1.trans sz))
end
noncomputable def sXF(K:Frag)(C:aV)(ta tv:TE)(f:Str):TS:=fun D σ H=>tv σ H fun y H1=>ta σ H1 fun x H2=>∃e t,x=.ref e/\H2 e=some (.ext (ExcR e (.ref C) t none))/\findIn K (.ref C) f=some none/\
 ∀dx,H2 dx=none->D.nx σ (upd (upd H2 e (.ext (ExcR e (.ref C) t (some dx)))) dx (.xd [(f,y)]))
theorem vV4{P:bV}{H:Hp}{h:Heap}{e t:aV}{cls:Value}{dx:Option aV}(x:ExcR e cls t dx h):zD P w H h e (.ext (ExcR e cls t dx)):=by
 obtain⟨o,a,b,c,d⟩:=x;exact⟨⟨o,a,b,c,d⟩,⟨o,a⟩,fun h1 h2 ⟨o,a,b,c,d⟩ k=>⟨o,k o a,b,c,d⟩⟩
theorem zJc{X:Cx}{fI:aV}{o value:Expr}{ta tv:TE}{f:Str}{pos pos' :Pos}(k:IniCls X.K C fI)(ha:PE X o ta)(hv:PE X value tv)(hs:swapsWith value (some (.Attribute o f pos')) pos.line X.env=pure false):
  PS X (.Assign [.Attribute o f pos'] value pos) (sXF X.K C ta tv f):=by
 intro pins s σ H D I h;refine plainObj_wpAny_Assign_Attribute (thn (hv pins s σ H _ I h) fun u s1 ⟨y,H1,I1,ry,q⟩=>thn (ha pins s1 σ H1 _ I1 q) fun ov s2 ⟨x,H2,I2,rx,e,t,ex,he,hf,q2⟩=>?_) hs;subst ex;obtain rfl:ov=Value.ref e:=rx;obtain⟨φ,_,_⟩:=(show zD X.prog X.w H2 s2.heap e _ from I2.hok e _ he)
 refine zWd I2.kIn k hf φ fun h' x1 n1 k1 sz=>?_
 have fr:H2 s2.heap.objs.size=none:=I2.hok.fresh (aD _);have ne:e≠s2.heap.objs.size:=vC he fr;refine⟨σ,_,?_,q2 _ fr⟩;have I3:=I2.write (x:=e) (e:=e) (o:=.ext (ExcR e (.ref C) t (some s2.heap.objs.size))) (h' :=h') (t' :=s2.toks+2) (by rw[he];exact True.intro) (.inl rfl) k1 (let ⟨o,a,_⟩:=x1;⟨o,a⟩) (vV4 x1);have lt:∀b o,s2.heap.get? b=some o->s2.heap.objs.size≠b:=fun b o z=>Nat.ne_of_gt (aU z)
 refine I3.adopt (by rw[qF ne.symm];exact fr) ?_ ?_ (fun y c z=>?_) (fun p hp=>?_) ?_
 ·cases q:X.s₀.heap.get? s2.heap.objs.size with
  |none=>rfl
  | some o=>
    exact absurd (aE (aU q) I2.sz) (cW _)
 ·obtain⟨m,⟨o,_,_,z,_⟩,_⟩:=I2.loc;grind
 ·obtain⟨v,o,z,_⟩:=I2.cell y c z;grind
 ·exact(lt _ _ (I2.pin p hp).1).symm
 ·refine⟨_,n1,fun g=>?_⟩;by_cases z:g=f
  ·subst z;simp only[List.lookup,beq_self_eq_true];exact ry
  ·have z' :(g == f)=false:=by simpa using z
   rw[if_neg z];simp only[List.lookup,z'];exact True.intro
end L2
namespace L2
open PySem PySem.Spec PyProof.Rows
variable{P:bV}{w:bW}{X:Cx}{H:Hp}{a b f C:aV}{K:aQ}{mg:Str->Option Value}{N ps:List Str}{qual:Str}{scope:Scope}{cdv cls:Value}{A:bS}{outer:List Env}{E:XK}{fd:bQ}{sp:Sp}
noncomputable def CXd(P:bV)(w:bW):CXT:=fun outer H s E e s' =>∃(ea:aV) (cls a0:Value) (H' :Hp) (B:Heap) (ox:Option aV),
 e=.ref ea/\s'.os=s.os/\AllBare s'.gens/\Un (frs outer) [] H H' s.heap s'.heap/\HOk P w H' s'.heap/\Heap.FlyingW B outer ea cls a0 s'.heap/\
 (∀b o,s'.heap.get? b=some o->b∉frs outer->(H' b≠none\/s.heap.get? b≠none)->B.get? b=some o)/\H' ea=none/\s.heap.get? ea=none/\(∃oe,s'.heap.get? ea=some oe/\oe.dict=ox)/\E cls ox H'
theorem jQp:jM (CXd P w) X E0:=fun _ _ _ _ _ _ _ h=>by
 obtain⟨_,_,_,_,_,_,_,_,_,_,_,_,_,_,_,_,z⟩:=h;exact z.elim
noncomputable def but1(H:Hp)(a:aV):Hp:=fun b=>if b=a then none else H b
theorem qZv:but1 H a a=none:=if_pos rfl
theorem qJp(h:b≠a):but1 H a b=H b:=if_neg h
theorem qKy{o:HO}(h:but1 H a b=some o):b≠a/\H b=some o:=by
 by_cases z:b=a
 ·subst z;rw[qZv]at h;cases h
 ·exact⟨z,by rwa [qJp z]at h⟩
theorem zWz(h:H a=none):but1 H a=H:=by
 funext b;by_cases z:b=a
 ·subst z;rw[qZv,h]
 ·exact qJp z
theorem qW2{base:Heap}{s:aJ}{pins:List (aV×Obj)}{σ:St}{H1:Hp}{s2:aJ}{h' :Heap}{ea t:aV}{ox:Option aV}(I:Inv (cxOf (CXd P w) P w K mg base N qual scope f cdv A outer s H E) pins σ H1 s2)(kp:∀b o,s2.heap.get? b=some o->h'.get? b=some o)(sea:s.heap.get? ea=none)(hL:ea≠s.heap.objs.size)(hx:ExcR ea cls t ox h')(ne:H1 ea=none\/∃φ,H1 ea=some (.ext φ))(he:E cls ox (but1 H1 ea)):
  (cxOf (CXd P w) P w K mg base N qual scope f cdv A outer s H E).xe (.ref ea) {s2 with heap:=h' }:=by
 obtain⟨oe,hoe,hcls,hdat,hdic⟩:=hx;have fr:(A.deeper (envOfC qual scope s.heap.objs.size f cdv)).frames =some (envOfC qual scope s.heap.objs.size f cdv::outer):=I.ok.frames;have hin:∀env∈(envOfC qual scope s.heap.objs.size f cdv::outer),∀b,env.frame=some b->b∈frs (envOfC qual scope s.heap.objs.size f cdv::outer):=fun env he b hb=>bH.mpr ⟨env,he,hb⟩
 have hfs:∀b,b∈frs (envOfC qual scope s.heap.objs.size f cdv::outer)->b=s.heap.objs.size\/b∈frs outer:=fun b hb=>by
  obtain⟨env,he,hf⟩:=bH.mp hb;rcases aA.mp he with rfl|he
  ·exact .inl (Option.some.inj hf).symm
  ·exact .inr (bH.mpr ⟨env,he,hf⟩)
 have old:∀b o,s.heap.get? b=some o->b≠s.heap.objs.size:=fun b o e=>bJ (aU e)
 have nx:∀b,b∉([]:List aV):=fun b=>by simp
 have nfr:∀b,b∈frs (envOfC qual scope s.heap.objs.size f cdv::outer)->b≠ea:=fun b hb z=>by
  rcases hfs b hb with q|q
  ·exact hL (z.symm.trans q)
  ·obtain⟨_,o',ho',_⟩:=I.ok.funs.mem q;rw[z]at ho';have q2:s.heap.get? ea=some o' :=ho';rw[sea]at q2;cases q2
 have k2:∀b o,h'.get? b=some o->b∉frs (envOfC qual scope s.heap.objs.size f cdv::outer)->b≠ea->(PySem.W.hideAll h' (ea::frs (envOfC qual scope s.heap.objs.size f cdv::outer))).get? b=some o:=fun b o e n1 n2=>
  PySem.W.hideAll_get _ e fun z=>(aA.mp z).elim n2 n1
 have ff:h'.FunFrames (PySem.W.hideAll h' (ea::frs (envOfC qual scope s.heap.objs.size f cdv::outer))) (envOfC qual scope s.heap.objs.size f cdv::outer):=
  PySem.W.funFrames_hide (h:=h') (I.stack.of_keeps fun b o e hn=>⟨o,kp b o e,rfl⟩) fun env he b hb=>aC _ (hin env he b hb)
 show aI _ _ (leaving _ _) _ _ _;refine bU ((qYh _ _).any (wpAny_leaving_firstW (s:={s2 with heap:=h' }) (base:=PySem.W.hideAll h' (ea::frs (envOfC qual scope s.heap.objs.size f cdv::outer))) (a0:=.ref t) fr ff rfl hoe (fun b o q=>PySem.W.of_hideAll _ q) ?_ hdat rfl rfl (E:=fun _ _=>False) (Q:=fun _ s' =>∃h'',s' ={s2 with heap:=h'' }/\Heap.LeftW (PySem.W.hideAll h' (ea::frs (envOfC qual scope s.heap.objs.size f cdv::outer))) (envOfC qual scope s.heap.objs.size f cdv::outer) ea oe.cls (.ref t) h' h'') fun h'' hL' =>⟨h'',rfl,hL'⟩)) (fun _ s' hq=>?_) fun _ _ z=>z.1.elim
 ·cases q:(PySem.W.hideAll h' (ea::frs (envOfC qual scope s.heap.objs.size f cdv::outer))).get? ea with
  |none=>rfl
  |some o=>rw[PySem.W.hideAll_none _ cH]at q;cases q
 obtain⟨⟨h'',rfl,b1,⟨_,_,b2⟩,b3,sm⟩,dk⟩:=hq;have hB:∀b o,s2.heap.get? b=some o->b∉frs outer->b≠s.heap.objs.size->b≠ea->h''.get? b=some o:=fun b o e n1 n2 n3=>b1 b o (k2 b o (kp b o e) (fun z=>(hfs b z).elim n2 n1) n3)
 have ksl:∀b o,s2.heap.get? b=some o->b∈frs outer->∃sl,h''.get? b=some {o with slots:=sl}:=fun b o e hb=>by
  obtain⟨_,o',ho',hd⟩:=I.funs.mem hb;rw[e]at ho';cases ho';exact sm b o (kp b o e) hd
 have trk:∀b u,H1 b=some u->b∉frs outer/\b≠s.heap.objs.size:=fun b u e=>by
  refine⟨fun z=>?_,fun z=>?_⟩
  ·have:=I.stkFree b (bH.mpr (by
    obtain⟨env,he,hf⟩:=bH.mp z;exact⟨env,aC _ he,hf⟩))
   rw[this]at e;cases e
  ·have z' :H1 s.heap.objs.size=none:=I.free;rw[z,z']at e;cases e
 have nea:∀b o,s.heap.get? b=some o->b≠ea:=fun b o e z=>by rw[z,sea]at e;cases e
 have keepE:∀{b:aV} {u:HO},H1 b=some u->(∀φ,u≠ .ext φ)->but1 H1 ea b=some u:=fun {b u} e hn=>by
  rw[qJp]
  ·exact e
  ·rintro rfl;rcases ne with z|⟨φ,z⟩ <;> rw[z]at e <;> cases e
   exact hn φ rfl
 obtain⟨oe',q1,q2⟩:=dk ea oe hoe;refine⟨ea,cls,.ref t,but1 H1 ea,PySem.W.hideAll h' (ea::frs (envOfC qual scope s.heap.objs.size f cdv::outer)),ox,rfl,I.os,I.bare,⟨fun b o e n hb _=>?_,fun b o e n hb _=>?_,fun b o e n hx=>?_,fun b o e hx=>?_,fun b xs e=>keepE (I.base.tups b xs e) fun _ z=>(nomatch z),fun b o u e=>keepE (I.base.frzs b o u e) fun _ z=>(nomatch z),fun b ps e=>?_⟩,
  fun b u e=>?_,⟨b1,PySem.W.hideAll_none _ cH,b2,hcls▸b3⟩,fun b o e nb hh=>?_,qZv,sea,⟨oe',q1,q2.trans hdic⟩,he⟩
 ·exact hB b o (I.base.keep b o e n hb (nx b)) hb (old b o e) (nea b o e)
 ·obtain⟨sl,e1⟩:=I.base.slot b o e n hb (nx b);obtain⟨sl',e2⟩:=ksl b _ e1 hb;exact⟨sl',e2⟩
 ·rw[qJp (nea b o e)];exact I.base.free b o e n hx
 ·obtain⟨o',e1⟩:=I.base.there b o e hx;by_cases hb:b∈frs outer
  ·obtain⟨sl,e2⟩:=ksl b o' e1 hb;exact⟨_,e2⟩
  ·exact⟨o',hB b o' e1 hb (old b o e) (nea b o e)⟩
 ·obtain⟨more,z⟩:=I.base.tbls b ps e;exact⟨more,keepE z fun _ z=>(nomatch z)⟩
 ·obtain⟨n0,e⟩:=qKy e;refine(I.hok b u e).stay (fun c v hc q=>?_) (fun c q=>keepE q fun _ z=>(nomatch z)) fun c xs q=>keepE q fun _ z=>(nomatch z)
  rcases hc with z|z
  ·subst z;exact hB c v q (trk c u e).1 (trk c u e).2 n0
  ·refine hB c v q (trk c _ z).1 (trk c _ z).2 ?_
   rintro rfl;rcases ne with y|⟨φ,y⟩ <;> rw[y]at z <;> cases z
 ·have e2:(∃o2,s2.heap.get? b=some o2)/\b≠s.heap.objs.size/\b≠ea:=by
   rcases hh with z|z
   ·cases q:but1 H1 ea b with
    |none=>exact absurd q z
    | some u=>
      obtain⟨n0,q⟩:=qKy q;exact⟨I.hok.there q,(trk b u q).2,n0⟩
   ·cases q:s.heap.get? b with
    |none=>exact absurd q z
    |some o1=>exact⟨I.base.there b o1 q (nx b),old b o1 q,nea b o1 q⟩
  obtain⟨⟨o2,e2⟩,nL,n3⟩:=e2;have e3:=hB b o2 e2 nb nL n3;rw[e]at e3;cases e3;exact k2 b _ (kp b _ e2) (fun z=>(hfs b z).elim nL nb) n3
theorem jE{base:Heap}{s:aJ}:
  jM (CXd P w) (cxOf (CXd P w) P w K mg base N qual scope f cdv A outer s H E) E:=by
 intro pins σ H1 s1 e s' I hcx;obtain⟨ea,cls,a0,H2,B,ox,rfl,hos,bare,un,hok,fl,cov,hea,sea,⟨oe,hoe,hdic⟩,he⟩:=hcx;have fr:(A.deeper (envOfC qual scope s.heap.objs.size f cdv)).frames =some (envOfC qual scope s.heap.objs.size f cdv::outer):=I.ok.frames;have hfs:∀b,b∈frs (envOfC qual scope s.heap.objs.size f cdv::outer)->b=s.heap.objs.size\/b∈frs outer:=fun b hb=>by
  obtain⟨env,he,hf⟩:=bH.mp hb;rcases aA.mp he with rfl|he
  ·exact .inl (Option.some.inj hf).symm
  ·exact .inr (bH.mpr ⟨env,he,hf⟩)
 have hof:∀b,b∈frs outer->b∈frs (envOfC qual scope s.heap.objs.size f cdv::outer):=fun b hb=>by
  obtain⟨env,he,hf⟩:=bH.mp hb;exact bH.mpr ⟨env,aC _ he,hf⟩
 have old:∀b o,s.heap.get? b=some o->b≠s.heap.objs.size:=fun b o e=>bJ (aU e)
 have nx:∀b,b∉([]:List aV):=fun b=>by simp
 have u1:Un (frs outer) [] H H1 s.heap s1.heap:=I.base;have u2:Un (frs (envOfC qual scope s.heap.objs.size f cdv::outer)) [] H1 H2 s1.heap s'.heap:=un;refine bU ((qYh _ _).any (wpAny_leaves_onW fr rfl fl (E:=fun _ _=>False) (Q:=fun _ t' =>∃h'',t' ={s' with heap:=h'' }/\Heap.FlyingW B outer ea cls a0 h'' /\s'.heap.UpToSlots h'') fun h'' fl2 sm=>⟨h'',rfl,fl2,sm⟩)) (fun _ t' hq=>?_) fun _ _ z=>z.1.elim
 obtain⟨⟨h'',rfl,fl2,sm⟩,dk⟩:=hq;obtain⟨oe',q1,q2⟩:=dk ea oe hoe;have k2:∀b o,s'.heap.get? b=some o->b∉frs (envOfC qual scope s.heap.objs.size f cdv::outer)->(H2 b≠none\/s1.heap.get? b≠none)->h''.get? b=some o:=fun b o e n1 n2=>fl2.1 b o (cov b o e n1 n2)
 have slt:∀b o,s1.heap.get? b=some o->b∈frs (envOfC qual scope s.heap.objs.size f cdv::outer)->∃sl,h''.get? b=some {o with slots:=sl}:=fun b o e hb=>by
  obtain⟨_,o',ho',hd⟩:=I.stack.mem hb;rw[e]at ho';cases ho';obtain⟨sl,e1⟩:=u2.slot b o e (I.stkFree b hb) hb (nx b);obtain⟨sl',e2⟩:=sm b _ e1 hd;grind
 have fr2:∀b u,H2 b=some u->b∉frs (envOfC qual scope s.heap.objs.size f cdv::outer):=fun b u e hb=>by
  obtain⟨_,o',ho',hd⟩:=I.stack.mem hb;rw[u2.free b o' ho' (I.stkFree b hb) (nx b)]at e;cases e
 have nof:∀b o,s.heap.get? b=some o->b∉frs outer->b∉frs (envOfC qual scope s.heap.objs.size f cdv::outer):=fun b o e n z=>(hfs b z).elim (old b o e) n
 have thr:∀b o,s.heap.get? b=some o->∃o',h''.get? b=some o' :=fun b o e=>by
  obtain⟨o1,e1⟩:=u1.there b o e (nx b);by_cases hb:b∈frs (envOfC qual scope s.heap.objs.size f cdv::outer)
  ·grind
  ·obtain⟨o2,e2⟩:=u2.there b o1 e1 (nx b);grind
 refine⟨ea,cls,a0,H2,B,ox,rfl,hos.trans I.os,bare,⟨fun b o e n hb _=>?_,fun b o e n hb _=>?_,fun b o e n _=>?_,fun b o e _=>thr b o e,fun b xs e=>u2.tups b xs (u1.tups b xs e),fun b o u e=>u2.frzs b o u (u1.frzs b o u e),fun b ps e=>?_⟩,fun b u e=>?_,fl2,fun b o e nb hh=>?_,hea,?_,⟨oe',q1,q2.trans hdic⟩,he⟩
 ·have e1:=u1.keep b o e n hb (nx b);have n1:=u1.free b o e n (nx b);have hb2:=nof b o e hb;exact k2 b o (u2.keep b o e1 n1 hb2 (nx b)) hb2 (.inr (by rw[e1];simp))
 ·obtain⟨sl,e1⟩:=u1.slot b o e n hb (nx b);grind
 ·obtain⟨o1,e1⟩:=u1.there b o e (nx b);exact u2.free b o1 e1 (u1.free b o e n (nx b)) (nx b)
 ·obtain⟨m1,e1⟩:=u1.tbls b ps e;obtain⟨m2,e2⟩:=u2.tbls b _ e1;grind
 ·refine(hok b u e).stay (fun c v hc q=>?_) (fun _ q=>q) fun _ _ q=>q
  grind
 ·have st:b∉frs (envOfC qual scope s.heap.objs.size f cdv::outer)/\(H2 b≠none\/s1.heap.get? b≠none)/\∃o2,s'.heap.get? b=some o2:=by
   rcases hh with z|z
   ·cases q:H2 b with
    |none=>grind
    |some u=>exact⟨fr2 b u q,.inl (by simp),hok.there q⟩
   ·cases q:s.heap.get? b with
    |none=>grind
    | some o1=>
      obtain⟨o3,e3⟩:=u1.there b o1 q (nx b);exact⟨nof b o1 q nb,.inr (by rw[e3];simp),u2.there b o3 e3 (nx b)⟩
  obtain⟨n1,n2,o2,e2⟩:=st;have e3:=k2 b o2 e2 n1 n2;rw[e]at e3;cases e3;exact cov b _ e2 n1 n2
 ·cases q:s.heap.get? ea with
  |none=>rfl
  | some o=>
    obtain⟨o',e1⟩:=u1.there ea o q (nx ea);grind
theorem vQa{base:Heap}{s:aJ}:
  vZy (cxOf (CXd P w) P w K mg base N qual scope f cdv A outer s H E) C (fun H1=>E (.ref C) none H1):=by
 intro pins σ H1 s2 h' ea vs I hm he;obtain⟨t,h1,_,_⟩:=hm.there;have hn:H1 ea=none:=I.hok.untracked hm.new;refine qW2 I (t:=t) (ox:=none) (cls:=.ref C) hm.keeps ?_ ?_ ⟨_,h1,rfl,rfl,rfl⟩ (.inl hn) (by rw[zWz hn];exact he)
 ·cases q:s.heap.get? ea with
  |none=>rfl
  | some o=>
    obtain⟨o',e1⟩:=I.base.there ea o q (by show ea∉([]:List aV);simp);rw[hm.new]at e1;cases e1
 ·rintro rfl;obtain⟨m,⟨o,_,_,z,_⟩,_⟩:=I.loc;have z' :s2.heap.get? s.heap.objs.size=some o:=z;rw[hm.new]at z';cases z'
noncomputable def qXl(X:Cx)(C:aV)(R:aV->aV->Hp->Prop):Prop:=
 ∀(pins:List (aV×Obj)) (σ:St) (H:Hp) (s:aJ) (ea t dx:aV),Inv X pins σ H s->H ea=some (.ext (ExcR ea (.ref C) t (some dx)))->X.s₀.heap.get? ea=none->R ea dx H->X.xe (.ref ea) s
theorem vZ5{base:Heap}{s:aJ}:
  qXl (cxOf (CXd P w) P w K mg base N qual scope f cdv A outer s H E) C (fun ea dx H1=>E (.ref C) (some dx) (but1 H1 ea)):=by
 intro pins σ H1 s2 ea t dx I hx sea he;obtain⟨φ,_,_⟩:=(show zD P w H1 s2.heap ea _ from I.hok ea _ hx)
 refine qW2 I (t:=t) (h' :=s2.heap) (fun _ _ e=>e) sea ?_ φ (.inr ⟨_,hx⟩) he;rintro rfl;have z:H1 s.heap.objs.size=none:=I.free;grind
theorem Fun.okD{base:Heap}{x:Str}{st:Stmt}{k:Nat}(F:Fun K x qual st f fd)(S:FnScope N ps (qP st))(len:∀vs H Q E,sp vs H Q E->vs.length=ps.length)(hbody:∀(cdv:Value) (A:bS) (outer:List Env) (s:aJ) (H:Hp) (vs:List V) (Q:VK) (E:XK),Room k (A.deeper (envOfC qual (qP st) s.heap.objs.size f cdv))->sp vs H Q E->
   ∃t,PSs (cxOf (CXd P w) P w K mg base N qual (qP st) f cdv A outer s H E) (jW st) t/\t {nx:=fun _ H' =>Q .non H',rt:=Q} (qVx N vs) H):FnOk P w K mg base (CXd P w) (k+1) f fd ps sp:=by
 obtain⟨oc,od,kV,doc,pm,an,cdv,ct,osl,rfl,lk,hcd⟩:=F.ex;exact jQ9 lk hcd S len fun A outer s H vs Q E hr hsp=>hbody cdv A outer s H vs Q E hr hsp
noncomputable def zZv(C:aV)(sp:Sp)(te:TE)(R:aV->aV->Hp->Prop):TS:=fun _ σ H=>te σ H fun v H1=>([v]:List V).length =1/\∀ea t,H1 ea=none->
 sp (.ref ea:: [v]) (upd H1 ea (.ext (ExcR ea (.ref C) t none))) (fun r H2=>r=.non /\∃dx,H2 ea=some (.ext (ExcR ea (.ref C) t (some dx)))/\R ea dx H2) E0
theorem vX1{k:Nat}{fI:aV}{x:Str}{e:Expr}{te:TE}{R:aV->aV->Hp->Prop}{np cpos pos:Pos}(c:IniCls X.K C fI)(F:FnOk X.prog X.w X.K X.mg X.base (CXd X.prog X.w) k fI fd ps sp)(hr:Room (k+1) X.A)(hb:wI X.K fd ps [])(hg:Gl X x)(hm:X.mg x=some (.ref C))(hcalm:X.calm=true)(hex:X.ex=[])(he:PE X e te)(ht:qXl X C R)(hs:aX [e] X.env=[(false,eval e X.env)]:=by rfl)(hdb:(x == ("__debug__":Str))=false:=by decide):
  PS X (.Raise (some (.Call (.Name x np) [e] [] cpos)) none pos) (zZv C sp te R):=by
 intro pins s σ H D I h;refine vYn c (I.ok.hd hcalm) (by rw[hs];rfl) (qQo I hg hm ⟨rfl,?_⟩ hdb);have hA:PA X [e] (qY3 te tNil):=qQn he qZ6 hs;have h1:=hA cpos pins s σ H (fun vs H1=>vs.length=1/\∀ea t,H1 ea=none->sp (.ref ea::vs) (upd H1 ea (.ext (ExcR ea (.ref C) t none))) (fun r H2=>r=.non /\∃dx,H2 ea=some (.ext (ExcR ea (.ref C) t (some dx)))/\R ea dx H2) E0) I h;rw[hs]at h1⊢;refine Calls.evalArgs_plain (bU h1 (fun us s2 h2=>?_) fun _ _ y=>y);obtain⟨ws,H1,I1,rv,hl1,q1⟩:=h2;obtain⟨v,rfl⟩:∃v,ws=[v]:=by
  cases ws with
  |nil=>cases hl1
  |cons v r=>grind
 obtain⟨u,rfl,ru⟩:=qZw rv;refine⟨rfl,by show 1<=aR;decide,I1.kIn,fun h' ea hm' =>?_⟩;obtain⟨t,hea,_,_⟩:=hm'.there;have hn:H1 ea=none:=I1.hok.untracked hm'.new;have I2:Inv X pins σ H1 {s2 with heap:=h' }:=I1.kept hm'.keeps;have ne1:∀b o,s2.heap.get? b=some o->b≠ea:=fun b o e z=>by rw[z,hm'.new]at e;cases e
 have sea:X.s₀.heap.get? ea=none:=by
  cases q:X.s₀.heap.get? ea with
  |none=>rfl
  | some o=>
    obtain⟨o',z⟩:=I1.base.there ea o q (by rw[hex];simp);grind
 have I3:Inv X pins σ (upd H1 ea (.ext (ExcR ea (.ref C) t none))) {s2 with heap:=h' }:=by
  refine I2.adopt hn sea ?_ (fun y cc e=>?_) (fun p hp=>?_) (vV4 ⟨_,hea,rfl,rfl,rfl⟩)
  ·obtain⟨m,⟨o,_,_,z,_⟩,_⟩:=I1.loc;grind
  ·obtain⟨v,o,z,_⟩:=I1.cell y cc e;grind
  ·exact ne1 _ _ (I1.pin p hp).1
 have hsp:=q1 ea t hn;have r2:Vals [V.ref ea,v] [Value.ref ea,u]:=.cons rfl rv;have hl:([Value.ref ea,u] ++ []).length =ps.length:=by rw[bG,←r2.length];exact F.len _ _ _ _ hsp
 have hbd:=hb {s2 with heap:=h' } [.ref ea,u] I3.kIn hl;refine wpAny_call (codeAny_mono (F.run _ X.stack _ _ ⟨[.ref ea,u],[]⟩ [.ref ea,u] _ _ _ (hr.make C [u] []) (I3.env0.make C [u] []) hbd r2 hsp) fun r s' hq=>?_);cases r with
 |error e=>exact(jQp pins σ _ _ e s' I3 hq:_)
 | ok fl=>
   cases fl with
   | ret u' =>
     obtain⟨v',H',I4,rv',ev,dx,hx,hR⟩:=I3.after hq;subst ev;obtain⟨φ,_,_⟩:=(show zD X.prog X.w H' s'.heap ea _ from I4.hok ea _ hx)
     exact⟨rv',I4.kIn,⟨t,_,φ⟩,ht pins σ H' s' ea t dx I4 hx sea hR⟩
   |next=>exact False.elim hq
   |brk=>exact False.elim hq
   |cont=>exact False.elim hq
noncomputable def ExcD(p:aV)(cls:Value)(ox:Option aV):Heap->Prop:=fun h=>∃o,h.get? p=some o/\o.cls=cls/\o.dict=ox/\∃vs,o.data=.fields vs
theorem zZb{h:Heap}{e:aV}{dx:Option aV}(x:ExcD e cls dx h):zD P w H h e (.ext (ExcD e cls dx)):=by
 obtain⟨o,a,b,c⟩:=x;exact⟨⟨o,a,b,c⟩,⟨o,a⟩,fun h1 h2 ⟨o,a,b,c⟩ k=>⟨o,k o a,b,c⟩⟩
end L2
namespace DX
open PySem L2 PyProof.Rows
variable{H H' F':Hp}{v:V}{vs ws us:List V}{i j C n:Nat}{Z B' W' Y' B W:Fp}{α β κ:Type}{c:Nat->aV}{π:List Nat}{env env' args:Ev}{σ σ' τ:L2.St}{io:Bool}{Q:VK}{E:XK}{X:Cx}{e tg:Expr}{op:Operator}{t':TT}{w:bW}{ss:List SV}{N ps Nc:List Str}{g:SG}{body:SS}{it:SI}{m qual:Str}{P:bV}{mg:Str->Option Value}{fd:bQ}{kd:Kd}{as:List Am}{a0:Am}{pl:Sem Bool}{q:Nat×List Str×List O}{scope:Scope}{CX:CXT}{np cpos:Pos}
inductive Kd where
 |lst|tup|dct (ks:List Key)|dcT (ks:List (List Key))|obj (C:Nat) (fs:List Str)|exc (C:Nat) (fs:List Str)
inductive D where
 |non|int (i:Int)|str (s:Str)|bl (b:Bool)|fn (j:Nat)|nd (k:Kd) (ds:List D)
inductive O where
 |fz (d:D)|ow (k:Kd) (os:List O)
abbrev D.tup(ds:List D):D:=.nd .tup ds
noncomputable abbrev Fp:=aV->Nat
noncomputable def one(p:aV):Fp:=fun a=>if a=p then 1 else 0
theorem wO{p:aV}:one p p=1:=if_pos rfl
theorem yW{p a:aV}(h:a≠p):one p a=0:=if_neg h
noncomputable def hide(T:Fp)(H:Hp):Hp:=fun a=>if T a=0 then H a else none
theorem v4{T:Fp}{a:aV}(h:T a=0):hide T H a=H a:=if_pos h
theorem qJm{T:Fp}{a:aV}(h:T a≠0):hide T H a=none:=if_neg h
theorem wC{T:Fp}{a:aV}{o:HO}(h:hide T H a=some o):T a=0/\H a=some o:=by
 by_cases z:T a=0
 ·rw[v4 z]at h;exact⟨z,h⟩
 ·rw[qJm z]at h;cases h
theorem vK{T:Fp}:Same (hide T H) H:=fun _ _ h=>(wC h).2
theorem zF{T T' :Fp}(h:∀a o,T a=0->H a=some o->T' a=0/\H' a=some o):Same (hide T H) (hide T' H'):=fun a o e=>by
 obtain⟨z,q⟩:=wC e;obtain⟨z',q'⟩:=h a o z q;rw[v4 z'];exact q'
theorem jV{T T' :Fp}(h:∀a,T a=0->T' a=0):Same (hide T H) (hide T' H):=zF fun a _ z q=>⟨h a z,q⟩
theorem jJ{T T' :Fp}(h:∀a,T a=0↔T' a=0):hide T H=hide T' H:=by
 funext a;by_cases z:T a=0
 ·rw[v4 z,v4 ((h a).mp z)]
 ·rw[qJm z,qJm fun z' =>z ((h a).mpr z')]
theorem qYb{T:Fp}{p:aV}{o:HO}(h:T p≠0):hide T (upd H p o)=hide T H:=by
 funext a;by_cases z:T a=0
 ·rw[v4 z,v4 z,qF fun q=>h (by rw[←q];exact z)]
 ·rw[qJm z,qJm z]
noncomputable def Hb:HO->Prop
 |.tup _=>False
 |.frz _ _=>False
 |.tbl _=>False
 |.tab _ _ _=>False
 |.xd _=>False
 |_=>True
theorem j6{K:aQ}{a:aV}{xs:List V}(e:Same H H')(h:SqL K H a xs):SqL K H' a xs:=by
 rcases h with(h|⟨o,h⟩)|h
 ·exact .inl (.inl (e _ _ h))
 ·exact .inl (.inr ⟨o,e _ _ h⟩)
 ·exact .inr h
noncomputable def XdAt(F:Hp)(fs:List Str)(vs:List V):Option aV->Prop
 |none=>fs=[]
 |some dx=>F dx=some (.xd (fs.zip vs))
theorem vWl{F:Hp}(e:Same F F'){p:aV}{u:HO}(h:Rd F p u):Rd F' p u:=h.elim (fun x=>.inl (e _ _ x)) fun⟨o,x⟩=>.inr ⟨o,e _ _ x⟩
noncomputable def NdAt(K:aQ)(c:Nat->aV)(F:Hp)(p:aV):Kd->List V->Prop
 |.lst,vs=>SqL K F p vs
 |.tup,vs=>SqT K F p vs
 |.dct ks,vs=>ks.length=vs.length/\ks.Nodup/\Rd F p (.dK (ks.zip vs))
 |.dcT ks,vs=>ks.length=vs.length/\ks.Nodup/\F p=some (.dT (ks.zip vs))
 |.obj C fs,vs=>fs.length=vs.length/\∃dx,F p=some (.ins (c C) dx (fs.zip vs))
 |.exc C fs,vs=>fs.length=vs.length/\∃ox,F p=some (.ext (ExcD p (.ref (c C)) ox))/\XdAt F fs vs ox
noncomputable def OwAt(c:Nat->aV)(H:Hp)(p:aV):Kd->List V->Prop
 |.lst,vs=>H p=some (.lst vs)
 |.tup,_=>False
 |.dct ks,vs=>ks.length=vs.length/\ks.Nodup/\H p=some (.dK (ks.zip vs))
 |.dcT ks,vs=>ks.length=vs.length/\ks.Nodup/\H p=some (.dT (ks.zip vs))
 |.obj C fs,vs=>fs.length=vs.length/\∃dx,H p=some (.ins (c C) dx (fs.zip vs))
 |.exc _ _,_=>False
section
variable{K:aQ}{c:Nat->aV}{F F' H H' :Hp}{p:aV}{k:Kd}{vs:List V}
theorem NdAt.same(e:Same F F')(h:NdAt K c F p k vs):NdAt K c F' p k vs:=by
 cases k with
 |lst=>exact j6 e h
 |tup=>exact e.tup h
 |dct ks=>exact⟨h.1,h.2.1,vWl e h.2.2⟩
 |dcT ks=>exact⟨h.1,h.2.1,e _ _ h.2.2⟩
 |obj C fs=>obtain⟨a,dx,b⟩:=h;exact⟨a,dx,e _ _ b⟩
 | exc C fs=>
   obtain⟨a,ox,b,d⟩:=h;refine⟨a,ox,e _ _ b,?_⟩;cases ox with
   |none=>exact d
   |some dx=>exact e _ _ d
theorem OwAt.nd(h:OwAt c H p k vs)(e:F p=H p):NdAt K c F p k vs:=by
 cases k with
 |lst=>exact SqL.of (e.trans h)
 |tup=>exact h.elim
 |dct ks=>exact⟨h.1,h.2.1,.inl (e.trans h.2.2)⟩
 |dcT ks=>exact⟨h.1,h.2.1,e.trans h.2.2⟩
 |obj C fs=>obtain⟨a,dx,b⟩:=h;exact⟨a,dx,e.trans b⟩
 |exc C fs=>exact h.elim
theorem OwAt.eq(h:OwAt c H p k vs)(e:H' p=H p):OwAt c H' p k vs:=by
 cases k with
 |lst=>exact e.trans h
 |tup=>exact h.elim
 |dct ks=>exact⟨h.1,h.2.1,e.trans h.2.2⟩
 |dcT ks=>exact⟨h.1,h.2.1,e.trans h.2.2⟩
 |obj C fs=>obtain⟨a,dx,b⟩:=h;exact⟨a,dx,e.trans b⟩
 |exc C fs=>exact h.elim
theorem OwAt.hb(h:OwAt c H p k vs):∃o,H p=some o/\Hb o:=by
 cases k with
 |lst=>exact⟨_,h,trivial⟩
 |tup=>exact h.elim
 |dct ks=>exact⟨_,h.2.2,trivial⟩
 |dcT ks=>exact⟨_,h.2.2,trivial⟩
 |obj C fs=>obtain⟨a,dx,b⟩:=h;exact⟨_,b,trivial⟩
 |exc C fs=>exact h.elim
end
inductive DAt(K:aQ)(c:Nat->aV)(F:Hp):V->D->Prop
 |non:DAt K c F .non .non
 |int (i:Int):DAt K c F (.int i) (.int i)
 |str (s:Str):DAt K c F (.str s) (.str s)
 |bl (b:Bool):DAt K c F (.bl b) (.bl b)
 |fn (j:Nat):DAt K c F (.ref (c j)) (.fn j)
 |nd {p:aV} {k:Kd} {vs:List V} {ds:List D} (h:NdAt K c F p k vs) (len:vs.length=ds.length) (r:∀(i:Nat) (v:V) (d:D),vs[i]?=some v->ds[i]?=some d->DAt K c F v d):DAt K c F (.ref p) (.nd k ds)
structure DsAt(K:aQ)(c:Nat->aV)(F:Hp)(vs:List V)(ds:List D):Prop where
 len:vs.length=ds.length
 r:∀(i:Nat) (v:V) (d:D),vs[i]?=some v->ds[i]?=some d->DAt K c F v d
section
variable{K:aQ}{c:Nat->aV}{F F' :Hp}
theorem DAt.un{k:Kd}{ds:List D}(h:DAt K c F v (.nd k ds)):∃p vs,v=.ref p/\NdAt K c F p k vs/\DsAt K c F vs ds:=by
 cases h with
 |nd h l r=>exact⟨_,_,rfl,h,l,r⟩
theorem DAt.of{p:aV}{k:Kd}{ds:List D}(h:NdAt K c F p k vs)(r:DsAt K c F vs ds):DAt K c F (.ref p) (.nd k ds):=.nd h r.len r.r
theorem DAt.same(e:Same F F'){d:D}(h:DAt K c F v d):DAt K c F' v d:=by
 induction h with
 |non=>exact .non
 |int i=>exact .int i
 |str i=>exact .str i
 |bl i=>exact .bl i
 |fn i=>exact .fn i
 |nd h l r ih=>exact .nd (h.same e) l ih
theorem DsAt.same(e:Same F F'){ds:List D}(h:DsAt K c F vs ds):DsAt K c F' vs ds:=⟨h.len,fun i v d a b=>(h.r i v d a b).same e⟩
theorem DsAt.nil:DsAt K c F [] []:=⟨rfl,fun i v d h _=>by simp at h⟩
theorem DsAt.cons{d:D}{ds:List D}(h:DAt K c F v d)(k:DsAt K c F vs ds):DsAt K c F (v::vs) (d::ds):=by
 refine⟨by rw[aY,aY,k.len],fun i u x a b=>?_⟩;cases i with
 |zero=>grind
 |succ i=>exact k.r i u x (by simpa using a) (by simpa using b)
theorem DsAt.un{d:D}{ds:List D}(h:DsAt K c F vs (d::ds)):∃v r,vs=v::r/\DAt K c F v d/\DsAt K c F r ds:=by
 cases vs with
 |nil=>cases h.len
 |cons v r=>exact⟨v,r,rfl,h.r 0 v d rfl rfl,Nat.succ.inj h.len,fun i u x a b=>h.r (i+1) u x (by simpa using a) (by simpa using b)⟩
theorem DsAt.un0(h:DsAt K c F vs []):vs=[]:=List.eq_nil_of_length_eq_zero h.len
theorem DsAt.get{ds:List D}{d:D}(h:DsAt K c F vs ds)(e:ds[i]?=some d):∃v,vs[i]?=some v/\DAt K c F v d:=by
 have hi:i<vs.length:=by rw[h.len];exact(aH.mp e).1
 exact⟨vs[i],aN hi,h.r i _ d (aN hi) e⟩
theorem DsAt.append{ds es:List D}(h:DsAt K c F vs ds)(k:DsAt K c F ws es):DsAt K c F (vs ++ ws) (ds ++ es):=by
 refine⟨by rw[aB,aB,h.len,k.len],fun i v d a b=>?_⟩;by_cases hi:i<vs.length
 ·rw [List.getElem?_append_left hi] at a;rw[List.getElem?_append_left (by rw[←h.len];exact hi)]at b;exact h.r i v d a b
 ·rw [List.getElem?_append_right (by omega)] at a;rw[List.getElem?_append_right (by rw[←h.len];omega),←h.len]at b;exact k.r _ v d a b
theorem DsAt.take{ds:List D}(n:Nat)(h:DsAt K c F vs ds):DsAt K c F (vs.take n) (ds.take n):=by
 refine⟨by rw[List.length_take,List.length_take,h.len],fun i v d a b=>?_⟩;rw[List.getElem?_take]at a b;split at a
 ·rename_i z;rw[if_pos z]at b;exact h.r i v d a b
 ·cases a
theorem DsAt.drop{ds:List D}(n:Nat)(h:DsAt K c F vs ds):DsAt K c F (vs.drop n) (ds.drop n):=by
 refine⟨by rw[List.length_drop,List.length_drop,h.len],fun i v d a b=>?_⟩;rw[List.getElem?_drop]at a b;exact h.r _ v d a b
end
mutual
def OAt(K:aQ)(c:Nat->aV)(F H:Hp):O->V->Fp->Prop
 |.fz d,v,Z=>DAt K c F v d/\∀a,Z a=0
 |.ow k os,v,Z=>∃p vs Z',v=.ref p/\OwAt c H p k vs/\OsAt K c F H os vs Z' /\∀a,Z a=one p a+Z' a
def OsAt(K:aQ)(c:Nat->aV)(F H:Hp):List O->List V->Fp->Prop
 |[],vs,Z=>vs=[]/\∀a,Z a=0
 |o::os,vs,Z=>∃v r Z1 Z2,vs=v::r/\OAt K c F H o v Z1/\OsAt K c F H os r Z2/\∀a,Z a=Z1 a+Z2 a
end
mutual
def fzO:O->D
 |.fz d=>d
 |.ow k os=>.nd k (fzOs os)
def fzOs:List O->List D
 |[]=> []
 |o::os=>fzO o::fzOs os
end
theorem qV9:∀os:List O,fzOs os=os.map fzO
 |[]=>by simp[fzOs]
 |o::os=>by rw[fzOs,aS,qV9 os]
section
variable{K:aQ}{c:Nat->aV}{F F' H H' :Hp}{v:V}{vs:List V}{Z Z' :Fp}{d:D}{k:Kd}{os:List O}{o:O}
theorem OAt.fz:OAt K c F H (.fz d) v Z↔DAt K c F v d/\∀a,Z a=0:=by rw[OAt]
theorem OAt.ow:OAt K c F H (.ow k os) v Z↔∃p vs Z',v=.ref p/\OwAt c H p k vs/\OsAt K c F H os vs Z' /\∀a,Z a=one p a+Z' a:=by rw[OAt]
theorem OsAt.nil:OsAt K c F H [] vs Z↔vs=[]/\∀a,Z a=0:=by rw[OsAt]
theorem OsAt.cons:OsAt K c F H (o::os) vs Z↔∃v r Z1 Z2,vs=v::r/\OAt K c F H o v Z1/\OsAt K c F H os r Z2/\∀a,Z a=Z1 a+Z2 a:=by rw[OsAt]
mutual
theorem OAt.keepM(e:∀v d,DAt K c F v d->DAt K c F' v d):∀{o:O} {v:V} {Z:Fp},(∀a,Z a≠0->H' a=H a)->OAt K c F H o v Z->OAt K c F' H' o v Z
 | .fz d,v,Z,_,h=>by
   rw[OAt.fz]at h⊢;exact⟨e _ _ h.1,h.2⟩
 | .ow k os,v,Z,q,h=>by
   rw[OAt.ow]at h⊢;obtain⟨p,vs,Z',a,b,c,d⟩:=h;exact⟨p,vs,Z',a,b.eq (q p (by rw[d,wO];omega)),OsAt.keepM e (fun a z=>q a (by rw[d];omega)) c,d⟩
theorem OsAt.keepM(e:∀v d,DAt K c F v d->DAt K c F' v d):∀{os:List O} {vs:List V} {Z:Fp},(∀a,Z a≠0->H' a=H a)->OsAt K c F H os vs Z->OsAt K c F' H' os vs Z
 |[],vs,Z,_,h=>by rw[OsAt.nil]at h⊢;exact h
 | o::os,vs,Z,q,h=>by
   rw[OsAt.cons]at h⊢;obtain⟨v,r,Z1,Z2,a,b,c,d⟩:=h;exact⟨v,r,Z1,Z2,a,OAt.keepM e (fun a z=>q a (by rw[d];omega)) b,OsAt.keepM e (fun a z=>q a (by rw[d];omega)) c,d⟩
end
theorem OAt.keep(e:Same F F'){o:O}(q:∀a,Z a≠0->H' a=H a)(h:OAt K c F H o v Z):OAt K c F' H' o v Z:=OAt.keepM (fun _ _ h=>h.same e) q h
theorem OsAt.keep(e:Same F F'){os:List O}(q:∀a,Z a≠0->H' a=H a)(h:OsAt K c F H os vs Z):OsAt K c F' H' os vs Z:=OsAt.keepM (fun _ _ h=>h.same e) q h
mutual
theorem OAt.dat(e:Same F F'):∀{o:O} {v:V} {Z:Fp},(∀a,Z a≠0->F' a=H a)->OAt K c F H o v Z->DAt K c F' v (fzO o)
 | .fz d,v,Z,_,h=>by
   rw[OAt.fz]at h;rw[fzO];exact h.1.same e
 | .ow k os,v,Z,q,h=>by
   rw[OAt.ow]at h;obtain⟨p,vs,Z',rfl,b,c,d⟩:=h;rw[fzO];exact .of (b.nd (q p (by rw[d,wO];omega))) (OsAt.dat e (fun a z=>q a (by rw[d];omega)) c)
theorem OsAt.dat(e:Same F F'):∀{os:List O} {vs:List V} {Z:Fp},(∀a,Z a≠0->F' a=H a)->OsAt K c F H os vs Z->DsAt K c F' vs (fzOs os)
 |[],vs,Z,_,h=>by rw[OsAt.nil]at h;rw[h.1,fzOs];exact .nil
 | o::os,vs,Z,q,h=>by
   rw[OsAt.cons]at h;obtain⟨v,r,Z1,Z2,rfl,b,c,d⟩:=h;rw[fzOs];exact .cons (OAt.dat e (fun a z=>q a (by rw[d];omega)) b) (OsAt.dat e (fun a z=>q a (by rw[d];omega)) c)
end
mutual
theorem OAt.hb:∀{o:O} {v:V} {Z:Fp} {a:aV},OAt K c F H o v Z->Z a≠0->∃u,H a=some u/\Hb u
 |.fz d,v,Z,a,h,q=>by rw[OAt.fz]at h;exact absurd (h.2 a) q
 | .ow k os,v,Z,a,h,q=>by
   rw[OAt.ow]at h;obtain⟨p,vs,Z',rfl,b,c,d⟩:=h;by_cases z:a=p
   ·subst z;exact b.hb
   ·exact OsAt.hb c (by rw[d,yW z]at q;omega)
theorem OsAt.hb:∀{os:List O} {vs:List V} {Z:Fp} {a:aV},OsAt K c F H os vs Z->Z a≠0->∃u,H a=some u/\Hb u
 |[],vs,Z,a,h,q=>by rw[OsAt.nil]at h;exact absurd (h.2 a) q
 | o::os,vs,Z,a,h,q=>by
   rw[OsAt.cons]at h;obtain⟨v,r,Z1,Z2,rfl,b,c,d⟩:=h;by_cases z:Z1 a=0
   ·exact OsAt.hb c (by rw[d]at q;omega)
   ·exact OAt.hb b z
end
theorem OAt.cast(h:OAt K c F H o v Z)(e:∀a,Z' a=Z a):OAt K c F H o v Z' :=by rw[show Z' =Z from funext e];exact h
theorem OsAt.length:∀{os:List O} {vs:List V} {Z:Fp},OsAt K c F H os vs Z->vs.length=os.length
 |[],vs,Z,h=>by rw[OsAt.nil]at h;rw[h.1];rfl
 | o::os,vs,Z,h=>by
   obtain⟨v,r,Z1,Z2,rfl,b,c,d⟩:=h;rw[aY,aY,c.length]
theorem OsAt.fzs:∀{ds:List D} {vs:List V} {Z:Fp},OsAt K c F H (ds.map .fz) vs Z↔DsAt K c F vs ds/\∀a,Z a=0
 | [],vs,Z=>by
   rw[List.map_nil,OsAt.nil];exact⟨fun h=>⟨by rw[h.1];exact .nil,h.2⟩,fun h=>⟨h.1.un0,h.2⟩⟩
 | d::ds,vs,Z=>by
   rw[aS,OsAt.cons];constructor
   ·rintro⟨v,r,Z1,Z2,rfl,b,c,d⟩;rw[OAt.fz]at b;rw[OsAt.fzs]at c;exact⟨.cons b.1 c.1,fun a=>by rw[d,b.2,c.2]⟩
   ·rintro⟨h,z⟩;obtain⟨v,r,rfl,b,c⟩:=h.un;exact⟨v,r,fun _=>0,fun _=>0,rfl,OAt.fz.mpr ⟨b,fun _=>rfl⟩,OsAt.fzs.mpr ⟨c,fun _=>rfl⟩,fun a=>z a⟩
theorem OsAt.focus:∀{os:List O} {vs:List V} {Z:Fp} {j:Nat} {o:O},OsAt K c F H os vs Z->os[j]?=some o->∃(v:V) (Z1 R:Fp),vs[j]?=some v/\OAt K c F H o v Z1/\(∀a,Z a=Z1 a+R a)/\
  ∀F' H' o' v' Z1',Same F F' ->(∀a,R a≠0->H' a=H a)->OAt K c F' H' o' v' Z1' ->OsAt K c F' H' (os.set j o') (vs.set j v') (fun a=>Z1' a+R a)
 |[],vs,Z,j,o,h,e=>by simp at e
 | o1::os,vs,Z,0,o,h,e=>by
   rw[OsAt.cons]at h;obtain⟨v,r,Z1,Z2,rfl,b,c,d⟩:=h;cases e;refine⟨v,Z1,Z2,rfl,b,d,fun F' H' o' v' Z1' sm k q=>?_⟩;rw[List.set_cons_zero,List.set_cons_zero,OsAt.cons];exact⟨v',r,Z1',Z2,rfl,q,c.keep sm k,fun _=>rfl⟩
 | o1::os,vs,Z,j + 1,o,h,e=>by
   rw[OsAt.cons]at h;obtain⟨v,r,Z1,Z2,rfl,b,c,d⟩:=h;obtain⟨w,Y,R,h1,h2,h3,h4⟩:=OsAt.focus (j:=j) c (by simpa using e);refine⟨w,Y,fun a=>Z1 a+R a,by simpa using h1,h2,fun a=>by rw[d,h3];(try dsimp only at *);omega,fun F' H' o' v' Z1' sm k q=>?_⟩;rw[List.set_cons_succ,List.set_cons_succ,OsAt.cons];exact⟨v,r.set j v',Z1,_,rfl,b.keep sm fun a z=>k a (by(try dsimp only at *);omega),h4 F' H' o' v' Z1' sm (fun a z=>k a (by(try dsimp only at *);omega)) q,fun a=>by(try dsimp only at *);omega⟩
theorem OsAt.append:∀{os:List O} {vs:List V} {Z:Fp} {os' :List O} {vs' :List V} {Z' :Fp},OsAt K c F H os vs Z->OsAt K c F H os' vs' Z' ->OsAt K c F H (os ++ os') (vs ++ vs') (fun a=>Z a+Z' a)
 | [],vs,Z,os',vs',Z',h,k=>by
   rw[OsAt.nil]at h;simp_all
 | o::os,vs,Z,os',vs',Z',h,k=>by
   obtain⟨v,r,Z1,Z2,rfl,b,c,d⟩:=h;rw[List.cons_append,List.cons_append,OsAt.cons];exact⟨v,r ++ vs',Z1,_,rfl,b,c.append k,fun a=>by rw[d];(try dsimp only at *);omega⟩
theorem OsAt.one:OsAt K c F H [o] [v] Z↔OAt K c F H o v Z:=by
 constructor
 ·rintro⟨v',r,Z1,Z2,e,b,c,d⟩;cases e;exact b.cast fun a=>by rw[d,c.2];omega
 ·intro h;exact⟨v,[],Z,fun _=>0,rfl,h,OsAt.nil.mpr ⟨rfl,fun _=>rfl⟩,fun a=>by(try dsimp only at *);omega⟩
theorem OsAt.erase:∀{os:List O} {vs:List V} {Z:Fp} {j:Nat} {o:O},OsAt K c F H os vs Z->os[j]?=some o->∃(v:V) (Z1 R:Fp),vs[j]?=some v/\OAt K c F H o v Z1/\(∀a,Z a=Z1 a+R a)/\OsAt K c F H (os.eraseIdx j) (vs.eraseIdx j) R
 |[],vs,Z,j,o,h,e=>by simp at e
 | o1::os,vs,Z,0,o,h,e=>by
   rw[OsAt.cons]at h;obtain⟨v,r,Z1,Z2,rfl,b,c,d⟩:=h;cases e;exact⟨v,Z1,Z2,rfl,b,d,c⟩
 | o1::os,vs,Z,j + 1,o,h,e=>by
   rw[OsAt.cons]at h;obtain⟨v,r,Z1,Z2,rfl,b,c,d⟩:=h;obtain⟨w,Y,R,h1,h2,h3,h4⟩:=OsAt.erase (j:=j) c (by simpa using e);refine⟨w,Y,fun a=>Z1 a+R a,by simpa using h1,h2,fun a=>by rw[d,h3];(try dsimp only at *);omega,?_⟩;rw[List.eraseIdx_cons_succ,List.eraseIdx_cons_succ,OsAt.cons];exact⟨v,_,Z1,R,rfl,b,h4,fun _=>rfl⟩
end
noncomputable def getP:O->List Nat->Option O
 |o,[]=>some o
 | .ow _ os,j::π=>match os[j]? with
   |some o=>getP o π
   |none=>none
 |.fz _,_::_=>none
noncomputable def setP:O->List Nat->O->O
 |_,[],x=>x
 | .ow k os,j::π,x=> .ow k (match os[j]? with
   |some o=>os.set j (setP o π x)
   |none=>os)
 |.fz d,_::_,_=>.fz d
noncomputable def kids:HO->List V
 |.lst vs=>vs
 |.dK ws=>ws.map (·.2)
 |.dT ws=>ws.map (·.2)
 |.ins _ _ fs=>fs.map (·.2)
 |_=> []
noncomputable def walk(H:Hp):V->List Nat->Option V
 |v,[]=>some v
 | .ref p,j::π=>match H p with
   | some o=>match(kids o)[j]? with
     |some v=>walk H v π
     |none=>none
   |none=>none
 |_,_::_=>none
theorem qV2:∀{ks:List α} {vs:List β},ks.length=vs.length->(ks.zip vs).map (·.2)=vs
 |[],[],_=>rfl
 |k::ks,v::vs,h=>by rw[bP,aS,qV2 (Nat.succ.inj h)]
 |[],_::_,h=>by cases h
 |_::_,[],h=>by cases h
theorem OwAt.kids{p:aV}{k:Kd}(h:OwAt c H p k vs):∃o,H p=some o/\kids o=vs:=by
 cases k with
 |lst=>exact⟨_,h,rfl⟩
 |tup=>exact h.elim
 |dct ks=>exact⟨_,h.2.2,qV2 h.1⟩
 |dcT ks=>exact⟨_,h.2.2,qV2 h.1⟩
 |obj C fs=>obtain⟨a,dx,b⟩:=h;exact⟨_,b,qV2 a⟩
 |exc C fs=>exact h.elim
theorem yD{l:List α}{x:α}(h:l[j]?=some x):l.set j x=l:=by
 apply List.ext_getElem?;grind
theorem qWa{p:aV}{o:HO}(h:H p=some o)(e:(kids o)[j]?=some v):walk H (.ref p) (j::π)=walk H v π:=by
 simp only[walk,h,e]
section
variable{K:aQ}{c:Nat->aV}{F F' H H' :Hp}
theorem OAt.focus:∀{π:List Nat} {o o1:O} {v:V} {Z:Fp},OAt K c F H o v Z->getP o π=some o1->∃(v1:V) (Z1 R:Fp),walk H v π=some v1/\OAt K c F H o1 v1 Z1/\(∀a,Z a=Z1 a+R a)/\
  ∀F' H' o1' Z1',Same F F' ->(∀a,R a≠0->H' a=H a)->OAt K c F' H' o1' v1 Z1' ->OAt K c F' H' (setP o π o1') v (fun a=>Z1' a+R a)
 | [],o,o1,v,Z,h,e=>by
   cases e;refine⟨v,Z,fun _=>0,by cases v <;> rfl,h,fun a=>rfl,fun F' H' o1' Z1' sm k q=>?_⟩;exact q.cast fun _=>rfl
 |j::π,.fz d,o1,v,Z,h,e=>by cases e
 | j::π, .ow k os,o1,v,Z,h,e=>by
   simp only[getP]at e;cases e0:os[j]? with
   |none=>rw[e0]at e;cases e
   | some o=>
     rw[e0]at e;obtain⟨p,vs,Z',rfl,b,cc,d⟩:=h;obtain⟨w,Y,R,h1,h2,h3,h4⟩:=cc.focus e0;obtain⟨v1,Z1,R1,g1,g2,g3,g4⟩:=OAt.focus h2 e;obtain⟨ho,k1,k2⟩:=b.kids;refine⟨v1,Z1,fun a=>one p a+R a+R1 a,by rw[qWa k1 (by rw[k2];exact h1)];exact g1,g2,fun a=>by rw[d,h3,g3];(try dsimp only at *);omega,fun F' H' o1' Z1' sm k q=>?_⟩;have q2:=g4 F' H' o1' Z1' sm (fun a z=>k a (by(try dsimp only at *);omega)) q;have q3:=h4 F' H' _ w _ sm (fun a z=>k a (by(try dsimp only at *);omega)) q2;rw[yD h1]at q3;simp only[setP,e0];rw[OAt.ow];exact⟨p,vs,_,rfl,b.eq (k p (by dsimp only;rw[wO];omega)),q3,fun a=>by(try dsimp only at *);omega⟩
end
inductive Slot where
 |un|s (io:Bool) (o:O)
noncomputable abbrev Ev:=List Slot
noncomputable def wY(K:aQ)(c:Nat->aV)(F H:Hp):Slot->Option V->Fp->Prop
 |.un,_,Z=>∀a,Z a=0
 |.s _ o,some v,Z=>OAt K c F H o v Z
 |.s _ _,none,_=>False
noncomputable def lamQ:Str:="next_out.<locals>.<lambda>"
noncomputable def TabF(c:Nat->aV)(F:Hp):Prop:=c 77≠0->F (c 77)=some (.tab (c 78) (c 79) lamQ)
theorem TabF.same{F:Hp}(h:TabF c F)(e:Same F F'):TabF c F' :=fun z=>e _ _ (h z)
noncomputable def SlAt(K:aQ)(c:Nat->aV)(F H:Hp):Ev->L2.St->Fp->Prop
 |[],σ,Z=>(σ=[]/\TabF c F)/\∀a,Z a=0
 |s::env,σ,Z=>∃x r Z1 Z2,σ=x::r/\wY K c F H s x Z1/\SlAt K c F H env r Z2/\∀a,Z a=Z1 a+Z2 a
section
variable{K:aQ}{c:Nat->aV}{F F' H H' :Hp}
theorem wY.keepM(e:∀v d,DAt K c F v d->DAt K c F' v d){s:Slot}{x:Option V}(q:∀a,Z a≠0->H' a=H a)(h:wY K c F H s x Z):wY K c F' H' s x Z:=by
 cases s with
 |un=>exact h
 | s io o=>
   cases x with
   |none=>exact h.elim
   |some v=>exact OAt.keepM e q h
theorem wY.keep(e:Same F F'){s:Slot}{x:Option V}(q:∀a,Z a≠0->H' a=H a)(h:wY K c F H s x Z):wY K c F' H' s x Z:=h.keepM (fun _ _ h=>h.same e) q
theorem SlAt.cast{Z':Fp}(h:SlAt K c F H env σ Z)(e:∀a,Z' a=Z a):SlAt K c F H env σ Z' :=by rw[show Z' =Z from funext e];exact h
theorem wY.hb{s:Slot}{x:Option V}{a:aV}(h:wY K c F H s x Z)(q:Z a≠0):∃u,H a=some u/\Hb u:=by
 cases s with
 |un=>exact absurd (h a) q
 | s io o=>
   cases x with
   |none=>exact h.elim
   |some v=>exact OAt.hb h q
theorem SlAt.keepM(e:∀v d,DAt K c F v d->DAt K c F' v d)(t:TabF c F->TabF c F'):∀{env:Ev} {σ:L2.St} {Z:Fp},(∀a,Z a≠0->H' a=H a)->SlAt K c F H env σ Z->SlAt K c F' H' env σ Z
 |[],_,_,_,h=>⟨⟨h.1.1,t h.1.2⟩,h.2⟩
 | s::env,σ,Z,q,h=>by
   obtain⟨x,r,Z1,Z2,a,b,cc,d⟩:=h;exact⟨x,r,Z1,Z2,a,b.keepM e fun a z=>q a (by rw[d];omega),cc.keepM e t fun a z=>q a (by rw[d];omega),d⟩
theorem SlAt.keep(e:Same F F')(q:∀a,Z a≠0->H' a=H a)(h:SlAt K c F H env σ Z):SlAt K c F' H' env σ Z:=h.keepM (fun _ _ h=>h.same e) (fun t=>t.same e) q
theorem SlAt.hb:∀{env:Ev} {σ:L2.St} {Z:Fp} {a:aV},SlAt K c F H env σ Z->Z a≠0->∃u,H a=some u/\Hb u
 |[],_,_,a,h,q=>absurd (h.2 a) q
 | s::env,σ,Z,a,h,q=>by
   obtain⟨x,r,Z1,Z2,_,b,cc,d⟩:=h;by_cases z:Z1 a=0
   ·exact SlAt.hb cc (by rw[d]at q;omega)
   ·exact b.hb z
theorem SlAt.tab:∀{env:Ev} {σ:L2.St} {Z:Fp},SlAt K c F H env σ Z->TabF c F
 |[],_,_,h=>h.1.2
 | _::_,_,_,h=>by
   obtain⟨_,_,_,_,_,_,cc,_⟩:=h;exact cc.tab
theorem SlAt.len:∀{env:Ev} {σ:L2.St} {Z:Fp},SlAt K c F H env σ Z->env.length=σ.length
 |[],_,_,h=>by rw[h.1.1];rfl
 | s::env,σ,Z,h=>by
   obtain⟨x,r,Z1,Z2,rfl,b,cc,d⟩:=h;rw[aY,aY,cc.len]
theorem SlAt.focus:∀{env:Ev} {σ:L2.St} {Z:Fp} {i:Nat} {s:Slot},SlAt K c F H env σ Z->env[i]?=some s->∃(x:Option V) (Z1 R:Fp),σ[i]?=some x/\wY K c F H s x Z1/\(∀a,Z a=Z1 a+R a)/\
  ∀(F' H' :Hp) (s' :Slot) (x' :Option V) (Z1' Y:Fp),Same F F' ->(∀a,R a≠0->H' a=H a)->wY K c F' H' s' x' Z1' ->(∀a,Y a=Z1' a+R a)->SlAt K c F' H' (env.set i s') (σ.set i x') Y
 |[],_,_,i,s,h,e=>by simp at e
 | s1::env,σ,Z,0,s,h,e=>by
   obtain⟨x,r,Z1,Z2,rfl,b,cc,d⟩:=h;cases e;exact⟨x,Z1,Z2,rfl,b,d,fun F' H' s' x' Z1' Y sm k q y=>⟨x',r,Z1',Z2,rfl,q,cc.keep sm k,y⟩⟩
 | s1::env,σ,Z,i + 1,s,h,e=>by
   obtain⟨x,r,Z1,Z2,rfl,b,cc,d⟩:=h;obtain⟨y,Y,R,h1,h2,h3,h4⟩:=SlAt.focus (i:=i) cc (by simpa using e);refine⟨y,Y,fun a=>Z1 a+R a,by simpa using h1,h2,fun a=>by rw[d,h3];dsimp only;omega,fun F' H' s' x' Z1' Y' sm k q y' =>?_⟩;dsimp only at k y';exact⟨x,r.set i x',Z1,fun a=>Z1' a+R a,rfl,b.keep sm fun a z=>k a (by omega),h4 F' H' s' x' Z1' _ sm (fun a z=>k a (by omega)) q (fun _=>rfl),fun a=>by rw[y'];dsimp only;omega⟩
end
noncomputable abbrev hd2(B W:Fp):Fp:=fun a=>B a+W a
structure Cf(K:aQ)(c:Nat->aV)(env:Ev)(σ:L2.St)(H:Hp)(B W:Fp):Prop where
 at_:SlAt K c (hide (hd2 B W) H) H env σ W
 nd:∀a,B a+W a<=1
 hb:∀a,B a≠0->∃o,H a=some o/\Hb o
noncomputable def pinF(f:Str):Bool:= !(decide (f="place") || decide (f="slots") || decide (f="terms") || decide (f="top") || decide (f="bottom"))
def Pin(x y:Option HO):Prop:=match x with
 |some (.ins C dx fs)=>∃fs',y=some (.ins C dx fs')/\∀(j:Nat) f v,pinF f=true->fs[j]?=some (f,v)->fs'[j]?=some (f,v)
 |_=>True
theorem Pin.refl{x:Option HO}:Pin x x:=by
 unfold Pin;grind
theorem Pin.of{x y:Option HO}(h:y=x):Pin x y:=by subst h;exact .refl
theorem Pin.trans{x y z:Option HO}(a:Pin x y)(b:Pin y z):Pin x z:=by
 unfold Pin at a⊢;split
 ·obtain⟨fs1,rfl,h1⟩:=a;obtain⟨fs2,rfl,h2⟩:=b;grind
 ·trivial
theorem Pin.none{y:Option HO}:Pin none y:=trivial
structure Step(env:Ev)(σ:L2.St)(H:Hp)(B W:Fp)(env' :Ev)(σ' :L2.St)(H' :Hp)(V:Fp):Prop where
 same:Same (hide (hd2 B W) H) (hide (hd2 B V) H')
 by_:∀a,B a≠0->H' a=H a
 new:∀a,V a≠0->W a≠0\/H a=none
 dom:∀a,H' a=none->H a=none
 pin:∀a,W a≠0->V a≠0->Pin (H a) (H' a)
 io:∀(i:Nat) (o:O),env'[i]?=some (.s true o)->(∃o0,env[i]?=some (.s true o0))/\σ'[i]?=σ[i]?
 len:env'.length=env.length
section
variable{K:aQ}{c:Nat->aV}{env env' env2:Ev}{σ σ' σ2:L2.St}{H H' H2:Hp}{B W Y Y2 Z:Fp}
theorem Step.refl:Step env σ H B W env σ H W:=⟨Same.refl _,fun _ _=>rfl,fun _ h=>.inl h,fun _ h=>h,fun _ _ _=>.refl,fun _ o h=>⟨⟨o,h⟩,rfl⟩,rfl⟩
theorem Step.trans(a:Step env σ H B W env' σ' H' Y)(b:Step env' σ' H' B Y env2 σ2 H2 Y2):Step env σ H B W env2 σ2 H2 Y2:=by
 refine⟨a.same.trans b.same,fun z h=>(b.by_ z h).trans (a.by_ z h),fun z h=>?_,fun z h=>a.dom z (b.dom z h),fun z h1 h2=>?_,fun i o h=>?_,b.len.trans a.len⟩
 ·rcases b.new z h with q | q
  ·exact a.new z q
  ·exact .inr (a.dom z q)
 ·rcases b.new z h2 with q | q
  ·exact(a.pin z h1 q).trans (b.pin z q h2)
  ·rw[a.dom z q];exact .none
 ·obtain⟨⟨o1,h1⟩,e1⟩:=b.io i o h;obtain⟨q,e2⟩:=a.io i o1 h1;exact⟨q,e1.trans e2⟩
theorem Step.lift(b:Step env σ H B' W env' σ' H' Y)(h1:∀a,B' a=B a+Z a)(h2:∀a,W' a=W a+Z a)(h3:∀a,Y' a=Y a+Z a):Step env σ H B W' env' σ' H' Y' :=by
 refine⟨?_,fun a h=>b.by_ a (by rw[h1];omega),fun a h=>?_,b.dom,fun a p q=>?_,b.io,b.len⟩
 ·have e1:hide (hd2 B W') H=hide (hd2 B' W) H:=jJ fun a=>by dsimp only [hd2];rw [h1,h2];omega
  have e2:hide (hd2 B Y') H' =hide (hd2 B' Y) H' :=jJ fun a=>by dsimp only[hd2];rw[h1,h3];omega
  rw[e1,e2];exact b.same
 ·by_cases z:Y a=0
  ·exact .inl (by rw[h3]at h;rw[h2];omega)
  ·rcases b.new a z with q | q
   ·exact .inl (by rw[h2];omega)
   ·exact .inr q
 ·by_cases z:Z a=0
  ·exact b.pin a (by rw[h2]at p;omega) (by rw[h3]at q;omega)
  ·exact .of (b.by_ a (by rw[h1];omega))
theorem Step.cast(b:Step env σ H B W env' σ' H' Y)(h1:∀a,B' a=B a)(h2:∀a,W' a=W a)(h3:∀a,Y' a=Y a):Step env σ H B' W' env' σ' H' Y' :=by
 rw[show B' =B from funext h1,show W' =W from funext h2,show Y' =Y from funext h3];exact b
theorem Cf.cast(b:Cf K c env σ H B W)(h1:∀a,B' a=B a)(h2:∀a,W' a=W a):Cf K c env σ H B' W' :=by
 rw[show B' =B from funext h1,show W' =W from funext h2];exact b
theorem Cf.hbs(h:Cf K c env σ H B W){a:aV}(q:B a+W a≠0):∃o,H a=some o/\Hb o:=by
 by_cases z:B a=0
 ·exact h.at_.hb (by omega)
 ·exact h.hb a z
theorem Cf.fresh(h:Cf K c env σ H B W){a:aV}(q:H a=none):B a=0/\W a=0:=by
 have:B a+W a=0:=by
  by_cases z:B a+W a=0
  ·exact z
  ·obtain⟨o,e,_⟩:=h.hbs z;rw[q]at e;cases e
 omega
theorem Cf.grow(h:Cf K c env σ H B W)(e:Same H H'):Cf K c env σ H' B W:=by
 have st:∀a,B a+W a≠0->H' a=H a:=fun a z=>by obtain⟨o,q,_⟩:=h.hbs z;rw[q,e a o q]
 exact⟨h.at_.keep (zF fun a o z q=>⟨z,e a o q⟩) fun a z=>st a (by omega),h.nd,fun a z=>by rw[st a (by omega)];exact h.hb a z⟩
theorem Step.grow(h:Cf K c env σ H B W)(e:Same H H'):Step env σ H B W env σ H' W:=by
 have st:∀a,B a+W a≠0->H' a=H a:=fun a z=>by obtain⟨o,q,_⟩:=h.hbs z;rw[q,e a o q]
 refine⟨zF fun a o z q=>⟨z,e a o q⟩,fun a z=>st a (by omega),fun _ z=>.inl z,fun a z=>?_,fun a z _=>.of (st a (by omega)),fun _ o h=>⟨⟨o,h⟩,rfl⟩,rfl⟩;cases q:H a with
 |none=>rfl
 |some o=>rw[e a o q]at z;cases z
theorem Cf.focus(h:Cf K c env σ H B W){s:Slot}(e:env[i]?=some s):∃(x:Option V) (Z1 R:Fp),σ[i]?=some x/\wY K c (hide (hd2 B W) H) H s x Z1/\(∀a,W a=Z1 a+R a)/\
  ∀(H' :Hp) (B' W' :Fp) (s' :Slot) (x' :Option V) (Z1' :Fp),Same (hide (hd2 B W) H) (hide (hd2 B' W') H')->(∀a,W' a=Z1' a+R a)->(∀a,R a≠0->H' a=H a)->wY K c (hide (hd2 B' W') H') H' s' x' Z1' ->
   (∀a,B' a+W' a<=1)->(∀a,B' a≠0->∃o,H' a=some o/\Hb o)->Cf K c (env.set i s') (σ.set i x') H' B' W' :=by
 obtain⟨x,Z1,R,h1,h2,h3,h4⟩:=h.at_.focus e;exact⟨x,Z1,R,h1,h2,h3,fun H' B' W' s' x' Z1' sm hw k q nd hb=>⟨h4 _ H' s' x' Z1' W' sm k q hw,nd,hb⟩⟩
end
noncomputable def getE(env:Ev)(i:Nat)(π:List Nat):Option O:=match env[i]? with
 |some (.s _ o)=>getP o π
 |_=>none
noncomputable def setE(env:Ev)(i:Nat)(π:List Nat)(x:O):Ev:=match env[i]? with
 |some (.s io o)=>env.set i (.s io (setP o π x))
 |_=>env
noncomputable def vE(H:Hp)(σ:L2.St)(i:Nat)(π:List Nat):Option V:=match σ[i]? with
 |some (some v)=>walk H v π
 |_=>none
section
variable{K:aQ}{c:Nat->aV}{env env' env2:Ev}{σ σ' σ2:L2.St}{H H' H2:Hp}{B W Y Y2 Z:Fp}{i:Nat}{π:List Nat}{o1:O}
theorem qZq{x:O}{o:O}(h:(setE env i π x)[j]?=some (.s true o)):∃o0,env[j]?=some (.s true o0):=by
 unfold setE at h;grind
theorem qQ5{x:O}:(setE env i π x).length =env.length:=by
 unfold setE;grind
theorem Cf.place(h:Cf K c env σ H B W)(e:getE env i π=some o1):∃(v1:V) (Z1 R:Fp),vE H σ i π=some v1/\OAt K c (hide (hd2 B W) H) H o1 v1 Z1/\(∀a,W a=Z1 a+R a)/\
  ∀(H' :Hp) (B' W' :Fp) (o1' :O) (Z1' :Fp),Same (hide (hd2 B W) H) (hide (hd2 B' W') H')->(∀a,W' a=Z1' a+R a)->(∀a,R a≠0->H' a=H a)->OAt K c (hide (hd2 B' W') H') H' o1' v1 Z1' ->
   (∀a,B' a+W' a<=1)->(∀a,B' a≠0->∃o,H' a=some o/\Hb o)->Cf K c (setE env i π o1') σ H' B' W' :=by
 unfold getE at e;split at e
 ·rename_i io o e0;obtain⟨x,Z0,R0,h1,h2,h3,h4⟩:=h.focus e0;cases x with
  |none=>exact h2.elim
  | some v=>
    obtain⟨v1,Z1,R1,g1,g2,g3,g4⟩:=OAt.focus h2 e;refine⟨v1,Z1,fun a=>R1 a+R0 a,by unfold vE;rw[h1];exact g1,g2,fun a=>by rw[h3,g3];dsimp only;omega,fun H' B' W' o1' Z1' sm hw k q nd hb=>?_⟩;dsimp only at hw k;have q2:=g4 _ H' o1' Z1' sm (fun a z=>k a (by omega)) q;have q3:=h4 H' B' W' (.s io (setP o π o1')) (some v) _ sm (fun a=>by rw[hw];(try dsimp only);omega) (fun a z=>k a (by omega)) q2 nd hb;rw[yD h1]at q3;unfold setE;rw[e0];exact q3
 ·cases e
theorem Cf.freeze(h:Cf K c env σ H B W)(e:getE env i π=some o1):∃v1 W',vE H σ i π=some v1/\Cf K c (setE env i π (.fz (fzO o1))) σ H B W' /\DAt K c (hide (hd2 B W') H) v1 (fzO o1)/\Step env σ H B W (setE env i π (.fz (fzO o1))) σ H W' :=by
 obtain⟨v1,Z1,R,h1,h2,h3,h4⟩:=h.place e;have sm:Same (hide (hd2 B W) H) (hide (hd2 B R) H):=jV fun a z=>by dsimp only[hd2]at *;rw[h3]at z;omega
 have hd:DAt K c (hide (hd2 B R) H) v1 (fzO o1):=h2.dat sm fun a z=>v4 (by have:=h.nd a;rw[h3]at this;dsimp only[hd2];omega)
 refine⟨v1,R,h1,h4 H B R _ (fun _=>0) sm (fun a=>by(try dsimp only);omega) (fun _ _=>rfl) (OAt.fz.mpr ⟨hd,fun _=>rfl⟩) (fun a=>by have:=h.nd a;rw[h3]at this;omega) h.hb,hd,?_⟩;exact⟨sm,fun _ _=>rfl,fun a z=>.inl (by rw[h3];omega),fun _ z=>z,fun _ _ _=>.refl,fun j o q=>⟨qZq q,rfl⟩,qQ5⟩
theorem Cf.view(h:Cf K c env σ H B W)(e:getE env i π=some o1):∃v1,vE H σ i π=some v1/\DAt K c H v1 (fzO o1):=by
 obtain⟨v1,Z1,R,h1,h2,h3,h4⟩:=h.place e;exact⟨v1,h1,h2.dat vK fun _ _=>rfl⟩
theorem Cf.put{u:V}{o:O}(h:Cf K c env σ H B' W)(hB:∀a,B' a=B a+Z a)(ho:OAt K c (hide (hd2 B' W) H) H o u Z)(hi:i<env.length):∃W',Cf K c (env.set i (.s io o)) (σ.set i (some u)) H B W' /\Same (hide (hd2 B' W) H) (hide (hd2 B W') H)/\∀a,W' a≠0->Z a+W a≠0:=by
 obtain⟨x,Z1,R,h1,h2,h3,h4⟩:=h.focus (aN hi);have sm:Same (hide (hd2 B' W) H) (hide (hd2 B fun a=>Z a+R a) H):=jV fun a z=>by dsimp only[hd2]at *;rw[h3,hB]at z;omega
 refine⟨fun a=>Z a+R a,h4 H B _ (.s io o) (some u) Z sm (fun _=>rfl) (fun _ _=>rfl) (ho.keep sm fun _ _=>rfl) (fun a=>?_) (fun a z=>h.hb a (by rw[hB];omega)),sm,fun a z=>?_⟩
 ·have:=h.nd a;rw[h3,hB]at this;(try dsimp only);omega
 ·dsimp only at z;rw[h3];omega
end
inductive Res(α:Type) where
 |ok (a:α)|er (C:Nat) (fs:List (Str×D))|no
noncomputable def Res.bind{α β:Type}(x:Res α)(f:α->Res β):Res β:=match x with
 |.ok a=>f a
 |.er C fs=>.er C fs
 |.no =>.no
noncomputable def Res.wp{α:Type}(x:Res α)(Q:α->Prop)(E:Nat->List (Str×D)->Prop):Prop:=match x with
 |.ok a=>Q a
 |.er C fs=>E C fs
 |.no =>False
noncomputable def opt{α:Type}:Option α->Res α
 |some a=>.ok a
 |none=>.no
theorem qX{f:α->Res β}{Q:β->Prop}{E:Nat->List (Str×D)->Prop}:∀{x:Res α},(x.bind f).wp Q E↔x.wp (fun a=>(f a).wp Q E) E
 |.ok _=>Iff.rfl
 |.er _ _=>Iff.rfl
 |.no =>Iff.rfl
theorem wp_mono{Q Q' :α->Prop}{E E' :Nat->List (Str×D)->Prop}(hQ:∀a,Q a->Q' a)(hE:∀C fs,E C fs->E' C fs):∀{x:Res α},x.wp Q E->x.wp Q' E'
 |.ok a,h=>hQ a h
 |.er C fs,h=>hE C fs h
 |.no,h=>h.elim
theorem qC{f:α->Res β}{Q:β->Prop}{E:Nat->List (Str×D)->Prop}:∀{x:Option α},((opt x).bind f).wp Q E->∃a,x=some a/\(f a).wp Q E
 |some a,h=>⟨a,rfl,h⟩
 |none,h=>h.elim
theorem zE{b:Bool}{x:Res α}{Q:α->Prop}{E:Nat->List (Str×D)->Prop}(h:(cond b x .no).wp Q E):b=true/\x.wp Q E:=by
 cases b with
 |true=>grind
 |false=>exact h.elim
structure StepX(H:Hp)(B W:Fp)(H' :Hp)(Y:Fp):Prop where
 same:Same (hide (hd2 B W) H) (hide (hd2 B Y) H')
 by_:∀a,B a≠0->H' a=H a
 dom:∀a,H' a=none->H a=none
noncomputable def ErAt(K:aQ)(c:Nat->aV)(F H:Hp)(fs:List (Str×D)):Option aV->Prop
 |none=>fs=[]
 |some dx=>∃ws:List (Str×V),H dx=some (.xd ws)/\ws.map (·.1)=fs.map (·.1)/\DsAt K c F (ws.map (·.2)) (fs.map (·.2))
noncomputable def erP(K:aQ)(c:Nat->aV)(E:XK)(H:Hp)(B W:Fp):Nat->List (Str×D)->Prop:=fun C fs=>∀H' Y ox,StepX H B W H' Y->ErAt K c (hide (hd2 B Y) H') H' fs ox->E (.ref (c C)) ox H'
section
variable{K:aQ}{c:Nat->aV}{E:XK}{env env' :Ev}{σ σ' :L2.St}{H H' H2:Hp}{B W Y Y2 Z:Fp}{C:Nat}{fs:List (Str×D)}
theorem Step.x(a:Step env σ H B W env' σ' H' Y)(b:StepX H' B Y H2 Y2):StepX H B W H2 Y2:=⟨a.same.trans b.same,fun z h=>(b.by_ z h).trans (a.by_ z h),fun z h=>a.dom z (b.dom z h)⟩
theorem erP.back(a:Step env σ H B W env' σ' H' Y)(h:erP K c E H B W C fs):erP K c E H' B Y C fs:=fun H2 Y2 ox sx er=>h H2 Y2 ox (a.x sx) er
end
structure Got(K:aQ)(c:Nat->aV)(env:Ev)(σ:L2.St)(H:Hp)(B W:Fp)(env' :Ev)(H' :Hp)(W' Z:Fp)(o:O)(u:V):Prop where
 st:Step env σ H B W env' σ H' (hd2 W' Z)
 cf:Cf K c env' σ H' (hd2 B Z) W'
 at_:OAt K c (hide (hd2 (hd2 B Z) W') H') H' o u Z
structure GotD(K:aQ)(c:Nat->aV)(env:Ev)(σ:L2.St)(H:Hp)(B W:Fp)(env' :Ev)(H' :Hp)(W' :Fp)(x:D)(u:V):Prop where
 st:Step env σ H B W env' σ H' W'
 cf:Cf K c env' σ H' B W'
 at_:DAt K c (hide (hd2 B W') H') u x
noncomputable abbrev SE:=Ev->Res (O×Ev)
noncomputable abbrev SV:=Ev->Res (D×Ev)
def tE(K:aQ)(c:Nat->aV)(E:XK)(s:SE):TE:=fun σ H Q=>∃env B W,Cf K c env σ H B W/\(s env).wp (fun r=>∀u H' W' Z,Got K c env σ H B W r.2 H' W' Z r.1 u->Q u H') (erP K c E H B W)
noncomputable def tV(K:aQ)(c:Nat->aV)(E:XK)(s:SV):TE:=fun σ H Q=>∃env B W,Cf K c env σ H B W/\(s env).wp (fun r=>∀u H' W',GotD K c env σ H B W r.2 H' W' r.1 u->Q u H') (erP K c E H B W)
structure ED(X:Cx)(c:Nat->aV)(E:XK)(e:Expr)(s:SE):Prop where
 h:PE X e (tE X.K c E s)
structure EV(X:Cx)(c:Nat->aV)(E:XK)(e:Expr)(s:SV):Prop where
 h:PE X e (tV X.K c E s)
theorem PE.imp{t t' :TE}(h:PE X e t)(k:∀σ H Q,t' σ H Q->t σ H Q):PE X e t' :=fun pins s σ H Q I q=>h pins s σ H Q I (k σ H Q q)
section
variable{K:aQ}{c:Nat->aV}{E:XK}{env env' env2:Ev}{σ σ' :L2.St}{H H' H2:Hp}{B W W' W2 Y Y2 Z:Fp}{o:O}{u:V}{x:D}
theorem Got.fz(g:Got K c env σ H B W env' H' W' Z o u):GotD K c env σ H B W env' H' W' (fzO o) u:=by
 have sm:Same (hide (hd2 (hd2 B Z) W') H') (hide (hd2 B W') H'):=jV fun a z=>by dsimp only[hd2]at *;omega
 have sm2:Same (hide (hd2 B (hd2 W' Z)) H') (hide (hd2 B W') H'):=jV fun a z=>by dsimp only[hd2]at *;omega
 refine⟨⟨g.st.same.trans sm2,g.st.by_,fun a h=>g.st.new a (by dsimp only[hd2];omega),g.st.dom,fun a h1 h2=>g.st.pin a h1 (by dsimp only[hd2];omega),g.st.io,g.st.len⟩,
  ⟨g.cf.at_.keep sm fun _ _=>rfl,fun a=>by have:=g.cf.nd a;dsimp only[hd2]at this;omega,fun a h=>g.cf.hb a (by dsimp only[hd2];omega)⟩,g.at_.dat sm fun a h=>v4 ?_⟩
 have:=g.cf.nd a;dsimp only[hd2]at *;omega
theorem GotD.own(g:GotD K c env σ H B W env' H' W' x u):Got K c env σ H B W env' H' W' (fun _=>0) (.fz x) u:=by
 refine⟨g.st.cast (fun _=>rfl) (fun _=>rfl) fun _=>rfl,g.cf.cast (fun _=>rfl) fun _=>rfl,OAt.fz.mpr ⟨?_,fun _=>rfl⟩⟩;exact g.at_
end
section
variable{X:Cx}{c:Nat->aV}{E:XK}{e:Expr}
noncomputable def fzS(s:SE):SV:=fun env=>(s env).bind fun r=>.ok (fzO r.1,r.2)
noncomputable def owS(s:SV):SE:=fun env=>(s env).bind fun r=>.ok (.fz r.1,r.2)
theorem ev_e{s:SE}(h:ED X c E e s):EV X c E e (fzS s):=by
 refine⟨PE.imp h.h fun σ H Q=>?_⟩;rintro⟨env,B,W,cf,w⟩;exact⟨env,B,W,cf,wp_mono (fun r q u H' W' Z g=>q u H' W' g.fz) (fun _ _ q=>q) (qX.mp w)⟩
theorem ed_v{s:SV}(h:EV X c E e s):ED X c E e (owS s):=by
 refine⟨PE.imp h.h fun σ H Q=>?_⟩;rintro⟨env,B,W,cf,w⟩;exact⟨env,B,W,cf,wp_mono (fun r q u H' W' g=>q u H' W' _ g.own) (fun _ _ q=>q) (qX.mp w)⟩
end
inductive Hn where
 |d (x:D)|p (i:Nat) (π:List Nat)
noncomputable abbrev SP:=Ev->Option Hn
def HnAt(K:aQ)(c:Nat->aV)(F:Hp)(σ:L2.St)(H:Hp)(u:V):Hn->Prop
 |.d x=>DAt K c F u x
 |.p i π=>vE H σ i π=some u
noncomputable def tP(K:aQ)(c:Nat->aV)(s:SP):TE:=fun σ H Q=>∃env B W h,Cf K c env σ H B W/\s env=some h/\∀u,HnAt K c (hide (hd2 B W) H) σ H u h->Q u H
structure EP(X:Cx)(c:Nat->aV)(e:Expr)(s:SP):Prop where
 h:PE X e (tP X.K c s)
noncomputable def hnO(o:O)(i:Nat)(π:List Nat):Hn:=match o with
 |.fz d=>.d d
 |.ow _ _=>.p i π
noncomputable def hnV(env:Ev):Hn->Res (D×Ev)
 |.d x=>.ok (x,env)
 |.p i π=>(opt (getE env i π)).bind fun o=>.ok (fzO o,setE env i π (.fz (fzO o)))
noncomputable def pV(s:SP):SV:=fun env=>(opt (s env)).bind (hnV env)
theorem vZt{K:aQ}{h:Hn}{u:V}{Q:D×Ev->Prop}{EE:Nat->List (Str×D)->Prop}(cf:Cf K c env σ H B W)(hu:HnAt K c (hide (hd2 B W) H) σ H u h)(w:(hnV env h).wp Q EE):
  ∃x env' W',GotD K c env σ H B W env' H W' x u/\Q (x,env'):=by
 cases h with
 |d x=>exact⟨x,env,W,⟨.refl,cf,hu⟩,w⟩
 | p i π=>
   obtain⟨o,e1,w1⟩:=qC w;obtain⟨v1,W',h1,h2,h3,h4⟩:=cf.freeze e1;have:vE H σ i π=some u:=hu;rw[this]at h1;cases h1;exact⟨_,_,W',⟨h4,h2,h3⟩,w1⟩
theorem ev_p{s:SP}(h:EP X c e s):EV X c E e (pV s):=by
 refine⟨PE.imp h.h fun σ H Q=>?_⟩;rintro⟨env,B,W,cf,w⟩;obtain⟨h1,e0,w1⟩:=qC w;refine⟨env,B,W,h1,cf,e0,fun u hu=>?_⟩;obtain⟨x,env',W',g,q⟩:=vZt cf hu w1;grind
noncomputable def rsv(env:Ev):Hn->Option D
 |.d x=>some x
 | .p i π=>match getE env i π with
   |some o=>some (fzO o)
   |none=>none
theorem xZ{K:aQ}{h:Hn}{u:V}{x:D}(cf:Cf K c env σ H B W)(hu:HnAt K c (hide (hd2 B W) H) σ H u h)(e:rsv env h=some x):DAt K c H u x:=by
 cases h with
 |d y=>cases e;exact DAt.same vK hu
 | p i π=>
   simp only[rsv]at e;cases e0:getE env i π with
   |none=>grind
   | some o=>
     rw[e0]at e;cases e;obtain⟨v1,h1,h2⟩:=cf.view e0;have:vE H σ i π=some u:=hu;grind
inductive Vw(K:aQ)(c:Nat->aV)(F H:Hp):V->D->Prop
 |d {u:V} {x:D} (h:DAt K c F u x):Vw K c F H u x
 |nd {p:aV} {k:Kd} {vs:List V} {ds:List D} (h:NdAt K c H p k vs) (r:DsAt K c F vs ds):Vw K c F H (.ref p) (.nd k ds)
section
variable{K:aQ}{c:Nat->aV}{F F' H H' :Hp}{u:V}{x:D}
theorem Vw.un{k:Kd}{ds:List D}(s:Same F H)(h:Vw K c F H u (.nd k ds)):∃p vs,u=.ref p/\NdAt K c H p k vs/\DsAt K c F vs ds:=by
 generalize e:D.nd k ds=y at h;cases h with
 | d h=>
   subst e;obtain⟨p,vs,a,b,cc⟩:=h.un;exact⟨p,vs,a,b.same s,cc⟩
 |nd h r=>cases e;exact⟨_,_,rfl,h,r⟩
theorem Vw.same(s:Same F F')(h:Vw K c F H u x):Vw K c F' H u x:=by
 cases h with
 |d h=>exact .d (h.same s)
 |nd h r=>exact .nd h (r.same s)
end
noncomputable def vJ0:O->O
 |.fz d=>.fz d
 |.ow k os=>.ow k (os.map fun o=>.fz (fzO o))
noncomputable def rsvB(env:Ev):Hn->Res (D×Ev)
 |.d x=>.ok (x,env)
 |.p i π=>(opt (getE env i π)).bind fun o=>.ok (fzO o,setE env i π (vJ0 o))
theorem vWj{K:aQ}{h:Hn}{u:V}{Q:D×Ev->Prop}{EE:Nat->List (Str×D)->Prop}(cf:Cf K c env σ H B W)(hu:HnAt K c (hide (hd2 B W) H) σ H u h)(w:(rsvB env h).wp Q EE):
  ∃x env' W',Step env σ H B W env' σ H W' /\Cf K c env' σ H B W' /\Vw K c (hide (hd2 B W') H) H u x/\Q (x,env'):=by
 cases h with
 |d x=>exact⟨x,env,W,.refl,cf,.d hu,w⟩
 | p i π=>
   obtain⟨o,e1,w1⟩:=qC w;obtain⟨v1,Z1,R,h1,h2,h3,h4⟩:=cf.place e1;have:vE H σ i π=some u:=hu;rw[this]at h1;cases h1;cases o with
   | fz d=>
     rw[OAt.fz]at h2;have q:=h4 H B W (.fz d) Z1 (Same.refl _) h3 (fun _ _=>rfl) (OAt.fz.mpr h2) cf.nd cf.hb;exact⟨d,_,W,⟨Same.refl _,fun _ _=>rfl,fun _ z=>.inl z,fun _ z=>z,fun _ _ _=>.refl,fun j o z=>⟨qZq z,rfl⟩,qQ5⟩,q,.d h2.1,w1⟩
   | ow k os=>
     rw[OAt.ow]at h2;obtain⟨p,vs,Z',rfl,b,cc,d⟩:=h2;have lo:∀a,Z' a≠0->B a+(one p a+R a)=0:=fun a z=>by have:=cf.nd a;rw[h3,d]at this;omega
     have sm:Same (hide (hd2 B W) H) (hide (hd2 B fun a=>one p a+R a) H):=jV fun a z=>by dsimp only[hd2]at *;rw[h3,d]at z;omega
     have kd:DsAt K c (hide (hd2 B fun a=>one p a+R a) H) vs (fzOs os):=cc.dat sm fun a z=>v4 (lo a z)
     have q:=h4 H B (fun a=>one p a+R a) (.ow k (os.map fun o=>.fz (fzO o))) (one p) sm (fun _=>rfl) (fun _ _=>rfl)
      (OAt.ow.mpr ⟨p,vs,fun _=>0,rfl,b,by rw[show(os.map fun o=>O.fz (fzO o))=(fzOs os).map .fz by rw[qV9,cU];rfl,OsAt.fzs];exact⟨kd,fun _=>rfl⟩,fun _=>rfl⟩) (fun a=>by have:=cf.nd a;rw[h3,d]at this;(try dsimp only);omega) cf.hb
     refine⟨_,_,_,⟨sm,fun _ _=>rfl,fun a z=>.inl ?_,fun _ z=>z,fun _ _ _=>.refl,fun j o z=>⟨qZq z,rfl⟩,qQ5⟩,q,?_,w1⟩
     ·(try dsimp only at z);rw[h3,d];omega
     ·rw[fzO];exact .nd (b.nd rfl) kd
inductive Oe where
 |p (s:SP)|v (s:SV)
noncomputable def Oe.isP:Oe->Bool
 |.p _=>true
 |.v _=>false
noncomputable def Hn.st:Hn->Bool
 |.d _=>true
 |.p _ π=>π.isEmpty
noncomputable def oV:Oe->SV
 |.p s=>pV s
 |.v s=>s
noncomputable def evO:Oe->Ev->Res (Hn×Ev)
 |.p s,env=>(opt (s env)).bind fun h=>.ok (h,env)
 |.v s,env=>(s env).bind fun r=>.ok (.d r.1,r.2)
noncomputable def tO(K:aQ)(c:Nat->aV)(E:XK):Oe->TE
 |.p s=>tP K c s
 |.v s=>tV K c E s
structure OD(X:Cx)(c:Nat->aV)(E:XK)(e:Expr)(o:Oe):Prop where
 h:PE X e (tO X.K c E o)
structure GotH(K:aQ)(c:Nat->aV)(env:Ev)(σ:L2.St)(H:Hp)(B W:Fp)(o:Oe)(env' :Ev)(H' :Hp)(W' :Fp)(h:Hn)(u:V):Prop where
 st:Step env σ H B W env' σ H' W'
 cf:Cf K c env' σ H' B W'
 at_:HnAt K c (hide (hd2 B W') H') σ H' u h
 pu:o.isP=true->H' =H/\W' =W/\env' =env
noncomputable def jL(K:aQ)(c:Nat->aV)(F:Hp)(σ:L2.St)(H:Hp):List V->List Hn->Prop
 |[],[]=>True
 |u::us,h::hs=>HnAt K c F σ H u h/\jL K c F σ H us hs
 |_,_=>False
section
variable{K:aQ}{c:Nat->aV}{E:XK}{env env' env2:Ev}{σ σ' :L2.St}{H H' H2:Hp}{B W W' W2 Y Y2 Z:Fp}{o:Oe}{h:Hn}{u:V}{x:D}{Q:VK}
theorem qVw{w:Hn×Ev->Prop}(cf:Cf K c env σ H B W)(hw:(evO o env).wp w (erP K c E H B W))(k:∀r,w r->∀u H' W',GotH K c env σ H B W o r.2 H' W' r.1 u->Q u H'):tO K c E o σ H Q:=by
 cases o with
 | p s=>
   obtain⟨h1,e0,w1⟩:=qC hw;exact⟨env,B,W,h1,cf,e0,fun u hu=>k _ w1 u H W ⟨.refl,cf,hu,fun _=>⟨rfl,rfl,rfl⟩⟩⟩
 |v s=>exact⟨env,B,W,cf,wp_mono (fun r q u H' W' g=>k _ q u H' W' ⟨g.st,g.cf,g.at_,fun z=>by cases z⟩) (fun _ _ q=>q) (qX.mp hw)⟩
theorem HnAt.step(a:HnAt K c (hide (hd2 B W) H) σ H u h)(g:Same (hide (hd2 B W) H) (hide (hd2 B W') H'))(hs:h.st=true):HnAt K c (hide (hd2 B W') H') σ H' u h:=by
 cases h with
 |d x=>exact DAt.same g a
 | p i π=>
   cases π with
   | nil=>
     have a' :vE H σ i []=some u:=a;show vE H' σ i []=some u;unfold vE at a' ⊢;cases e:σ[i]? with
     |none=>rw[e]at a';cases a'
     | some v=>
       rw[e]at a';cases v with
       |none=>cases a'
       |some v=>simpa[walk] using a'
   |cons j π=>cases hs
theorem GotH.next{o2:Oe}{h2:Hn}{u2:V}(a:GotH K c env σ H B W o env' H' W' h u)(b:GotH K c env' σ H' B W' o2 env2 H2 W2 h2 u2)(hs:(h.st || o2.isP)=true):HnAt K c (hide (hd2 B W2) H2) σ H2 u h:=by
 cases e:h.st with
 |true=>exact a.at_.step b.st.same e
 | false=>
   rw[e]at hs;obtain⟨e1,e2,_⟩:=b.pu (by simpa using hs);subst e1 e2;exact a.at_
end
section
variable{X:Cx}{c:Nat->aV}{E:XK}{e a b:Expr}{o oa ob:Oe}
theorem od_v{s:SV}(h:EV X c E e s):OD X c E e (.v s):=⟨h.h⟩
theorem od_e{s:SE}(h:ED X c E e s):OD X c E e (.v (fzS s)):=⟨(ev_e h).h⟩
theorem OD.val(h:OD X c E e o):EV X c E e (oV o):=by
 cases o with
 |p s=>exact ev_p ⟨h.h⟩
 |v s=>exact⟨h.h⟩
theorem OD.ow(h:OD X c E e o):ED X c E e (owS (oV o)):=ed_v h.val
end
noncomputable def oC(d:D):Oe:=.p fun _=>some (.d d)
noncomputable def vJx(i:Nat):SP:=fun env=>match env[i]? with
 |some (.s _ o)=>some (hnO o i [])
 |_=>none
noncomputable def oN(i:Nat):Oe:=.p (vJx i)
section
variable{X:Cx}{c:Nat->aV}{E:XK}{e:Expr}{pos:Pos}
theorem od_c{d:D}(h:PE X e (tC v))(k:∀F,DAt X.K c F v d):OD X c E e (oC d):=by
 refine⟨PE.imp h fun σ H Q=>?_⟩;rintro⟨env,B,W,h1,cf,e0,q⟩;cases e0;exact q v (k _)
theorem qQ{i:Int}:OD X c E (.Constant (.int i) j pos) (oC (.int i)):=od_c zYv fun _=>.int i
theorem qK{x:Str}:OD X c E (.Constant (.str x) j pos) (oC (.str x)):=od_c zYr fun _=>.str x
theorem vQ4{x:Bool}:OD X c E (.Constant (.bool x) j pos) (oC (.bl x)):=od_c jQo fun _=>.bl x
theorem vK5:OD X c E (.Constant .none j pos) (oC .non):=od_c zYt fun _=>.non
theorem zQe{K:aQ}{F:Hp}{o:O}{u:V}(h:OAt K c F H o u Z)(w:vE H σ i π=some u):HnAt K c F σ H u (hnO o i π):=by
 cases o with
 |fz d=>rw[OAt.fz]at h;exact h.1
 |ow k os=>exact w
theorem zJ3(h:PE X e (tVar i)):OD X c E e (oN i):=by
 refine⟨PE.imp h fun σ H Q=>?_⟩;rintro⟨env,B,W,h1,cf,e0,q⟩;simp only[vJx]at e0;cases e1:env[i]? with
 |none=>grind
 | some s=>
   rw[e1]at e0;cases s with
   |un=>cases e0
   | s io o=>
     cases e0;obtain⟨x,Z1,R,h1,h2,h3,h4⟩:=cf.focus e1;cases x with
     |none=>exact h2.elim
     |some v=>exact⟨v,h1,q v (zQe h2 (by unfold vE;rw[h1];simp[walk]))⟩
end
noncomputable def PrS1(K:aQ)(c:Nat->aV)(r:V->Hp->VK->Prop)(f:D->Option D):Prop:=∀(u:V) (H:Hp) (x z:D) (Q:VK),DAt K c H u x->f x=some z->(∀v,(∀F,DAt K c F v z)->Q v H)->r u H Q
noncomputable def PrS2(K:aQ)(c:Nat->aV)(r:R2)(f:D->D->Option D):Prop:=∀(u w:V) (H:Hp) (x y z:D) (Q:VK),DAt K c H u x->DAt K c H w y->f x y=some z->(∀v,(∀F,DAt K c F v z)->Q v H)->r u w H Q
noncomputable def sp1(f:D->Option D)(a:SP):SP:=fun env=>(a env).bind fun h=>(rsv env h).bind fun x=>(f x).bind fun z=>some (.d z)
noncomputable def sv1(f:D->Option D)(a:Oe):SV:=fun env=>(evO a env).bind fun r=>(opt (rsv r.2 r.1)).bind fun x=>(opt (f x)).bind fun z=>.ok (z,r.2)
noncomputable def o1(f:D->Option D):Oe->Oe
 |.p s=>.p (sp1 f s)
 |a=>.v (sv1 f a)
noncomputable def sp2(f:D->D->Option D)(a b:SP):SP:=fun env=>(a env).bind fun h=>(b env).bind fun h' =>(rsv env h).bind fun x=>(rsv env h').bind fun y=>(f x y).bind fun z=>some (.d z)
noncomputable def sv2(f:D->D->Option D)(a b:Oe):SV:=fun env=>(evO a env).bind fun r=>(evO b r.2).bind fun r' =>cond (r.1.st || b.isP) ((opt (rsv r'.2 r.1)).bind fun x=>(opt (rsv r'.2 r'.1)).bind fun y=>(opt (f x y)).bind fun z=>.ok (z,r'.2)) .no
noncomputable def o2(f:D->D->Option D)(a b:Oe):Oe:=match a,b with
 |.p s,.p t=>.p (sp2 f s t)
 |a,b=>.v (sv2 f a b)
section
variable{X:Cx}{K:aQ}{c:Nat->aV}{E:XK}{e a b:Expr}{pos:Pos}{oa ob:Oe}
theorem bnd{x:Option α}{f:α->Option β}{b:β}(h:x.bind f=some b):∃a,x=some a/\f a=some b:=cC.mp h
theorem vKb{r:V->Hp->VK->Prop}{f:D->Option D}(hp:PrS1 K c r f)(h:tO K c E (o1 f oa) σ H Q):tUn r (tO K c E oa) σ H Q:=by
 cases oa with
 | p s=>
   obtain⟨env,B,W,h1,cf,e0,q⟩:=h;obtain⟨ha,e1,e2⟩:=bnd e0;obtain⟨x,e3,e4⟩:=bnd e2;obtain⟨z,e5,e6⟩:=bnd e4;cases e6;exact⟨env,B,W,ha,cf,e1,fun u hu=>hp u H x z Q (xZ cf hu e3) e5 fun v hv=>q v (hv _)⟩
 | v s=>
   obtain⟨env,B,W,cf,w⟩:=h;refine qVw (o:=.v s) cf (qX.mp w) fun r w1 u H' W' g=>?_
   obtain⟨x,e3,w2⟩:=qC w1;obtain⟨z,e5,w3⟩:=qC w2;exact hp u H' x z Q (xZ g.cf g.at_ e3) e5 fun v hv=>w3 v H' W' ⟨g.st,g.cf,hv _⟩
theorem vKu{r:R2}{f:D->D->Option D}(hp:PrS2 K c r f)(h:tV K c E (sv2 f oa ob) σ H Q):tOp r (tO K c E oa) (tO K c E ob) σ H Q:=by
 obtain⟨env,B,W,cf,w⟩:=h;refine qVw cf (qX.mp w) fun r1 w1 u H1 W1 g1=>?_
 refine qVw g1.cf (wp_mono (fun _ q=>q) (fun C fs he=>he.back g1.st) (qX.mp w1)) fun r2 w2 v H2 W2 g2=>?_
 obtain⟨hs,w3⟩:=zE w2;obtain⟨x,e3,w4⟩:=qC w3;obtain⟨y,e4,w5⟩:=qC w4;obtain⟨z,e5,w6⟩:=qC w5;exact hp u v H2 x y z Q (xZ g2.cf (g1.next g2 hs) e3) (xZ g2.cf g2.at_ e4) e5 fun v hv=>w6 v H2 W2 ⟨g1.st.trans g2.st,g2.cf,hv _⟩
theorem vKa{r:R2}{f:D->D->Option D}(hp:PrS2 K c r f)(h:tO K c E (o2 f oa ob) σ H Q):tOp r (tO K c E oa) (tO K c E ob) σ H Q:=by
 cases oa with
 |v s=>exact vKu hp h
 | p s=>
   cases ob with
   |v t=>exact vKu hp h
   | p t=>
     obtain⟨env,B,W,h1,cf,e0,q⟩:=h;obtain⟨ha,e1,e2⟩:=bnd e0;obtain⟨hb,e3,e4⟩:=bnd e2;obtain⟨x,e5,e6⟩:=bnd e4;obtain⟨y,e7,e8⟩:=bnd e6;obtain⟨z,e9,e10⟩:=bnd e8;cases e10;exact⟨env,B,W,ha,cf,e1,fun u hu=>⟨env,B,W,hb,cf,e3,fun w hw=>hp u w H x y z Q (xZ cf hu e5) (xZ cf hw e7) e9 fun v hv=>q v (hv _)⟩⟩
theorem jQw{op:UnaryOp}{r:V->Hp->VK->Prop}{f:D->Option D}(ho:UnR X (unaryOp op) r)(hp:PrS1 X.K c r f)(ha:OD X c E a oa):OD X c E (.UnaryOp op a pos) (o1 f oa):=
 ⟨PE.imp (jQl ho ha.h) fun _ _ _ h=>vKb hp h⟩
theorem qY6{r:R2}{f:D->D->Option D}(ho:OpR X (binaryOp op) r)(hp:PrS2 X.K c r f)(ha:OD X c E a oa)(hb:OD X c E b ob):OD X c E (.BinOp a op b pos) (o2 f oa ob):=
 ⟨PE.imp (zXa ho ha.h hb.h) fun _ _ _ h=>vKa hp h⟩
theorem vK6{op:CmpOp}{r:R2}{f:D->D->Option D}(ho:OpR X (cV op) r)(hp:PrS2 X.K c r f)(ha:OD X c E a oa)(hb:OD X c E b ob)(hm:behindInMarks op b=false):OD X c E (.Compare a [op] [b] pos) (o2 f oa ob):=
 ⟨PE.imp (zJs ho ha.h hb.h hm) fun _ _ _ h=>vKa hp h⟩
end
noncomputable abbrev ST:=Ev->Res (Bool×Ev)
noncomputable def tT(K:aQ)(c:Nat->aV)(E:XK)(s:ST):TT:=fun σ H Q=>∃env B W,Cf K c env σ H B W/\(s env).wp (fun r=>∀H' W',Step env σ H B W r.2 σ H' W' ->Cf K c r.2 σ H' B W' ->Q r.1 H') (erP K c E H B W)
structure TD(X:Cx)(c:Nat->aV)(E:XK)(e:Expr)(s:ST):Prop where
 h:PT X e (tT X.K c E s)
structure WD(X:Cx)(c:Nat->aV)(E:XK)(e:Expr)(s:ST):Prop where
 h:PW X e (tT X.K c E s)
theorem PT.imp{t:TT}(h:PT X e t)(k:∀σ H Q,t' σ H Q->t σ H Q):PT X e t' :=fun pins s σ H Q I q=>h pins s σ H Q I (k σ H Q q)
theorem PW.imp{t:TT}(h:PW X e t)(k:∀σ H Q,t' σ H Q->t σ H Q):PW X e t' :=fun wh pins s σ H Q I q=>h wh pins s σ H Q I (k σ H Q q)
noncomputable def blOf:D->Option Bool
 |.bl b=>some b
 |_=>none
theorem zW0{K:aQ}{F:Hp}{u:V}{x:D}{b:Bool}(h:DAt K c F u x)(e:blOf x=some b):u=.bl b:=by
 cases h <;> cases e
 rfl
noncomputable def asB(o:Oe):ST:=fun env=>(oV o env).bind fun r=>(opt (blOf r.1)).bind fun b=>.ok (b,r.2)
theorem vKt{K:aQ}{o:Oe}(h:tV K c E (oV o) σ H Q):tO K c E o σ H Q:=by
 cases o with
 |v s=>exact h
 | p s=>
   obtain⟨env,B,W,cf,w⟩:=h;obtain⟨h1,e0,w1⟩:=qC w;refine⟨env,B,W,h1,cf,e0,fun u hu=>?_⟩;obtain⟨x,env',W',g,q⟩:=vZt cf hu w1;grind
theorem vY9{K:aQ}{o:Oe}{Q:Bool->Hp->Prop}(h:tT K c E (asB o) σ H Q):tO K c E o σ H fun x H1=>∃k,x=.bl k/\Q k H1:=by
 obtain⟨env,B,W,cf,w⟩:=h;refine vKt ⟨env,B,W,cf,wp_mono (fun r1 h1 u H1 W1 g=>?_) (fun _ _ he=>he) (qX.mp w)⟩;obtain⟨b,e1,h2⟩:=qC h1;exact⟨b,zW0 g.at_ e1,h2 H1 W1 g.st g.cf⟩
section
variable{X:Cx}{c:Nat->aV}{E:XK}{e a b d:Expr}{rest:List Expr}{pos:Pos}{sa sb:ST}{oa ob oc:Oe}{o:Oe}
theorem qVz(h:OD X c E e o)(he:∀whole,isTrue e X.env whole=(do let v ←whole;standAt e.pos;holding [v] (truthy v)):=by intro _;rfl):TD X c E e (asB o):=
 ⟨PT.imp (zYb h.h he) fun _ _ _ h=>vY9 h⟩
theorem qVa{op:CmpOp}{r:R2}{f:D->D->Option D}(ho:OpR X (cV op) r)(hp:PrS2 X.K c r f)(ha:OD X c E a oa)(hb:OD X c E b ob)(hm:behindInMarks op b=false):TD X c E (.Compare a [op] [b] pos) (asB (o2 f oa ob)):=
 ⟨PT.imp (zJa ho ha.h hb.h hm) fun _ _ _ h=>vKa hp (vY9 h)⟩
noncomputable def bAnd(s t:ST):ST:=fun env=>(s env).bind fun r=>cond r.1 (t r.2) (.ok (false,r.2))
noncomputable def bOr(s t:ST):ST:=fun env=>(s env).bind fun r=>cond r.1 (.ok (true,r.2)) (t r.2)
noncomputable def bNot(s:ST):ST:=fun env=>(s env).bind fun r=>.ok (!r.1,r.2)
theorem td_w(h:WD X c E e sa):TD X c E e sa:=⟨PW.pt h.h⟩
theorem qZo(h:TD X c E a sa):WD X c E (.BoolOp .And [a] pos) sa:=⟨zZ7 h.h⟩
theorem qK3(h:TD X c E a sa):WD X c E (.BoolOp .Or [a] pos) sa:=⟨zX9 h.h⟩
theorem vWa{K:aQ}{s:ST}{Q:Bool->Hp->Prop}(st:Step env σ H B W env' σ' H' W')(cf:Cf K c env' σ' H' B W')(h:(s env').wp (fun r=>∀H2 W2,Step env σ H B W r.2 σ' H2 W2->Cf K c r.2 σ' H2 B W2->Q r.1 H2) (erP K c E H B W)):tT K c E s σ' H' Q:=
 ⟨env',B,W',cf,wp_mono (fun r q H2 W2 st2 cf2=>q H2 W2 (st.trans st2) cf2) (fun C fs he=>he.back st) h⟩
theorem qJ2(ha:TD X c E a sa)(hb:WD X c E (.BoolOp .And (b::rest) pos) sb):WD X c E (.BoolOp .And (a::b::rest) pos) (bAnd sa sb):=by
 refine⟨PW.imp (zYa ha.h hb.h) fun σ H Q=>?_⟩;rintro⟨env,B,W,cf,w⟩;refine⟨env,B,W,cf,wp_mono (fun r1 h1 H1 W1 st1 cf1=>?_) (fun _ _ he=>he) (qX.mp w)⟩;obtain⟨k,e1⟩:=r1;cases k with
 |false=>exact h1 H1 W1 st1 cf1
 |true=>exact vWa st1 cf1 h1
theorem qJf(ha:TD X c E a sa)(hb:WD X c E (.BoolOp .Or (b::rest) pos) sb):WD X c E (.BoolOp .Or (a::b::rest) pos) (bOr sa sb):=by
 refine⟨PW.imp (jQh ha.h hb.h) fun σ H Q=>?_⟩;rintro⟨env,B,W,cf,w⟩;refine⟨env,B,W,cf,wp_mono (fun r1 h1 H1 W1 st1 cf1=>?_) (fun _ _ he=>he) (qX.mp w)⟩;obtain⟨k,e1⟩:=r1;cases k with
 |true=>exact h1 H1 W1 st1 cf1
 |false=>exact vWa st1 cf1 h1
theorem zXu(ha:TD X c E a sa):TD X c E (.UnaryOp .Not a pos) (bNot sa):=by
 refine⟨PT.imp (zYc ha.h) fun σ H Q=>?_⟩;rintro⟨env,B,W,cf,w⟩;exact⟨env,B,W,cf,wp_mono (fun r1 h1=>h1) (fun _ _ he=>he) (qX.mp w)⟩
end
section
variable{X:Cx}{c:Nat->aV}{E:XK}{e a b d:Expr}{rest:List Expr}{pos:Pos}{sa sb:ST}{oa ob oc:Oe}{o:Oe}
noncomputable def oOr(s t:Oe):Oe:=.v fun env=>(asB s env).bind fun r=>cond r.1 (.ok (.bl true,r.2)) (oV t r.2)
theorem zZu{K:aQ}{s:SV}(st:Step env σ H B W env' σ H' W')(cf:Cf K c env' σ H' B W')(h:(s env').wp (fun r=>∀u H2 W2,GotD K c env σ H B W r.2 H2 W2 r.1 u->Q u H2) (erP K c E H B W)):tV K c E s σ H' Q:=
 ⟨env',B,W',cf,wp_mono (fun r q u H2 W2 g=>q u H2 W2 ⟨st.trans g.st,g.cf,g.at_⟩) (fun C fs he=>he.back st) h⟩
theorem zY7{op}(h:OD X c E a o):OD X c E (.BoolOp op [a] pos) o:=⟨zYs h.h⟩
theorem jQx(ha:OD X c E a oa)(hb:OD X c E (.BoolOp .Or (b::rest) pos) ob):OD X c E (.BoolOp .Or (a::b::rest) pos) (oOr oa ob):=by
 refine⟨PE.imp (jQm ha.h hb.h) fun σ H Q=>?_⟩;rintro⟨env,B,W,cf,w⟩;refine vY9 (Q:=fun k H1=>if k=true then Q (.bl true) H1 else tO X.K c E ob σ H1 Q) ⟨env,B,W,cf,wp_mono (fun r1 h1 H1 W1 st1 cf1=>?_) (fun _ _ he=>he) (qX.mp w)⟩;obtain⟨k,e1⟩:=r1;cases k with
 |true=>exact h1 _ H1 W1 ⟨st1,cf1,.bl true⟩
 |false=>exact vKt (zZu st1 cf1 h1)
theorem Got.back{K:aQ}{env2:Ev}{H2:Hp}{W2:Fp}{o:O}{u:V}(st:Step env σ H B W env' σ H' W')(g:Got K c env' σ H' B W' env2 H2 W2 Z o u):Got K c env σ H B W env2 H2 W2 Z o u:=⟨st.trans g.st,g.cf,g.at_⟩
end
noncomputable def fidx(f:Str):List Str->Option Nat
 |[]=>none
 |g::r=>if f=g then some 0 else(fidx f r).map (· + 1)
theorem qVl{f:Str}:∀{fs:List Str} {vs:List V} {j:Nat} {v:V},fidx f fs=some j->vs[j]?=some v->(fs.zip vs).lookup f=some v
 |[],vs,j,v,h,e=>by cases h
 |g::r,[],j,v,h,e=>by simp at e
 | g::r,w::vs,j,v,h,e=>by
   rw[bP];simp only[fidx]at h;by_cases q:f=g
   ·rw [if_pos q] at h;cases h;cases e;rw[List.lookup,show(f == g)=true by rw[q];exact beq_self_eq_true _]
   ·rw [if_neg q] at h;obtain⟨i,h1,rfl⟩:=bZ.mp h;rw[List.lookup,show(f == g)=false from beq_eq_false_iff_ne.mpr q];exact qVl h1 (by simpa using e)
noncomputable def kidx{κ:Type}[DecidableEq κ](k:κ):List κ->Option Nat
 |[]=>none
 |g::r=>if g=k then some 0 else(kidx k r).map (· + 1)
theorem qV3{k:Key}:∀{ks:List Key} {vs:List V},ks.length=vs.length->valV (ks.zip vs) k=(kidx k ks).bind fun j=>vs[j]?
 |[],[],_=>rfl
 | g::r,w::vs,h=>by
   rw[bP];simp only[kidx];by_cases q:g=k
   ·rw[if_pos q,qJr q];rfl
   ·rw [if_neg q,qJs q,qV3 (Nat.succ.inj h)];cases kidx k r with
    |none=>rfl
    |some i=>rfl
 |[],_::_,h=>by cases h
 |_::_,[],h=>by cases h
theorem vQh[DecidableEq κ]{k:κ}:∀{ks:List κ} {j:Nat},kidx k ks=some j->j<ks.length/\ks[j]?=some k
 |[],j,h=>by cases h
 | g::r,j,h=>by
   simp only[kidx]at h;by_cases q:g=k
   ·rw[if_pos q]at h;cases h;exact⟨Nat.succ_pos _,by rw[q];rfl⟩
   ·rw [if_neg q] at h;obtain⟨i,h1,rfl⟩:=bZ.mp h;obtain⟨h2,h3⟩:=vQh h1;exact⟨Nat.succ_lt_succ h2,by simpa using h3⟩
theorem qKb:∀{π:List Nat} {v u w:V} {j:Nat},walk H v π=some u->walk H u [j]=some w->walk H v (π ++ [j])=some w
 | [],v,u,w,j,h,k=>by
   have:v=u:=by cases v <;> simpa[walk] using h
   rw[this];exact k
 | i::π,v,u,w,j,h,k=>by
   cases v with
   | ref p=>
     rw[List.cons_append];simp only[walk]at h⊢;cases e:H p with
     |none=>rw[e]at h;cases h
     | some o=>
       rw[e]at h;dsimp only at h⊢;cases e2:(kids o)[i]? with
       |none=>rw[e2]at h;cases h
       | some v=>
         rw[e2]at h;exact qKb h k
   |_=>cases h
theorem vZ0{u w:V}(h:vE H σ i π=some u)(k:walk H u [j]=some w):vE H σ i (π ++ [j])=some w:=by
 unfold vE at h⊢;cases e:σ[i]? with
 |none=>rw[e]at h;cases h
 | some x=>
   rw[e]at h;cases x with
   |none=>cases h
   |some v=>exact qKb h k
theorem zQa{K:aQ}{F:Hp}{k:Kd}{os:List O}{o:O}{p:aV}(w:vE H σ i π=some (.ref p))(b:OwAt c H p k vs)(r:OsAt K c F H os vs Z)(e:os[j]?=some o):
  ∃v,vs[j]?=some v/\HnAt K c F σ H v (hnO o i (π ++ [j])):=by
 obtain⟨v,Z1,R,h1,h2,h3,h4⟩:=r.focus e;obtain⟨ho,k1,k2⟩:=b.kids;refine⟨v,h1,zQe h2 (vZ0 w ?_)⟩;rw[qWa k1 (by rw[k2];exact h1)];simp[walk]
noncomputable def fldD(cs:List Nat)(f:Str):D->Option D
 |.nd (.obj C fs) ds=>cond (cs.contains C) ((fidx f fs).bind fun j=>ds[j]?) none
 |_=>none
noncomputable def zXk(env:Ev)(cs:List Nat)(f:Str):Hn->Option Hn
 |.d x=>(fldD cs f x).map .d
 | .p i π=>match getE env i π with
   |some (.ow (.obj C fs) os)=>cond (cs.contains C) ((fidx f fs).bind fun j=>(os[j]?).bind fun o=>some (hnO o i (π ++ [j]))) none
   |_=>none
noncomputable def oFld(cs:List Nat)(f:Str):Oe->Oe
 |.p s=>.p fun env=>(s env).bind (zXk env cs f)
 |.v s=>.v fun env=>(s env).bind fun r=>(opt (fldD cs f r.1)).bind fun x=>.ok (x,r.2)
noncomputable def yQ(K:aQ)(c:Nat->aV)(cs:List Nat)(f:Str):Prop:=∀C∈cs,Cls K (c C)/\yX K (c C) f
theorem wD{b:Bool}{x:Option α}{y:α}(h:cond b x none=some y):b=true/\x=some y:=by
 cases b with
 |true=>exact⟨rfl,h⟩
 |false=>cases h
theorem qXh{cs:List Nat}(h:cs.contains C=true):C∈cs:=List.contains_iff_mem.mp h
section
variable{X:Cx}{K:aQ}{c:Nat->aV}{E:XK}{e a b:Expr}{pos:Pos}{o oa ob:Oe}{f:Str}{cs:List Nat}
theorem vW4{F:Hp}{u:V}{x y:D}(ok:yQ K c cs f)(h:DAt K c F u x)(e:fldD cs f x=some y):∃a C dx fs v,u=.ref a/\F a=some (.ins C dx fs)/\Cls K C/\yX K C f/\fs.lookup f=some v/\DAt K c F v y:=by
 unfold fldD at e;split at e
 ·rename_i C fs ds;obtain⟨q1,q2⟩:=wD e;obtain⟨j,e1,e2⟩:=bnd q2;obtain⟨p,vs,rfl,⟨h1,dx,h2⟩,h3⟩:=h.un;obtain⟨v,g1,g2⟩:=h3.get e2;obtain⟨k1,k2⟩:=ok C (qXh q1);exact⟨p,_,dx,_,v,rfl,h2,k1,k2,qVl e1 g1,g2⟩
 ·cases e
theorem jC(ok:yQ X.K c cs f)(h:OD X c E e o)(hb:attributeBase e f X.env (eval e X.env)=eval e X.env:=by rfl):OD X c E (.Attribute e f pos) (oFld cs f o):=by
 refine⟨PE.imp (zYw h.h hb) fun σ H Q q=>?_⟩;cases o with
 | p s=>
   obtain⟨env,B,W,h1,cf,e0,q⟩:=q;obtain⟨h0,e1,e2⟩:=bnd e0;refine⟨env,B,W,h0,cf,e1,fun u hu=>?_⟩;cases h0 with
   | d x=>
     obtain⟨y,e3,rfl⟩:=bZ.mp e2;obtain⟨a,C,dx,fs,v,rfl,r1,r2,r3,r4,r5⟩:=vW4 ok hu e3;exact⟨a,C,dx,fs,v,rfl,vK _ _ r1,r2,r3,r4,q v r5⟩
   | p i π=>
     have hu' :vE H σ i π=some u:=hu;simp only[zXk]at e2;cases e3:getE env i π with
     |none=>rw[e3]at e2;cases e2
     | some o1=>
       rw[e3]at e2;cases o1 with
       |fz d=>cases e2
       | ow k os=>
         cases k with
         | obj C fs=>
           obtain⟨q1,q2⟩:=wD e2;obtain⟨j,e4,e5⟩:=bnd q2;obtain⟨o2,e6,e7⟩:=bnd e5;cases e7;obtain⟨v1,Z1,R,w1,w2,w3,w4⟩:=cf.place e3;rw[hu']at w1;cases w1;rw[OAt.ow]at w2;obtain⟨p,vs,Z',rfl,b,cc,d⟩:=w2;obtain⟨v,g1,g2⟩:=zQa hu' b cc e6;obtain⟨b1,dx,b2⟩:=b;obtain⟨k1,k2⟩:=ok C (qXh q1);exact⟨p,_,dx,_,v,rfl,b2,k1,k2,qVl e4 g1,q v g2⟩
         |_=>cases e2
 | v s=>
   obtain⟨env,B,W,cf,w⟩:=q;refine⟨env,B,W,cf,wp_mono (fun r w1 u H1 W1 g=>?_) (fun _ _ he=>he) (qX.mp w)⟩;obtain⟨y,e3,w2⟩:=qC w1;obtain⟨a,C,dx,fs,v,rfl,r1,r2,r3,r4,r5⟩:=vW4 ok g.at_ e3;exact⟨a,C,dx,fs,v,rfl,vK _ _ r1,r2,r3,r4,w2 v H1 W1 ⟨g.st,g.cf,r5⟩⟩
end
noncomputable def qWu:D->Option Key
 |.int i=>some (.inl i)
 |.str x=>some (.inr x)
 |_=>none
theorem qJu{K:aQ}{F:Hp}{u:V}{x:D}{k:Key}(h:DAt K c F u x)(e:qWu x=some k):u=kV k:=by
 cases h <;> cases e <;> rfl
noncomputable def yR:D->Option Int
 |.int i=>some i
 |_=>none
theorem jF{K:aQ}{F:Hp}{u:V}{x:D}{i:Int}(h:DAt K c F u x)(e:yR x=some i):u=.int i:=by
 cases h <;> cases e <;> rfl
noncomputable def zW6:D->Option Str
 |.str i=>some i
 |_=>none
theorem vVi{K:aQ}{F:Hp}{u:V}{x:D}{i:Str}(h:DAt K c F u x)(e:zW6 x=some i):u=.str i:=by
 cases h <;> cases e <;> rfl
noncomputable def idxK(n:Nat)(y:D):Kd->Option Nat
 |.lst =>(yR y).bind fun i=>ixN n i
 |.tup =>(yR y).bind fun i=>ixN n i
 |.dct ks=>(qWu y).bind fun k=>kidx k ks
 |_=>none
noncomputable def ixD(x y:D):Option D:=match x with
 |.nd k ds=>(idxK ds.length y k).bind fun j=>ds[j]?
 |.str z=>(yR y).bind fun i=>(atI z.cps.toList i).bind fun ch=>cond (decide (z.length<=aR)) (some (.str ⟨#[ch]⟩)) none
 |_=>none
noncomputable def hnIx(env:Ev)(y:D):Hn->Option Hn
 |.d x=>(ixD x y).map .d
 | .p i π=>match getE env i π with
   |some (.ow k os)=>(idxK os.length y k).bind fun j=>(os[j]?).bind fun o=>some (hnO o i (π ++ [j]))
   |_=>none
noncomputable def oIx(a b:Oe):Oe:=match a,b with
 |.p s,.p t=>.p fun env=>(s env).bind fun h=>(t env).bind fun h' =>(rsv env h').bind fun y=>hnIx env y h
 |a,b=>.v fun env=>(evO a env).bind fun r=>(evO b r.2).bind fun r' =>cond r.1.st ((opt (rsv r'.2 r'.1)).bind fun y=>(opt (hnIx r'.2 y r.1)).bind fun h=>hnV r'.2 h) .no
noncomputable def rDGet:R2:=fun x y H Q=>∃a v,x=.ref a/\DGet H a y (some v)/\Q v H
theorem zJ8(hu:X.A.units+1<dF):IxR X rDGet:=by
 intro value slice pins s σ H x y v u Q I rx ry h hs;obtain⟨a,z,rfl,g,q⟩:=h;cases rx;exact tail_any (vZg I g) PySem.F.slot_dict_getitem.lookup (vY0 hu I g ry fun w' s3 I3 rw' =>⟨z,H,I3,rw',q⟩) hs
noncomputable def rIxA(K:aQ):R2:=fun x y H Q=>rIx K x y H Q\/rDGet x y H Q
theorem zKk(hu:X.A.units+1<dF):IxR X (rIxA X.K):=zKi.or (zJ8 hu)
section
variable{X:Cx}{K:aQ}{c:Nat->aV}{E:XK}{e a b:Expr}{pos:Pos}{o oa ob:Oe}
theorem zQk{xs:List α}{i:Int}{v:α}(h:ixN xs.length i=some j)(e:xs[j]?=some v):atI xs i=some v:=by
 unfold atI;rw[h];exact e
theorem vZv{a:aV}{kvs:List (Key×V)}{k:Key}(e:Rd H a (.dK kvs)):DGet H a (kV k) (valV kvs k):=.inl ⟨kvs,k,e,rfl,rfl⟩
theorem zXh{p:aV}{w:V}{k:Kd}{y:D}(h:NdAt K c H p k vs)(hn:vs.length=n)(hy:DAt K c H w y)(e:idxK n y k=some j)(ev:vs[j]?=some v)(q:Q v H):rIxA K (.ref p) w H Q:=by
 subst hn;cases k with
 | lst=>
   obtain⟨i,e1,e2⟩:=bnd e;exact .inl (.inl ⟨p,vs,i,v,rfl,jF hy e1,h,zQk e2 ev,q⟩)
 | tup=>
   obtain⟨i,e1,e2⟩:=bnd e;exact .inl (.inr (.inl ⟨p,vs,i,v,rfl,jF hy e1,h,zQk e2 ev,q⟩))
 | dct ks=>
   obtain⟨k,e1,e2⟩:=bnd e;refine .inr ⟨p,v,rfl,?_,q⟩;rw[qJu hy e1];have:=vZv (k:=k) h.2.2;rw[qV3 h.1,e2]at this;rw[←ev];exact this
 |_=>cases e
theorem zKn{F:Hp}{u w:V}{x y z:D}(s:Same F H)(h:DAt K c F u x)(hy:DAt K c H w y)(e:ixD x y=some z)(q:∀v,DAt K c F v z->Q v H):rIxA K u w H Q:=by
 unfold ixD at e;split at e
 ·obtain⟨j,e1,e2⟩:=bnd e;obtain⟨p,vs,rfl,h1,h2⟩:=h.un;obtain⟨v,g1,g2⟩:=h2.get e2;exact zXh (h1.same s) h2.len hy e1 g1 (q v g2)
 ·rename_i z';obtain⟨i,e1,e2⟩:=bnd e;obtain⟨ch,e3,e4⟩:=bnd e2;obtain⟨q1,q2⟩:=wD e4;cases q2;exact .inl (.inr (.inr ⟨z',i,ch,vVi h rfl,jF hy e1,of_decide_eq_true q1,e3,q _ (.str _)⟩))
 ·cases e
theorem vW0{h h' :Hn}{u w:V}{y:D}(cf:Cf K c env σ H B W)(hu:HnAt K c (hide (hd2 B W) H) σ H u h)(hy:DAt K c H w y)(e:hnIx env y h=some h')(q:∀v,HnAt K c (hide (hd2 B W) H) σ H v h' ->Q v H):rIxA K u w H Q:=by
 cases h with
 | d x=>
   obtain⟨z,e1,rfl⟩:=bZ.mp e;exact zKn vK hu hy e1 q
 | p i π=>
   have hu' :vE H σ i π=some u:=hu;simp only[hnIx]at e;cases e3:getE env i π with
   |none=>rw[e3]at e;cases e
   | some o1=>
     rw[e3]at e;cases o1 with
     |fz d=>cases e
     | ow k os=>
       obtain⟨j,e4,e5⟩:=bnd e;obtain⟨o2,e6,e7⟩:=bnd e5;cases e7;obtain⟨v1,Z1,R,w1,w2,w3,w4⟩:=cf.place e3;rw[hu']at w1;cases w1;rw[OAt.ow]at w2;obtain⟨p,vs,Z',rfl,b,cc,d⟩:=w2;obtain⟨v,g1,g2⟩:=zQa hu' b cc e6;exact zXh (b.nd rfl) cc.length hy e4 g1 (q v g2)
theorem vWc(h:tV K c E (fun env=>(evO oa env).bind fun r=>(evO ob r.2).bind fun r' =>cond r.1.st ((opt (rsv r'.2 r'.1)).bind fun y=>(opt (hnIx r'.2 y r.1)).bind fun h=>hnV r'.2 h) .no) σ H Q):tOp (rIxA K) (tO K c E oa) (tO K c E ob) σ H Q:=by
 obtain⟨env,B,W,cf,w⟩:=h;refine qVw cf (qX.mp w) fun r1 w1 u H1 W1 g1=>?_
 refine qVw g1.cf (wp_mono (fun _ q=>q) (fun C fs he=>he.back g1.st) (qX.mp w1)) fun r2 w2 v H2 W2 g2=>?_
 obtain⟨hs,w3⟩:=zE w2;obtain⟨y,e3,w4⟩:=qC w3;obtain⟨h',e4,w5⟩:=qC w4;refine vW0 g2.cf (g1.next g2 (by rw[hs];rfl)) (xZ g2.cf g2.at_ e3) e4 fun z hz=>?_
 obtain⟨x,env',W',g,q⟩:=vZt g2.cf hz w5;exact q z H2 W' ⟨(g1.st.trans g2.st).trans g.st,g.cf,g.at_⟩
theorem jQy(hu:X.A.units+1<dF)(ha:OD X c E a oa)(hb:OD X c E b ob)(hs:qXm b:=by exact fun _ _=>rfl):OD X c E (.Subscript a b pos) (oIx oa ob):=by
 refine⟨PE.imp (jQn (zKk hu) ha.h hb.h hs) fun σ H Q h=>?_⟩;cases oa with
 |v s=>exact vWc h
 | p s=>
   cases ob with
   |v t=>exact vWc h
   | p t=>
     obtain⟨env,B,W,h1,cf,e0,q⟩:=h;obtain⟨h0,e1,e2⟩:=bnd e0;obtain⟨h2,e3,e4⟩:=bnd e2;obtain⟨y,e5,e6⟩:=bnd e4;exact⟨env,B,W,h0,cf,e1,fun u hu=>⟨env,B,W,h2,cf,e3,fun w hw=>vW0 cf hu (xZ cf hw e5) e6 q⟩⟩
end
noncomputable def evOs:List Oe->Ev->Res (List Hn×Ev)
 |[],env=>.ok ([],env)
 |o::os,env=>(evO o env).bind fun r=>cond (r.1.st || os.all Oe.isP) ((evOs os r.2).bind fun r' =>.ok (r.1::r'.1,r'.2)) .no
noncomputable def tOs(K:aQ)(c:Nat->aV)(E:XK):List Oe->TA
 |[]=>tNil
 |o::os=>qY3 (tO K c E o) (tOs K c E os)
structure OsD(X:Cx)(c:Nat->aV)(E:XK)(es:List Expr)(os:List Oe):Prop where
 h:PA X es (tOs X.K c E os)
theorem qN:OsD X c E [] []:=⟨qZ6⟩
theorem jQ{es:List Expr}{o:Oe}{os:List Oe}(ha:OD X c E e o)(hr:OsD X c E es os)(hs:aX (e::es) X.env=(false,eval e X.env)::aX es X.env:=by rfl):OsD X c E (e::es) (o::os):=⟨qQn ha.h hr.h hs⟩
structure GotHs(K:aQ)(c:Nat->aV)(env:Ev)(σ:L2.St)(H:Hp)(B W:Fp)(os:List Oe)(env' :Ev)(H' :Hp)(W' :Fp)(hs:List Hn)(us:List V):Prop where
 st:Step env σ H B W env' σ H' W'
 cf:Cf K c env' σ H' B W'
 at_:jL K c (hide (hd2 B W') H') σ H' us hs
 pu:os.all Oe.isP=true->H' =H/\W' =W/\env' =env
section
variable{K:aQ}{c:Nat->aV}{E:XK}
theorem qVb:∀{os:List Oe} {env:Ev} {σ:L2.St} {H:Hp} {B W:Fp} {Q:List V->Hp->Prop} {w:List Hn×Ev->Prop},Cf K c env σ H B W->(evOs os env).wp w (erP K c E H B W)->(∀r,w r->∀us H' W',GotHs K c env σ H B W os r.2 H' W' r.1 us->Q us H')->tOs K c E os σ H Q
 |[],env,σ,H,B,W,Q,w,cf,hw,k=>k _ hw [] H W ⟨.refl,cf,trivial,fun _=>⟨rfl,rfl,rfl⟩⟩
 | o::os,env,σ,H,B,W,Q,w,cf,hw,k=>by
   refine qVw cf (qX.mp hw) fun r w1 u H1 W1 g1=>?_
   obtain⟨hs,w2⟩:=zE w1;refine qVb g1.cf (wp_mono (fun _ q=>q) (fun C fs he=>he.back g1.st) (qX.mp w2)) fun r' w3 us H2 W2 g2=>?_
   refine k _ w3 (u::us) H2 W2 ⟨g1.st.trans g2.st,g2.cf,⟨?_,g2.at_⟩,fun z=>?_⟩
   ·cases e:r.1.st with
    |true=>exact g1.at_.step g2.st.same e
    | false=>
      rw[e]at hs;obtain⟨e1,e2,_⟩:=g2.pu (by simpa using hs);rw[e1,e2];exact g1.at_
   ·rw [dP,aP] at z;obtain⟨a1,a2,a3⟩:=g1.pu z.1;obtain⟨b1,b2,b3⟩:=g2.pu z.2;grind
noncomputable def rsvs(env:Ev):List Hn->Option (List D)
 |[]=>some []
 |h::hs=>(rsv env h).bind fun x=>(rsvs env hs).bind fun xs=>some (x::xs)
theorem vWi(cf:Cf K c env σ H B W):∀{hs:List Hn} {us:List V} {xs:List D},jL K c (hide (hd2 B W) H) σ H us hs->rsvs env hs=some xs->DsAt K c H us xs
 |[],[],xs,_,e=>by cases e;exact .nil
 | h::hs,u::us,xs,a,e=>by
   obtain⟨x,e1,e2⟩:=bnd e;obtain⟨ys,e3,e4⟩:=bnd e2;cases e4;exact .cons (xZ cf a.1 e1) (vWi cf a.2 e3)
 |[],_::_,_,a,_=>a.elim
 |_::_,[],_,a,_=>a.elim
noncomputable def qQ2:List Hn->Ev->Res (List D×Ev)
 |[],env=>.ok ([],env)
 |h::hs,env=>(rsvB env h).bind fun r=>(qQ2 hs r.2).bind fun r' =>.ok (r.1::r'.1,r'.2)
noncomputable def Vws(K:aQ)(c:Nat->aV)(F H:Hp):List V->List D->Prop
 |[],[]=>True
 |u::us,x::xs=>Vw K c F H u x/\Vws K c F H us xs
 |_,_=>False
theorem HnAt.mono{F:Hp}{u:V}{h:Hn}(a:HnAt K c F σ H u h)(s:Same F F'):HnAt K c F' σ H u h:=by
 cases h with
 |d x=>exact DAt.same s a
 |p i π=>exact a
theorem jL.mono{F:Hp}(s:Same F F'):∀{us:List V} {hs:List Hn},jL K c F σ H us hs->jL K c F' σ H us hs
 |[],[],_=>trivial
 |u::us,h::hs,a=>⟨a.1.mono s,jL.mono s a.2⟩
 |[],_::_,a=>a.elim
 |_::_,[],a=>a.elim
theorem rsvBs_wp{EE:Nat->List (Str×D)->Prop}:∀{hs:List Hn} {us:List V} {env:Ev} {σ:L2.St} {H:Hp} {B W:Fp} {Q:List D×Ev->Prop},Cf K c env σ H B W->jL K c (hide (hd2 B W) H) σ H us hs->(qQ2 hs env).wp Q EE->
  ∃xs env' W',Step env σ H B W env' σ H W' /\Cf K c env' σ H B W' /\Vws K c (hide (hd2 B W') H) H us xs/\Q (xs,env')
 |[],[],env,σ,H,B,W,Q,cf,_,w=>⟨[],env,W,.refl,cf,trivial,w⟩
 | h::hs,u::us,env,σ,H,B,W,Q,cf,a,w=>by
   obtain⟨x,env1,W1,st1,cf1,v1,w1⟩:=vWj cf a.1 (qX.mp w);obtain⟨xs,env2,W2,st2,cf2,v2,w2⟩:=rsvBs_wp cf1 (jL.mono st1.same a.2) (qX.mp w1);exact⟨x::xs,env2,W2,st1.trans st2,cf2,⟨v1.same st2.same,v2⟩,w2⟩
 |[],_::_,_,_,_,_,_,_,_,a,_=>a.elim
 |_::_,[],_,_,_,_,_,_,_,a,_=>a.elim
end
noncomputable def PrSN(K:aQ)(c:Nat->aV)(r:List V->Hp->VK->Prop)(f:List D->Option D):Prop:=∀(us:List V) (H:Hp) (xs:List D) (z:D) (Q:VK),DsAt K c H us xs->f xs=some z->(∀v,(∀F,DAt K c F v z)->Q v H)->r us H Q
noncomputable def svN(f:List D->Option D)(os:List Oe):SV:=fun env=>(evOs os env).bind fun r=>(opt (rsvs r.2 r.1)).bind fun xs=>(opt (f xs)).bind fun z=>.ok (z,r.2)
noncomputable def oL(f:List D->Option D)(os:List Oe):Oe:=match os with
 |[.p s]=>.p fun env=>(s env).bind fun h=>(rsv env h).bind fun x=>(f [x]).bind fun z=>some (.d z)
 |os=>.v (svN f os)
section
variable{X:Cx}{K:aQ}{c:Nat->aV}{E:XK}{e:Expr}{es:List Expr}{pos p:Pos}{x:Str}{id T:String}{r:List V->Hp->VK->Prop}{os:List Oe}
theorem zXw{f:List D->Option D}(hp:PrSN K c r f)(h:tV K c E (svN f os) σ H Q):tCB r (tOs K c E os) σ H Q:=by
 obtain⟨env,B,W,cf,w⟩:=h;refine qVb cf (qX.mp w) fun r1 w1 us H1 W1 g=>?_
 obtain⟨xs,e1,w2⟩:=qC w1;obtain⟨z,e2,w3⟩:=qC w2;exact hp us H1 xs z Q (vWi g.cf g.at_ e1) e2 fun v hv=>w3 v H1 W1 ⟨g.st,g.cf,hv _⟩
theorem zW4{f:List D->Option D}(hp:PrSN K c r f)(h:tO K c E (oL f os) σ H Q):tCB r (tOs K c E os) σ H Q:=by
 unfold oL at h;split at h
 ·obtain⟨env,B,W,h1,cf,e0,q⟩:=h;obtain⟨h0,e1,e2⟩:=bnd e0;obtain⟨x,e3,e4⟩:=bnd e2;obtain⟨z,e5,e6⟩:=bnd e4;cases e6;exact⟨env,B,W,h0,cf,e1,fun u hu=>hp [u] H [x] z Q (.cons (xZ cf hu e3) .nil) e5 fun v hv=>q v (hv _)⟩
 ·exact zXw hp h
theorem zVn{f:List D->Option D}(hc:yV X (.builtin id) r)(hp:PrSN X.K c r f)(hg:Gl X x)(hm:X.mg x=none)(hv:cI x=some (.builtin id))(ha:OsD X c E (e::es) os)(hn:x≠"__name__":=by decide)(hdb:(x == ("__debug__":Str))=false:=by decide)(he:aX (e::es) X.env=(false,eval e X.env)::aX es X.env:=by rfl)(hpl:(bI pos (aX es X.env)).any (·.1)=false:=by rfl):OD X c E (.Call (.Name x p) (e::es) [] pos) (oL f os):=
 ⟨PE.imp (vVq hc hg hm hv ha.h hn hdb he hpl) fun _ _ _ h=>zW4 hp h⟩
theorem vYg{f:List D->Option D}(hc:yV X (.type T) r)(hp:PrSN X.K c r f)(hg:Gl X x)(hm:X.mg x=none)(hv:cI x=some (.type T))(ha:OsD X c E (e::es) os)(hn:x≠"__name__":=by decide)(hdb:(x == ("__debug__":Str))=false:=by decide)(he:aX (e::es) X.env=(false,eval e X.env)::aX es X.env:=by rfl)(hpl:(bI pos (aX es X.env)).any (·.1)=false:=by rfl):OD X c E (.Call (.Name x p) (e::es) [] pos) (oL f os):=
 ⟨PE.imp (qWg hc hg hm hv ha.h hn hdb he hpl) fun _ _ _ h=>zW4 hp h⟩
end
section
variable{K:aQ}{c:Nat->aV}{E:XK}{env env' :Ev}{σ:L2.St}{H H' :Hp}{B W W' :Fp}{p:aV}{o:O}{k:Kd}
theorem Got.lay(cf:Cf K c env σ H B W)(hn:H p=none)(sm:Same H H'){ds:List D}(ha:OwAt c H' p k vs)(hd:DsAt K c (hide (hd2 (hd2 B W) (one p)) H') vs ds):Got K c env σ H B W env H' W (one p) (.ow k (ds.map .fz)) (.ref p):=by
 obtain⟨z1,z2⟩:=cf.fresh hn;have st:∀a,B a+W a≠0->H' a=H a:=fun a z=>by obtain⟨o,q,_⟩:=cf.hbs z;rw[q,sm a o q]
 have np:∀a o,H a=some o->a≠p:=fun a o q z=>by rw[z,hn]at q;cases q
 have s1:Same (hide (hd2 B W) H) (hide (hd2 (hd2 B (one p)) W) H'):=zF fun a o z q=>⟨by have:=yW (np a o q);dsimp only[hd2]at *;omega,sm a o q⟩
 have s2:hide (hd2 B (hd2 W (one p))) H' =hide (hd2 (hd2 B (one p)) W) H' :=jJ fun a=>by dsimp only[hd2];omega
 have s3:hide (hd2 (hd2 B W) (one p)) H' =hide (hd2 (hd2 B (one p)) W) H' :=jJ fun a=>by dsimp only[hd2];omega
 refine⟨⟨by rw[s2];exact s1,fun a z=>st a (by omega),fun a z=>?_,fun a z=>?_,fun a z1 _=>.of (st a (by omega)),fun _ o h=>⟨⟨o,h⟩,rfl⟩,rfl⟩,⟨cf.at_.keep s1 fun a z=>st a (by omega),fun a=>?_,fun a z=>?_⟩,OAt.ow.mpr ⟨p,vs,fun _=>0,rfl,ha,OsAt.fzs.mpr ⟨by rw[←s3];exact hd,fun _=>rfl⟩,fun _=>rfl⟩⟩
 ·by_cases q:a=p
  ·exact .inr (by rw[q];exact hn)
  ·exact .inl (by have:=yW q;dsimp only[hd2]at z;omega)
 ·cases q:H a with
  |none=>rfl
  |some o=>rw[sm a o q]at z;cases z
 ·have:=cf.nd a;by_cases q:a=p
  ·subst q;rw[show hd2 B (one a) a=B a+one a a from rfl,wO];omega
  ·rw[show hd2 B (one p) a=B a+one p a from rfl,yW q];omega
 ·by_cases q:a=p
  ·subst q;exact ha.hb
  ·rw [show hd2 B (one p) a=B a + one p a from rfl,yW q] at z;obtain⟨o,h1,h2⟩:=cf.hb a (by omega);exact⟨o,sm a o h1,h2⟩
theorem qX9(cf:Cf K c env σ H B W)(hn:H p=none)(sm:Same H H'):Same (hide (hd2 B W) H) (hide (hd2 (hd2 B W) (one p)) H'):=zF fun a o z q=>⟨by
 have np:a≠p:=fun z=>by rw[z,hn]at q;cases q
 have:=yW np;dsimp only[hd2]at *;omega,sm a o q⟩
end
noncomputable def PrF(K:aQ)(c:Nat->aV)(r:List V->Hp->VK->Prop)(f:List D->Option (List D)):Prop:=∀(us:List V) (H:Hp) (T:Fp) (xs ds:List D) (Q:VK),(∀a,T a≠0->∃o,H a=some o/\Hb o)->Vws K c (hide T H) H us xs->f xs=some ds->
 (∀p ws H',H p=none->Same H H' ->H' p=some (.lst ws)->DsAt K c (hide (hd2 T (one p)) H') ws ds->Q (.ref p) H')->r us H Q
noncomputable def PrA(K:aQ)(c:Nat->aV)(r:List V->Hp->VK->Prop)(f:List D->Option D):Prop:=∀(us:List V) (H:Hp) (T:Fp) (xs:List D) (z:D) (Q:VK),(∀a,T a≠0->∃o,H a=some o/\Hb o)->Vws K c (hide T H) H us xs->f xs=some z->
 (∀v H',Same H H' ->DAt K c (hide T H') v z->Q v H')->r us H Q
noncomputable def eF(f:List D->Option (List D))(os:List Oe):SE:=fun env=>(evOs os env).bind fun r=>(qQ2 r.1 r.2).bind fun q=>(opt (f q.1)).bind fun ds=>.ok (.ow .lst (ds.map .fz),q.2)
noncomputable def svA(f:List D->Option D)(os:List Oe):SV:=fun env=>(evOs os env).bind fun r=>(qQ2 r.1 r.2).bind fun q=>(opt (f q.1)).bind fun z=>.ok (z,q.2)
section
variable{X:Cx}{K:aQ}{c:Nat->aV}{E:XK}{e:Expr}{es:List Expr}{pos p:Pos}{x:Str}{id T:String}{r:List V->Hp->VK->Prop}{os:List Oe}
theorem jQc{f:List D->Option (List D)}(hp:PrF K c r f)(h:tE K c E (eF f os) σ H Q):tCB r (tOs K c E os) σ H Q:=by
 obtain⟨env,B,W,cf,w⟩:=h;refine qVb cf (qX.mp w) fun r1 w1 us H1 W1 g=>?_
 obtain⟨xs,env2,W2,st2,cf2,v2,w2⟩:=rsvBs_wp g.cf g.at_ (qX.mp w1);obtain⟨ds,e2,w3⟩:=qC w2;refine hp us H1 (hd2 B W2) xs ds Q (fun a z=>cf2.hbs z) v2 e2 fun p ws H' hn sm hq dz=>?_
 exact w3 _ H' W2 _ ((Got.lay cf2 hn sm (k:=.lst) hq dz).back (g.st.trans st2))
theorem jQe{f:List D->Option D}(hp:PrA K c r f)(h:tV K c E (svA f os) σ H Q):tCB r (tOs K c E os) σ H Q:=by
 obtain⟨env,B,W,cf,w⟩:=h;refine qVb cf (qX.mp w) fun r1 w1 us H1 W1 g=>?_
 obtain⟨xs,env2,W2,st2,cf2,v2,w2⟩:=rsvBs_wp g.cf g.at_ (qX.mp w1);obtain⟨z,e2,w3⟩:=qC w2;refine hp us H1 (hd2 B W2) xs z Q (fun a z=>cf2.hbs z) v2 e2 fun v H' sm dz=>?_
 exact w3 v H' W2 ⟨(g.st.trans st2).trans (.grow cf2 sm),cf2.grow sm,dz⟩
theorem vYx{f:List D->Option (List D)}(hc:yV X (.type T) r)(hp:PrF X.K c r f)(hg:Gl X x)(hm:X.mg x=none)(hv:cI x=some (.type T))(ha:OsD X c E (e::es) os)(hn:x≠"__name__":=by decide)(hdb:(x == ("__debug__":Str))=false:=by decide)(he:aX (e::es) X.env=(false,eval e X.env)::aX es X.env:=by rfl)(hpl:(bI pos (aX es X.env)).any (·.1)=false:=by rfl):ED X c E (.Call (.Name x p) (e::es) [] pos) (eF f os):=
 ⟨PE.imp (qWg hc hg hm hv ha.h hn hdb he hpl) fun _ _ _ h=>jQc hp h⟩
theorem vYv{f:List D->Option D}(hc:yV X (.type T) r)(hp:PrA X.K c r f)(hg:Gl X x)(hm:X.mg x=none)(hv:cI x=some (.type T))(ha:OsD X c E (e::es) os)(hn:x≠"__name__":=by decide)(hdb:(x == ("__debug__":Str))=false:=by decide)(he:aX (e::es) X.env=(false,eval e X.env)::aX es X.env:=by rfl)(hpl:(bI pos (aX es X.env)).any (·.1)=false:=by rfl):EV X c E (.Call (.Name x p) (e::es) [] pos) (svA f os):=
 ⟨PE.imp (qWg hc hg hm hv ha.h hn hdb he hpl) fun _ _ _ h=>jQe hp h⟩
end
noncomputable def evVs:List SV->Ev->Res (List D×Ev)
 |[],env=>.ok ([],env)
 |s::ss,env=>(s env).bind fun r=>(evVs ss r.2).bind fun r' =>.ok (r.1::r'.1,r'.2)
noncomputable def tVs(K:aQ)(c:Nat->aV)(E:XK):List SV->TA
 |[]=>tNil
 |s::ss=>qY3 (tV K c E s) (tVs K c E ss)
structure VsD(X:Cx)(c:Nat->aV)(E:XK)(es:List Expr)(ss:List SV):Prop where
 h:PA X es (tVs X.K c E ss)
theorem qW:VsD X c E [] []:=⟨qZ6⟩
theorem vL{es:List Expr}{s:SV}(ha:EV X c E e s)(hr:VsD X c E es ss)(hs:aX (e::es) X.env=(false,eval e X.env)::aX es X.env:=by rfl):VsD X c E (e::es) (s::ss):=⟨qQn ha.h hr.h hs⟩
structure GotDs(K:aQ)(c:Nat->aV)(env:Ev)(σ:L2.St)(H:Hp)(B W:Fp)(env' :Ev)(H' :Hp)(W' :Fp)(xs:List D)(us:List V):Prop where
 st:Step env σ H B W env' σ H' W'
 cf:Cf K c env' σ H' B W'
 at_:DsAt K c (hide (hd2 B W') H') us xs
theorem qZ4{K:aQ}:∀{ss:List SV} {env:Ev} {σ:L2.St} {H:Hp} {B W:Fp} {Q:List V->Hp->Prop} {w:List D×Ev->Prop},Cf K c env σ H B W->(evVs ss env).wp w (erP K c E H B W)->(∀r,w r->∀us H' W',GotDs K c env σ H B W r.2 H' W' r.1 us->Q us H')->tVs K c E ss σ H Q
 |[],env,σ,H,B,W,Q,w,cf,hw,k=>k _ hw [] H W ⟨.refl,cf,.nil⟩
 | s::ss,env,σ,H,B,W,Q,w,cf,hw,k=>by
   refine⟨env,B,W,cf,wp_mono (fun r w1 u H1 W1 g1=>?_) (fun _ _ he=>he) (qX.mp hw)⟩;refine qZ4 g1.cf (wp_mono (fun _ q=>q) (fun C fs he=>he.back g1.st) (qX.mp w1)) fun r' w3 us H2 W2 g2=>?_
   exact k _ w3 (u::us) H2 W2 ⟨g1.st.trans g2.st,g2.cf,.cons (g1.at_.same g2.st.same) g2.at_⟩
noncomputable def svTup(ss:List SV):SV:=fun env=>(evVs ss env).bind fun r=>cond (decide (r.1.length<=1000)) (.ok (.tup r.1,r.2)) .no
noncomputable def eLst(ss:List SV):SE:=fun env=>(evVs ss env).bind fun r=>cond (decide (r.1.length<=1000)) (.ok (.ow .lst (r.1.map .fz),r.2)) .no
theorem vK9(h:n<=1000):n<=aR:=Nat.le_of_lt (vXx h)
section
variable{X:Cx}{c:Nat->aV}{E:XK}{es:List Expr}{pos:Pos}{ss:List SV}
theorem qT{x1}(h:VsD X c E es ss):EV X c E (.Tuple es x1 pos) (svTup ss):=by
 refine⟨PE.imp (zYq h.h) fun σ H Q=>?_⟩;rintro⟨env,B,W,cf,w⟩;refine qZ4 cf (qX.mp w) fun r w1 us H1 W1 g=>?_
 obtain⟨hl,w2⟩:=zE w1;refine⟨vK9 (by rw[g.at_.len];exact of_decide_eq_true hl),fun p hp=>?_⟩;have sm:Same H1 (upd H1 p (.tup us)):=.upd hp;obtain⟨z1,z2⟩:=g.cf.fresh hp;refine w2 (.ref p) _ W1 ⟨g.st.trans (.grow g.cf sm),g.cf.grow sm,.of (k:=.tup) (SqT.of ?_) (g.at_.same (zF fun a o z q=>⟨z,sm a o q⟩))⟩;rw[v4 (by dsimp only[hd2];omega),upd_same]
theorem vH(h:VsD X c E es ss):ED X c E (.List es pos) (eLst ss):=by
 refine⟨PE.imp (zYu h.h) fun σ H Q=>?_⟩;rintro⟨env,B,W,cf,w⟩;refine qZ4 cf (qX.mp w) fun r w1 us H1 W1 g=>?_
 obtain⟨hl,w2⟩:=zE w1;refine⟨vK9 (by rw[g.at_.len];exact of_decide_eq_true hl),fun p hp=>?_⟩;have sm:Same H1 (upd H1 p (.lst us)):=.upd hp;exact w2 (.ref p) _ W1 _ ((Got.lay g.cf hp sm (k:=.lst) upd_same (g.at_.same (qX9 g.cf hp sm))).back g.st)
noncomputable def eDct0:SE:=fun env=>.ok (.ow (.dct []) [],env)
theorem qZr:ED X c E (.Dict [] [] pos) eDct0:=by
 refine⟨PE.imp zVg fun σ H Q=>?_⟩;rintro⟨env,B,W,cf,w⟩;intro p hp;have sm:Same H (upd H p (.dK [])):=.upd hp;exact w (.ref p) _ W _ (Got.lay cf hp sm (k:=.dct []) (vs:=[]) (ds:=[]) ⟨rfl,List.nodup_nil,upd_same⟩ .nil)
end
inductive Out where
 |nx (env:Ev)|rt (o:O) (env:Ev)|bk (env:Ev)|ct (env:Ev)
noncomputable abbrev SS:=Ev->Res Out
structure GotR(K:aQ)(c:Nat->aV)(env:Ev)(σ:L2.St)(H:Hp)(B W:Fp)(env' :Ev)(σ' :L2.St)(H' :Hp)(W' Z:Fp)(o:O)(u:V):Prop where
 st:Step env σ H B W env' σ' H' (hd2 W' Z)
 cf:Cf K c env' σ' H' (hd2 B Z) W'
 at_:OAt K c (hide (hd2 (hd2 B Z) W') H') H' o u Z
noncomputable def OutP(K:aQ)(c:Nat->aV)(env:Ev)(σ:L2.St)(H:Hp)(B W:Fp)(D:Ends):Out->Prop
 |.nx e=>∀σ' H' W',Step env σ H B W e σ' H' W' ->Cf K c e σ' H' B W' ->D.nx σ' H'
 |.bk e=>∀σ' H' W',Step env σ H B W e σ' H' W' ->Cf K c e σ' H' B W' ->D.bk σ' H'
 |.ct e=>∀σ' H' W',Step env σ H B W e σ' H' W' ->Cf K c e σ' H' B W' ->D.ct σ' H'
 |.rt o e=>∀v σ' H' W' Z,GotR K c env σ H B W e σ' H' W' Z o v->D.rt v H'
noncomputable def tS(K:aQ)(c:Nat->aV)(E:XK)(s:SS):TS:=fun D σ H=>∃env B W,Cf K c env σ H B W/\(s env).wp (OutP K c env σ H B W D) (erP K c E H B W)
structure SD(X:Cx)(c:Nat->aV)(E:XK)(st:Stmt)(s:SS):Prop where
 h:PS X st (tS X.K c E s)
structure SDs(X:Cx)(c:Nat->aV)(E:XK)(st:List Stmt)(s:SS):Prop where
 h:PSs X st (tS X.K c E s)
theorem PS.imp{st:Stmt}{t t' :TS}(h:PS X st t)(k:∀D σ H,t' D σ H->t D σ H):PS X st t' :=fun pins s σ H D I q=>h pins s σ H D I (k D σ H q)
theorem PSs.imp{st:List Stmt}{t t' :TS}(h:PSs X st t)(k:∀D σ H,t' D σ H->t D σ H):PSs X st t' :=fun pins s σ H D I q=>h pins s σ H D I (k D σ H q)
theorem PS.len{st:Stmt}{t:TS}(h:PS X st (fun D σ H=>σ.length=X.N.length/\t D σ H)):PS X st t:=fun pins s σ H D I q=>h pins s σ H D I ⟨I.len,q⟩
section
variable{K:aQ}{c:Nat->aV}{E:XK}{env env' :Ev}{σ σ' :L2.St}{H H' :Hp}{B W W' :Fp}{D:Ends}{o:Out}{s:SS}
theorem OutP.back(st:Step env σ H B W env' σ' H' W')(h:OutP K c env σ H B W D o):OutP K c env' σ' H' B W' D o:=by
 cases o with
 |nx e=>exact fun σ2 H2 W2 s2 cf=>h σ2 H2 W2 (st.trans s2) cf
 |bk e=>exact fun σ2 H2 W2 s2 cf=>h σ2 H2 W2 (st.trans s2) cf
 |ct e=>exact fun σ2 H2 W2 s2 cf=>h σ2 H2 W2 (st.trans s2) cf
 |rt r e=>exact fun v σ2 H2 W2 Z g=>h v σ2 H2 W2 Z ⟨st.trans g.st,g.cf,g.at_⟩
theorem vQb(st:Step env σ H B W env' σ' H' W')(cf:Cf K c env' σ' H' B W')(h:(s env').wp (OutP K c env σ H B W D) (erP K c E H B W)):tS K c E s D σ' H' :=
 ⟨env',B,W',cf,wp_mono (fun _ q=>q.back st) (fun _ _ he=>he.back st) h⟩
end
noncomputable def sSeq(s t:SS):SS:=fun env=>(s env).bind fun o=>match o with
 |.nx e=>t e
 |o=>.ok o
noncomputable def sNil:SS:=fun env=>.ok (.nx env)
section
variable{X:Cx}{c:Nat->aV}{E:XK}{st:Stmt}{sts:List Stmt}{s t u:SS}{pos:Pos}
theorem qS:SDs X c E [] sNil:=by
 refine⟨PSs.imp vWo fun D σ H=>?_⟩;rintro⟨env,B,W,cf,w⟩;exact w σ H W .refl cf
theorem qJ(h:SD X c E st s):SDs X c E [st] s:=⟨zJb h.h⟩
theorem qV(h:SD X c E st s)(k:SDs X c E sts t):SDs X c E (st::sts) (sSeq s t):=by
 refine⟨PSs.imp (vVp h.h k.h) fun D σ H=>?_⟩;rintro⟨env,B,W,cf,w⟩;refine⟨env,B,W,cf,wp_mono (fun o ho=>?_) (fun _ _ he=>he) (qX.mp w)⟩;cases o with
 |nx e=>exact fun σ' H' W' st' cf' =>vQb st' cf' ho
 |bk e=>exact ho
 |ct e=>exact ho
 |rt r e=>exact ho
noncomputable def sIf(b:ST)(s t:SS):SS:=fun env=>(b env).bind fun r=>cond r.1 (s r.2) (t r.2)
theorem vF{x y:List Stmt}{sc:ST}(hc:TD X c E e sc)(ha:SDs X c E x s)(hb:SDs X c E y t):SD X c E (.If e x y pos) (sIf sc s t):=by
 refine⟨PS.imp (jQi hc.h ha.h hb.h) fun D σ H=>?_⟩;rintro⟨env,B,W,cf,w⟩;refine⟨env,B,W,cf,wp_mono (fun r1 h1 H1 W1 st1 cf1=>?_) (fun _ _ he=>he) (qX.mp w)⟩;obtain⟨k,e1⟩:=r1;cases k with
 |true=>exact vQb st1 cf1 h1
 |false=>exact vQb st1 cf1 h1
noncomputable def sRet(s:SE):SS:=fun env=>(s env).bind fun r=>.ok (.rt r.1 r.2)
theorem vX{s:SE}(h:ED X c E e s):SD X c E (.Return (some e) pos) (sRet s):=by
 refine⟨PS.imp (zYe h.h) fun D σ H=>?_⟩;rintro⟨env,B,W,cf,w⟩;exact⟨env,B,W,cf,wp_mono (fun r1 h1 u H1 W1 Z g=>h1 u σ H1 W1 Z ⟨g.st,g.cf,g.at_⟩) (fun _ _ he=>he) (qX.mp w)⟩
noncomputable def eMv(i:Nat):SE:=fun env=>match env[i]? with
 |some (.s false o)=>.ok (o,env.set i .un)
 |_=>.no
theorem vZ6{s:Slot}{o:O}(hs:∀o,s≠ .s true o)(h:(env.set i s)[j]?=some (.s true o)):j≠i/\env[j]?=some (.s true o):=by
 grind
theorem vQ9(h:PE X e (tVar i)):ED X c E e (eMv i):=by
 refine⟨PE.imp h fun σ H Q=>?_⟩;rintro⟨env,B,W,cf,w⟩;unfold eMv at w;split at w
 ·rename_i o e0;obtain⟨x,Z1,R,h1,h2,h3,h4⟩:=cf.focus e0;cases x with
  |none=>exact h2.elim
  | some v=>
    have eq:hide (hd2 (hd2 B Z1) R) H=hide (hd2 B W) H:=jJ fun a=>by dsimp only[hd2];rw[h3];omega
    have eq2:hide (hd2 B (hd2 R Z1)) H=hide (hd2 B W) H:=jJ fun a=>by dsimp only[hd2];rw[h3];omega
    have cf' :=h4 H (hd2 B Z1) R .un (some v) (fun _=>0) (by rw[eq];exact Same.refl _) (fun a=>by omega) (fun _ _=>rfl) (fun _=>rfl) (fun a=>by have:=cf.nd a;rw[h3]at this;dsimp only[hd2];omega) (fun a z=>by
     by_cases q:B a=0
     ·exact wY.hb (x:=some v) h2 (by dsimp only[hd2]at z;omega)
     ·exact cf.hb a q)
    rw[yD h1]at cf';refine⟨v,h1,w v H R Z1 ⟨⟨by rw[eq2];exact Same.refl _,fun _ _=>rfl,fun a z=>.inl (by dsimp only[hd2]at z;rw[h3];omega),fun _ z=>z,fun _ _ _=>.refl,fun j o' q=>?_,bT⟩,cf',by rw[eq];exact h2⟩⟩;grind
 ·exact w.elim
noncomputable def jU(s:SE):SS:=fun env=>(s env).bind fun r=>.ok (.nx r.2)
theorem zW{s:SE}(h:ED X c E e s)(hs:swapsWith e none pos.line X.env=pure false:=by rfl):SD X c E (.Expr e pos) (jU s):=by
 refine⟨PS.imp (zJe h.h hs) fun D σ H=>?_⟩;rintro⟨env,B,W,cf,w⟩;exact⟨env,B,W,cf,wp_mono (fun r1 h1 u H1 W1 Z g=>h1 σ H1 W1 g.fz.st g.fz.cf) (fun _ _ he=>he) (qX.mp w)⟩
end
section
variable{K:aQ}{c:Nat->aV}{env env' :Ev}{σ σ' :L2.St}{H H' :Hp}{B W W' Z:Fp}{i:Nat}{o:O}{u:V}
theorem GotR.put(g:GotR K c env σ H B W env' σ' H' W' Z o u)(hi:i<env'.length):∃W2,Step env σ H B W (env'.set i (.s false o)) (σ'.set i (some u)) H' W2/\Cf K c (env'.set i (.s false o)) (σ'.set i (some u)) H' B W2:=by
 obtain⟨W2,cf2,sm,nw⟩:=g.cf.put (B:=B) (io:=false) (fun _=>rfl) g.at_ hi;refine⟨W2,g.st.trans ⟨?_,fun _ _=>rfl,fun a z=>.inl ?_,fun _ z=>z,fun _ _ _=>.refl,fun j o' q=>?_,bT⟩,cf2⟩
 ·rw [show hide (hd2 B (hd2 W' Z)) H' =hide (hd2 (hd2 B Z) W') H' from jJ fun a=>by dsimp only [hd2];omega];exact sm
 ·have:=nw a z;dsimp only[hd2];omega
 ·obtain⟨q1,q2⟩:=vZ6 (fun _ z=>by cases z) q;exact⟨⟨o',q2⟩,bK (Ne.symm q1)⟩
theorem Got.r(g:Got K c env σ H B W env' H' W' Z o u):GotR K c env σ H B W env' σ H' W' Z o u:=⟨g.st,g.cf,g.at_⟩
end
noncomputable def sSet(i:Nat)(s:SE):SS:=fun env=>(s env).bind fun r=>.ok (.nx (r.2.set i (.s false r.1)))
section
variable{X:Cx}{c:Nat->aV}{E:XK}{pos pos' :Pos}{i:Nat}{x:Str}{e:Expr}
theorem Cf.len{K:aQ}(h:Cf K c env σ H B W):env.length=σ.length:=h.at_.len
theorem vQd{K:aQ}(cf:Cf K c env σ H B W)(hl:σ.length=N.length)(hi:N[i]?=some x):i<env.length:=by
 rw[cf.len,hl];exact(aH.mp hi).1
theorem zX3{s:SE}(hN:X.N.Nodup)(hi:X.N[i]?=some x)(hx:Loc X.env.scope x)(he:ED X c E e s)(hs:swapsWith e (some (.Name x pos')) pos.line X.env=pure false:=by rfl)(hf:X.fn x=true\/X.env.scope.names.lookup x=some .local :=by first|exact .inl rfl|exact .inr rfl|assumption):
  SD X c E (.Assign [.Name x pos'] e pos) (sSet i s):=by
 refine⟨PS.len (PS.imp (zYd hN hi hx he.h hs hf) fun D σ H=>?_)⟩;rintro⟨hl,env,B,W,cf,w⟩;refine⟨env,B,W,cf,wp_mono (fun r1 h1 u H1 W1 Z g=>?_) (fun _ _ he=>he) (qX.mp w)⟩;obtain⟨W2,s2,c2⟩:=g.r.put (vQd g.cf hl hi);exact h1 _ H1 W2 s2 c2
end
noncomputable abbrev SG:=D->Ev->Option Ev
noncomputable def tG(K:aQ)(c:Nat->aV)(T:List Nat)(g:SG):TG:=fun v σ H Q=>∃env B W d e,Cf K c env σ H B W/\DAt K c (hide (hd2 B W) H) v d/\g d env=some e/\∀σ' W',Step env σ H B W e σ' H W' ->Cf K c e σ' H B W' ->(∀i,i∉T->σ'[i]?=σ[i]?)->Q σ' H
structure GD(X:Cx)(c:Nat->aV)(e:Expr)(T:List Nat)(g:SG):Prop where
 h:PG X e (tG X.K c T g)
noncomputable abbrev SGs:=List D->Ev->Option Ev
noncomputable def tGs(K:aQ)(c:Nat->aV)(T:List Nat)(g:SGs):TGs:=fun vs σ H Q=>∃env B W ds e,Cf K c env σ H B W/\DsAt K c (hide (hd2 B W) H) vs ds/\g ds env=some e/\∀σ' W',Step env σ H B W e σ' H W' ->Cf K c e σ' H B W' ->(∀i,i∉T->σ'[i]?=σ[i]?)->Q σ' H
structure GDs(X:Cx)(c:Nat->aV)(es:List Expr)(T:List Nat)(g:SGs):Prop where
 h:PGs X es (tGs X.K c T g)
theorem PG.imp{t t' :TG}(h:PG X e t)(k:∀v σ H Q,t' v σ H Q->t v σ H Q):PG X e t' :=fun pins s σ H v u Q I r q=>h pins s σ H v u Q I r (k v σ H Q q)
theorem PGs.imp{e:List Expr}{t t' :TGs}(h:PGs X e t)(k:∀v σ H Q,t' v σ H Q->t v σ H Q):PGs X e t' :=fun pins s σ H v u Q I r q=>h pins s σ H v u Q I r (k v σ H Q q)
theorem PG.len{t:TG}(h:PG X e (fun v σ H Q=>σ.length=X.N.length/\t v σ H Q)):PG X e t:=fun pins s σ H v u Q I r q=>h pins s σ H v u Q I r ⟨I.len,q⟩
noncomputable def gN(i:Nat):SG:=fun d env=>some (env.set i (.s false (.fz d)))
noncomputable def gNl:SGs:=fun ds env=>match ds with
 |[]=>some env
 |_=>none
noncomputable def gCn(g:SG)(gs:SGs):SGs:=fun ds env=>match ds with
 |d::r=>(g d env).bind fun e=>gs r e
 |[]=>none
noncomputable def gT(n:Nat)(gs:SGs):SG:=fun d env=>match d with
 |.nd .tup ds=>if ds.length=n then gs ds env else none
 |_=>none
section
variable{X:Cx}{c:Nat->aV}{pos:Pos}{x:Str}{i n:Nat}{e:Expr}{es:List Expr}{g:SG}{gs:SGs}{T T' :List Nat}
theorem zWk(hN:X.N.Nodup)(hi:X.N[i]?=some x)(hx:Loc X.env.scope x)(hf:X.fn x=true\/X.env.scope.names.lookup x=some .local :=by first|exact .inl rfl|exact .inr rfl|assumption):GD X c (.Name x pos) [i] (gN i):=by
 refine⟨PG.len (PG.imp (zJp hN hi hx hf) fun v σ H Q=>?_)⟩;rintro⟨hl,env,B,W,d,e,cf,hd,h1,h2⟩;cases h1;have g:GotD X.K c env σ H B W env H W d v:=⟨.refl,cf,hd⟩
 obtain⟨W2,s2,c2⟩:=g.own.r.put (vQd cf hl hi);exact h2 _ W2 s2 c2 fun j hj=>bK fun z=>hj (by rw[z];exact cH)
theorem qQp:GDs X c [] [] gNl:=by
 refine⟨PGs.imp zJn fun v σ H Q=>?_⟩;rintro⟨env,B,W,ds,e,cf,hd,h1,h2⟩;cases ds with
 | nil=>
   have:=hd.un0;cases h1;exact⟨this,h2 _ W .refl cf fun _ _=>rfl⟩
 |cons d r=>cases h1
theorem zJ(h:GD X c e T g)(k:GDs X c es T' gs)(hs:(assignEach (e::es) X.env).map (·.2)=assign e X.env::(assignEach es X.env).map (·.2):=by rfl):GDs X c (e::es) (T ++ T') (gCn g gs):=by
 refine⟨PGs.imp (zVc h.h k.h hs) fun v σ H Q=>?_⟩;rintro⟨env,B,W,ds,e,cf,hd,h1,h2⟩;cases ds with
 |nil=>cases h1
 | cons d r=>
   obtain⟨u,us,rfl,a,b⟩:=hd.un;obtain⟨e2,e1,h1⟩:=bnd h1;exact⟨u,us,rfl,env,B,W,d,e2,cf,a,e1,fun σ' W' st' cf' k1=>⟨e2,B,W',r,e,cf',b.same st'.same,h1,fun σ2 W2 st2 cf2 k2=>h2 σ2 W2 (st'.trans st2) cf2 fun i hi=>(k2 i fun z=>hi (bX _ z)).trans (k1 i fun z=>hi (List.mem_append_left _ z))⟩⟩
theorem qJ9{k:Nat}(hc:X.calm=true)(h:GDs X c es T gs)(hn:(assignEach es X.env).length =n:=by rfl)(hst:(assignEach es X.env).findIdx? (·.1)=none:=by rfl):GD X c (.Tuple es k pos) T (gT n gs):=by
 refine⟨PG.imp (zYn hc h.h hn hst) fun v σ H Q=>?_⟩;rintro⟨env,B,W,d,e,cf,hd,h1,h2⟩;unfold gT at h1;split at h1
 ·rename_i ds;split at h1
  ·rename_i hl;obtain⟨p,vs,q1,q2,q3⟩:=hd.un;exact⟨p,vs,q1,vK.tup q2,by rw[q3.len];exact hl,env,B,W,ds,e,cf,q3,h1,h2⟩
  ·cases h1
 ·cases h1
end
noncomputable def sAsg(s:SV)(g:SG):SS:=fun env=>(s env).bind fun r=>(opt (g r.1 r.2)).bind fun e=>.ok (.nx e)
theorem vKx{s:SV}{T:List Nat}{pos:Pos}(he:EV X c E e s)(hg:GD X c tg T g)(hs:swapsWithSole [tg] e pos.line X.env=pure false:=by rfl)(hw:swappedStores [tg] e X.env=pure none:=by rfl)(h1:(assignEach [tg] X.env).map (·.2)=[assign tg X.env]:=by rfl):SD X c E (.Assign [tg] e pos) (sAsg s g):=by
 refine⟨PS.imp (vK0 he.h hg.h hs hw h1) fun D σ H=>?_⟩;rintro⟨env,B,W,cf,w⟩;refine⟨env,B,W,cf,wp_mono (fun r1 h1 u H1 W1 g1=>?_) (fun _ _ he=>he) (qX.mp w)⟩;obtain⟨e2,e1,h2⟩:=qC h1;exact⟨r1.2,B,W1,r1.1,e2,g1.cf,g1.at_,e1,fun σ' W' st' cf' _=>h2 σ' H1 W' (g1.st.trans st') cf'⟩
noncomputable def ItD(K:aQ)(c:Nat->aV)(F:Hp)(J:It)(ds:List D):Prop:=∀(i:Nat) (H:Hp) (T:Fp),Same F (hide T H)->(∀a,T a≠0->∃o,H a=some o/\Hb o)->
 (∀d,ds[i]?=some d->J.go i H/\∀x H',J.yld i H x H' ->Same H H' /\DAt K c (hide T H') x d)/\(i=ds.length->J.stop i H)
noncomputable abbrev SI:=Ev->Res (List D×Ev)
noncomputable def tIt(K:aQ)(c:Nat->aV)(E:XK)(s:SI):TI:=fun σ H R=>∃env B W,Cf K c env σ H B W/\(s env).wp (fun r=>∀J H' W',Step env σ H B W r.2 σ H' W' ->Cf K c r.2 σ H' B W' ->ItD K c (hide (hd2 B W') H') J r.1->R J H') (erP K c E H B W)
structure ID'(X:Cx)(c:Nat->aV)(E:XK)(tg e:Expr)(s:SI):Prop where
 h:PI X tg e (tIt X.K c E s)
theorem PI.imp{t t' :TI}(h:PI X tg e t)(k:∀σ H R,t' σ H R->t σ H R):PI X tg e t' :=fun pins s σ H R I q=>h pins s σ H R I (k σ H R q)
noncomputable def forS(g:SG)(body:SS):List D->SS
 |[],env=>.ok (.nx env)
 |d::ds,env=>(opt (g d env)).bind fun e1=>(body e1).bind fun o=>match o with
    |.nx e2=>forS g body ds e2
    |.ct e2=>forS g body ds e2
    |.bk e2=>.ok (.nx e2)
    |.rt r e2=>.ok (.rt r e2)
noncomputable def sFor(it:SI)(g:SG)(body:SS):SS:=fun env=>(it env).bind fun r=>forS g body r.1 r.2
theorem zV7{K:aQ}{T:List Nat}{D:Ends}{J:It}{H1:Hp}{W1:Fp}{ds:List DX.D}{e1:Ev}(cf1:Cf K c e1 σ H1 B W1)(iter:ItD K c (hide (hd2 B W1) H1) J ds)(h1:(forS g body ds e1).wp (OutP K c e1 σ H1 B W1 D) (erP K c E H1 B W1)):∃W:Nat->Nat->L2.St->Hp->Prop,(∃m,W 0 m σ H1)/\∀i m σ H,W i m σ H->
   (J.stop i H/\D.nx σ H)\/(J.go i H/\∃N:L2.St->Hp->Prop,(∀σ' H',N σ' H' ->∃m',m'<m/\W (i+1) m' σ' H')/\∀x H',J.yld i H x H' ->tG K c T g x σ H' fun σ2 H2=>tS K c E body {D with nx:=N,ct:=N,bk:=D.nx} σ2 H2):=by
 refine⟨fun i m σ' H' =>m=ds.length - i/\i<=ds.length/\∃env' W',Same (hide (hd2 B W1) H1) (hide (hd2 B W') H')/\Cf K c env' σ' H' B W' /\(forS g body (ds.drop i) env').wp (OutP K c env' σ' H' B W' D) (erP K c E H' B W'),
  ⟨ds.length,by simp,Nat.zero_le _,e1,W1,Same.refl _,cf1,h1⟩,?_⟩
 rintro i m σ' H' ⟨rfl,hi,env',W',sm,cf',w'⟩;obtain⟨it1,it2⟩:=iter i H' (hd2 B W') sm (fun a z=>cf'.hbs z);by_cases hlt:i<ds.length
 ·obtain⟨go,yl⟩:=it1 ds[i] (aN hlt);refine .inr ⟨go,fun σ2 H2=>ds.length - (i+1)<ds.length - i/\(ds.length - (i+1)=ds.length - (i+1)/\i+1<=ds.length/\∃env2 W2,Same (hide (hd2 B W1) H1) (hide (hd2 B W2) H2)/\Cf K c env2 σ2 H2 B W2/\(forS g body (ds.drop (i+1)) env2).wp (OutP K c env2 σ2 H2 B W2 D) (erP K c E H2 B W2)),fun σ2 H2 q=>⟨_,q.1,q.2⟩,fun x H2 y=>?_⟩;obtain⟨sm2,hx⟩:=yl x H2 y;rw[List.drop_eq_getElem_cons hlt]at w';obtain⟨e3,e2,w'⟩:=qC w';refine⟨env',B,W',ds[i],e3,cf'.grow sm2,hx,e2,fun σ3 W3 st3 cf3 _=>?_⟩;have stA:Step env' σ' H' B W' e3 σ3 H2 W3:=(Step.grow cf' sm2).trans st3
  have next:∀e4,(forS g body (ds.drop (i+1)) e4).wp (OutP K c env' σ' H' B W' D) (erP K c E H' B W')->∀σ4 H4 W4,Step e3 σ3 H2 B W3 e4 σ4 H4 W4->Cf K c e4 σ4 H4 B W4->
    ds.length - (i+1)<ds.length - i/\(ds.length - (i+1)=ds.length - (i+1)/\i+1<=ds.length/\∃env2 W2,Same (hide (hd2 B W1) H1) (hide (hd2 B W2) H4)/\Cf K c env2 σ4 H4 B W2/\(forS g body (ds.drop (i+1)) env2).wp (OutP K c env2 σ4 H4 B W2 D) (erP K c E H4 B W2)):=fun e4 q σ4 H4 W4 st4 cf4=>by
   have stB:=stA.trans st4;exact⟨by omega,rfl,hlt,e4,W4,sm.trans stB.same,cf4,wp_mono (fun o q=>q.back stB) (fun _ _ he=>he.back stB) q⟩
  refine⟨e3,B,W3,cf3,wp_mono (fun o q=>?_) (fun _ _ he=>he.back stA) (qX.mp w')⟩;cases o with
  |nx e4=>exact next e4 q
  |ct e4=>exact next e4 q
  |bk e4=>exact fun σ4 H4 W4 st4 cf4=>q σ4 H4 W4 (stA.trans st4) cf4
  |rt r e4=>exact fun v σ4 H4 W4 Z g=>q v σ4 H4 W4 Z ⟨stA.trans g.st,g.cf,g.at_⟩
 ·have hi2:i=ds.length:=by omega
  subst hi2;rw[List.drop_length]at w';exact .inl ⟨it2 rfl,w' σ' H' W' .refl cf'⟩
theorem zZw{K:aQ}{T:List Nat}{D:Ends}(h:tS K c E (sFor it g body) D σ H):tFor (tIt K c E it) (tG K c T g) (tS K c E body) D σ H:=by
 obtain⟨env,B,W,cf,w⟩:=h;refine⟨env,B,W,cf,wp_mono (fun r1 h1 J H1 W1 st1 cf1 iter=>?_) (fun _ _ he=>he) (qX.mp w)⟩;exact zV7 cf1 iter (wp_mono (fun o q=>q.back st1) (fun _ _ he=>he.back st1) h1)
theorem yJ{iter:Expr}{body:List Stmt}{pos:Pos}{T:List Nat}{s:SS}(hp:PassesOwn (model X.prog X.w) X.A X.env X.xe)(hc:X.calm=true)(hi:ID' X c E tg iter it)(hg:GD X c tg T g)(hb:SDs X c E body s)(hs:∀x,foldedSetIterable iter X.env x=pure x:=by intro _;rfl):SD X c E (.For tg iter body [] pos) (sFor it g s):=
 ⟨PS.imp (zYf hp hc hi.h hg.h hb.h hs) fun _ _ _ h=>zZw h⟩
noncomputable def yZ(b:ST)(body:SS):Nat->SS
 | 0,_=>.no
 | n + 1,env=>(b env).bind fun r=>cond r.1 ((body r.2).bind fun o=>match o with
     |.nx e2=>yZ b body n e2
     |.ct e2=>yZ b body n e2
     |.bk e2=>.ok (.nx e2)
     |.rt r e2=>.ok (.rt r e2)) (.ok (.nx r.2))
theorem vXt{K:aQ}{t:ST}{D:Ends}(h:tS K c E (yZ t body n) D σ H):vKs (tT K c E t) (tS K c E body) D σ H:=by
 obtain⟨env,B,W,cf,w⟩:=h;refine⟨fun m σ' H' =>∃env' B' W',Cf K c env' σ' H' B' W' /\(yZ t body m env').wp (OutP K c env' σ' H' B' W' D) (erP K c E H' B' W'),⟨n,env,B,W,cf,w⟩,?_⟩;rintro m σ' H' ⟨env',B',W',cf',w'⟩;cases m with
 |zero=>exact w'.elim
 | succ m=>
   refine⟨env',B',W',cf',wp_mono (fun r q H1 W1 st1 cf1=>?_) (fun _ _ he=>he) (qX.mp w')⟩;obtain⟨k,e1⟩:=r;cases k with
   |false=>exact q σ' H1 W1 st1 cf1
   | true=>
     refine⟨fun σ2 H2=>∃env' B' W',Cf K c env' σ2 H2 B' W' /\(yZ t body m env').wp (OutP K c env' σ2 H2 B' W' D) (erP K c E H2 B' W'),fun σ2 H2 q=>⟨m,Nat.lt_succ_self m,q⟩,e1,B',W1,cf1,wp_mono (fun o q=>?_) (fun _ _ he=>he.back st1) (qX.mp q)⟩;have go:∀e4,(yZ t body m e4).wp (OutP K c env' σ' H' B' W' D) (erP K c E H' B' W')->∀σ4 H4 W4,Step e1 σ' H1 B' W1 e4 σ4 H4 W4->Cf K c e4 σ4 H4 B' W4->∃env' B' W',Cf K c env' σ4 H4 B' W' /\(yZ t body m env').wp (OutP K c env' σ4 H4 B' W' D) (erP K c E H4 B' W'):=fun e4 q σ4 H4 W4 st4 cf4=>
      ⟨e4,B',W4,cf4,wp_mono (fun o q=>q.back (st1.trans st4)) (fun _ _ he=>he.back (st1.trans st4)) q⟩
     cases o with
     |nx e4=>exact go e4 q
     |ct e4=>exact go e4 q
     |bk e4=>exact fun σ4 H4 W4 st4 cf4=>q σ4 H4 W4 (st1.trans st4) cf4
     |rt r e4=>exact fun v σ4 H4 W4 Z g=>q v σ4 H4 W4 Z ⟨st1.trans g.st,g.cf,g.at_⟩
theorem zQy{body:List Stmt}{pos:Pos}{t:ST}{s:SS}(n:Nat)(hp:PassesOwn (model X.prog X.w) X.A X.env X.xe)(hc:TD X c E e t)(hb:SDs X c E body s):SD X c E (.While e body [] pos) (yZ t s n):=
 ⟨PS.imp (zQ8 hp hc.h hb.h) fun _ _ _ h=>vXt h⟩
noncomputable abbrev Fn:=Ev->Res (O×Ev)
noncomputable def zKf:Slot->Slot
 |.s true o=>.s true o
 |_=>.un
noncomputable def outs:Nat->Ev->Ev
 | 0,_=> []
 |_+1,[]=> []
 |n+1,s::e=>zKf s::outs n e
noncomputable def fnS(n m:Nat)(body:SS):Fn:=fun args=>(body (args ++ List.replicate m .un)).bind fun o=>match o with
 |.nx e=>.ok (.fz .non,outs n e)
 |.rt r e=>.ok (r,outs n e)
 |_=>.no
noncomputable def spD(K:aQ)(c:Nat->aV)(n:Nat)(F:Fn):Sp:=fun vs H Q E=>∃args B W,args.length=n/\Cf K c args (vs.map some) H B W/\
 (F args).wp (fun r=>∀v H' W' Z,GotR K c args (vs.map some) H B W r.2 (vs.map some) H' W' Z r.1 v->Q v H') (erP K c E H B W)
section
variable{K:aQ}{c:Nat->aV}{F H H' :Hp}
theorem SlAt.uns(t:TabF c F):∀m:Nat,SlAt K c F H (List.replicate m .un) (List.replicate m none) (fun _=>0)
 | 0=>⟨⟨rfl,t⟩,fun _=>rfl⟩
 |m+1=>⟨none,List.replicate m none,fun _=>0,fun _=>0,rfl,fun _=>rfl,SlAt.uns t m,fun _=>rfl⟩
theorem SlAt.append:∀{env env' :Ev} {σ σ' :L2.St} {Z Z' :Fp},SlAt K c F H env σ Z->SlAt K c F H env' σ' Z' ->SlAt K c F H (env ++ env') (σ ++ σ') (fun a=>Z a+Z' a)
 | [],env',σ,σ',Z,Z',h,k=>by
   rw[h.1.1];exact k.cast fun a=>by rw[h.2];omega
 | s::env,env',σ,σ',Z,Z',h,k=>by
   obtain⟨x,r,Z1,Z2,rfl,b,cc,d⟩:=h;exact⟨x,r ++ σ',Z1,_,rfl,b,cc.append k,fun a=>by dsimp only;rw[d];omega⟩
theorem Cf.ext{m:Nat}(h:Cf K c args τ H B W):Cf K c (args ++ List.replicate m .un) (τ ++ List.replicate m none) H B W:=
 ⟨(h.at_.append (SlAt.uns h.at_.tab m)).cast fun a=>by(try dsimp only);omega,h.nd,h.hb⟩
theorem SlAt.outs:∀{n:Nat} {e:Ev} {σ τ:L2.St} {Z:Fp},SlAt K c F H e σ Z->n<=e.length->τ.length=n->(∀(i:Nat) o,i<n->e[i]?=some (.s true o)->σ[i]?=τ[i]?)->∃Z',SlAt K c F H (outs n e) τ Z' /\∀a,Z' a<=Z a
 | 0,e,σ,τ,Z,h,hl,ht,k=>⟨fun _=>0,⟨⟨List.eq_nil_of_length_eq_zero ht,h.tab⟩,fun _=>rfl⟩,fun _=>Nat.zero_le _⟩
 |n+1,[],σ,τ,Z,h,hl,ht,k=>by simp at hl
 |n+1,s::e,σ,[],Z,h,hl,ht,k=>by simp at ht
 | n + 1,s::e,σ,t::τ,Z,h,hl,ht,k=>by
   obtain⟨x,r,Z1,Z2,rfl,b,cc,d⟩:=h;obtain⟨Z',h1,h2⟩:=SlAt.outs (n:=n) (τ:=τ) cc (by simpa using hl) (by simpa using ht) fun i o hi e=>by
    have:=k (i+1) o (by omega) (by simpa using e);simpa using this
   have un:∃Y:Fp,SlAt K c F H (.un ::DX.outs n e) (t::τ) Y/\∀a,Y a<=Z a:=⟨Z',⟨t,τ,fun _=>0,Z',rfl,fun _=>rfl,h1,fun a=>by dsimp only;omega⟩,fun a=>by have:=h2 a;rw[d];omega⟩
   cases s with
   |un=>exact un
   | s io o=>
     cases io with
     |false=>exact un
     | true=>
       have e0:=k 0 o (by omega) rfl;simp only[dX,Option.some.injEq]at e0;subst e0;exact⟨fun a=>Z1 a+Z' a,⟨x,τ,Z1,Z',rfl,b,h1,fun _=>rfl⟩,fun a=>by have:=h2 a;rw[d];dsimp only;omega⟩
theorem vVt:∀{n i:Nat} {e:Ev} {o:O},(outs n e)[i]?=some (.s true o)->i<n/\e[i]?=some (.s true o)
 | 0,i,e,o,h=>by simp[outs]at h
 |n+1,i,[],o,h=>by simp[outs]at h
 | n + 1,0,s::e,o,h=>by
   simp only[outs,dX,Option.some.injEq]at h;refine⟨Nat.succ_pos _,?_⟩;cases s with
   |un=>cases h
   |s io o' =>cases io <;> cases h;rfl
 | n + 1,i + 1,s::e,o,h=>by
   simp only[outs,List.getElem?_cons_succ]at h⊢;obtain⟨h1,h2⟩:=vVt h;exact⟨by omega,h2⟩
theorem vVs:∀{n:Nat} {e:Ev},n<=e.length->(outs n e).length =n
 | 0,e,_=>by simp[outs]
 |n+1,[],h=>by simp at h
 |n+1,s::e,h=>by rw[outs,aY,vVs (by simpa using h)]
theorem GotR.out{e:Ev}{m:Nat}{r:O}(hn:args.length=n)(cf:Cf K c args τ H B W)(g:GotR K c (args ++ List.replicate m .un) (τ ++ List.replicate m none) H B W e σ' H' W' Z r v):
  ∃W2,GotR K c args τ H B W (outs n e) τ H' W2 Z r v:=by
 have hle:n<=e.length:=by rw[g.st.len,aB];omega
 have hτ:τ.length=n:=by rw[←cf.len];exact hn
 have back:∀(i:Nat) (o:O),i<n->e[i]?=some (.s true o)->(∃o0,args[i]?=some (.s true o0))/\σ'[i]?=τ[i]?:=fun i o hi h=>by
  obtain⟨⟨o0,h3⟩,h5⟩:=g.st.io i o h;grind
 obtain⟨W2,h1,h2⟩:=g.cf.at_.outs hle hτ fun i o hi h=>(back i o hi h).2
 have sm:Same (hide (hd2 (hd2 B Z) W') H') (hide (hd2 (hd2 B Z) W2) H'):=jV fun a z=>by have:=h2 a;dsimp only[hd2]at *;omega
 have sm2:Same (hide (hd2 B (hd2 W' Z)) H') (hide (hd2 B (hd2 W2 Z)) H'):=jV fun a z=>by have:=h2 a;dsimp only[hd2]at *;omega
 refine⟨W2,⟨g.st.same.trans sm2,g.st.by_,fun a z=>g.st.new a (by have:=h2 a;dsimp only[hd2]at *;omega),g.st.dom,fun a z1 z2=>g.st.pin a z1 (by have:=h2 a;dsimp only[hd2]at *;omega),fun i o h=>?_,by rw[vVs hle,hn]⟩,
  ⟨h1.keep sm fun _ _=>rfl,fun a=>by have:=h2 a;have:=g.cf.nd a;dsimp only[hd2]at *;omega,g.cf.hb⟩,g.at_.keep sm fun _ _=>rfl⟩
 obtain⟨hi,h3⟩:=vVt h;grind
end
theorem fnD{K:aQ}{base:Heap}{x:Str}{st:Stmt}{f:aV}{k:Nat}(F:Fun K x qual st f fd)(S:FnScope N ps (qP st))(hb:∀(cdv:Value) (A:bS) (outer:List Env) (s:aJ) (H:Hp) (E:XK),Room k (A.deeper (envOfC qual (qP st) s.heap.objs.size f cdv))->SDs (cxOf (CXd P w) P w K mg base N qual (qP st) f cdv A outer s H E) c E (jW st) body):
  FnOk P w K mg base (CXd P w) (k+1) f fd ps (spD K c ps.length (fnS ps.length (N.length - ps.length) body)):=by
 refine F.okD S (fun vs H Q E h=>?_) (fun cdv Ar outer s H vs Q E hr h=>?_)
 ·obtain⟨args,B,W,hl,cf,_⟩:=h;have:=cf.len;rw[aK]at this;omega
 ·obtain⟨args,B,W,hl,cf,wp0⟩:=h;have hvl:vs.length=ps.length:=by
   have:=cf.len;rw[aK]at this;omega
  refine⟨_,(hb cdv Ar outer s H E hr).h,?_⟩;have hst:L2.qVx N vs=vs.map some ++ List.replicate (N.length - ps.length) none:=by unfold L2.qVx;rw[hvl]
  show tS K c E body _ (L2.qVx N vs) H;rw[hst];unfold fnS at wp0;refine⟨args ++ List.replicate (N.length - ps.length) .un,B,W,cf.ext,wp_mono (fun o ho=>?_) (fun _ _ he=>he) (qX.mp wp0)⟩;cases o with
  | nx e=>
    intro σ' H' W' st' cf';have g:GotR K c (args ++ List.replicate (N.length - ps.length) .un) (vs.map some ++ List.replicate (N.length - ps.length) none) H B W e σ' H' W' (fun _=>0) (.fz .non) .non :=⟨st'.cast (fun _=>rfl) (fun _=>rfl) fun _=>rfl,cf'.cast (fun _=>rfl) fun _=>rfl,OAt.fz.mpr ⟨.non,fun _=>rfl⟩⟩
    obtain⟨W2,g2⟩:=g.out hl cf;exact ho .non H' W2 _ g2
  | rt r e=>
    intro v σ' H' W' Z g;obtain⟨W2,g2⟩:=g.out hl cf;exact ho v H' W2 Z g2
  |bk e=>exact ho.elim
  |ct e=>exact ho.elim
mutual
def v6:D->Bool
 |.nd .tup ds=>flatDs ds
 |.nd _ _=>false
 |_=>true
def flatDs:List D->Bool
 |[]=>true
 |d::ds=>v6 d && flatDs ds
end
mutual
def qXo:O->Bool
 |.fz d=>v6 d
 |.ow _ os=>flatOs os
def flatOs:List O->Bool
 |[]=>true
 |o::os=>qXo o && flatOs os
end
theorem qYq:∀{ds:List D} {i:Nat} {d:D},flatDs ds=true->ds[i]?=some d->v6 d=true
 |[],i,d,h,e=>by simp at e
 | x::ds,0,d,h,e=>by
   rw[flatDs,aP]at h;cases e;exact h.1
 | x::ds,i + 1,d,h,e=>by
   rw[flatDs,aP]at h;exact qYq h.2 (by simpa using e)
section
variable{K:aQ}{c:Nat->aV}{F F' H H' :Hp}
theorem zQu(k:∀a o,F a=some o->¬Hb o->F' a=some o){p:aV}(h:SqT K F p vs):SqT K F' p vs:=by
 rcases h with(h|⟨o,h⟩)|h
 ·exact .inl (.inl (k _ _ h fun z=>z))
 ·exact .inl (.inr ⟨o,k _ _ h fun z=>z⟩)
 ·exact .inr h
theorem DAt.flat(k:∀a o,F a=some o->¬Hb o->F' a=some o){d:D}(h:DAt K c F v d)(hf:v6 d=true):DAt K c F' v d:=by
 induction h with
 |non=>exact .non
 |int i=>exact .int i
 |str i=>exact .str i
 |bl i=>exact .bl i
 |fn i=>exact .fn i
 | @nd p kd vs ds h l r ih=>
   cases kd with
   | tup=>
     exact .nd (zQu k h) l fun i v d a b=>ih i v d a b (qYq hf b)
   |lst=>simp[v6]at hf
   |dct ks=>simp[v6]at hf
   |dcT ks=>simp[v6]at hf
   |obj C fs=>simp[v6]at hf
   |exc C fs=>simp[v6]at hf
mutual
theorem OAt.flat(k:∀a o,F a=some o->¬Hb o->F' a=some o):∀{o:O} {v:V} {Z:Fp},qXo o=true->OAt K c F H o v Z->OAt K c F' H o v Z
 | .fz d,v,Z,hf,h=>by
   rw[OAt.fz]at h⊢;rw[qXo]at hf;exact⟨h.1.flat k hf,h.2⟩
 | .ow kd os,v,Z,hf,h=>by
   rw[OAt.ow]at h⊢;rw[qXo]at hf;obtain⟨p,vs,Z',a,b,c,d⟩:=h;exact⟨p,vs,Z',a,b,OsAt.flat k hf c,d⟩
theorem OsAt.flat(k:∀a o,F a=some o->¬Hb o->F' a=some o):∀{os:List O} {vs:List V} {Z:Fp},flatOs os=true->OsAt K c F H os vs Z->OsAt K c F' H os vs Z
 |[],vs,Z,hf,h=>by rw[OsAt.nil]at h⊢;exact h
 | o::os,vs,Z,hf,h=>by
   rw[OsAt.cons]at h⊢;rw[flatOs,aP]at hf;obtain⟨v,r,Z1,Z2,a,b,c,d⟩:=h;exact⟨v,r,Z1,Z2,a,OAt.flat k hf.1 b,OsAt.flat k hf.2 c,d⟩
end
end
mutual
def ndD:D->Bool
 |.nd (.dct _) _=>false
 |.nd (.dcT _) _=>false
 |.nd _ ds=>ndDs ds
 |_=>true
def ndDs:List D->Bool
 |[]=>true
 |d::ds=>ndD d && ndDs ds
end
mutual
def ndO:O->Bool
 |.fz d=>ndD d
 |.ow _ os=>ndOs os
def ndOs:List O->Bool
 |[]=>true
 |o::os=>ndO o && ndOs os
end
noncomputable def ndS:Slot->Bool
 |.un =>true
 |.s _ o=>ndO o
theorem vVx:∀{ds:List D} {i:Nat} {d:D},ndDs ds=true->ds[i]?=some d->ndD d=true
 |[],i,d,h,e=>by simp at e
 | x::ds,0,d,h,e=>by
   rw[ndDs,aP]at h;cases e;exact h.1
 | x::ds,i + 1,d,h,e=>by
   rw[ndDs,aP]at h;exact vVx h.2 (by simpa using e)
noncomputable def isDK:HO->Prop
 |.dK _=>True
 |.dT _=>True
 |_=>False
section
variable{K:aQ}{c:Nat->aV}{F F' H H' :Hp}
theorem NdAt.nd'(k:∀a o,F a=some o->¬isDK o->F' a=some o){p:aV}(h:NdAt K c F p kd vs)(hk:∀ks,kd≠ .dct ks)(hk' :∀ks,kd≠ .dcT ks):NdAt K c F' p kd vs:=by
 cases kd with
 | lst=>
   rcases h with(h|⟨o,h⟩)|h
   ·exact .inl (.inl (k _ _ h fun z=>z))
   ·exact .inl (.inr ⟨o,k _ _ h fun z=>z⟩)
   ·exact .inr h
 | tup=>
   rcases h with(h|⟨o,h⟩)|h
   ·exact .inl (.inl (k _ _ h fun z=>z))
   ·exact .inl (.inr ⟨o,k _ _ h fun z=>z⟩)
   ·exact .inr h
 |dct ks=>grind
 |dcT ks=>grind
 |obj C fs=>obtain⟨a,dx,b⟩:=h;exact⟨a,dx,k _ _ b fun z=>z⟩
 | exc C fs=>
   obtain⟨a,ox,b,d⟩:=h;refine⟨a,ox,k _ _ b fun z=>z,?_⟩;cases ox with
   |none=>exact d
   |some dx=>exact k _ _ d fun z=>z
theorem DAt.nd'(k:∀a o,F a=some o->¬isDK o->F' a=some o){d:D}(h:DAt K c F v d)(hf:ndD d=true):DAt K c F' v d:=by
 induction h with
 |non=>exact .non
 |int i=>exact .int i
 |str i=>exact .str i
 |bl i=>exact .bl i
 |fn i=>exact .fn i
 | @nd p kd vs ds h l r ih=>
   have hk:(∀ks,kd≠ .dct ks)/\(∀ks,kd≠ .dcT ks)/\ndDs ds=true:=by
    cases kd with
    |lst=>rw[ndD]at hf <;> simp_all
    |tup=>rw[ndD]at hf <;> simp_all
    |dct ks=>simp[ndD]at hf
    |dcT ks=>simp[ndD]at hf
    |obj C fs=>rw[ndD]at hf <;> simp_all
    |exc C fs=>rw[ndD]at hf <;> simp_all
   exact .nd (h.nd' k hk.1 hk.2.1) l fun i v d a b=>ih i v d a b (vVx hk.2.2 b)
mutual
theorem OAt.nd'(k:∀a o,F a=some o->¬isDK o->F' a=some o):∀{o:O} {v:V} {Z:Fp},ndO o=true->OAt K c F H o v Z->OAt K c F' H o v Z
 | .fz d,v,Z,hf,h=>by
   rw[OAt.fz]at h⊢;rw[ndO]at hf;exact⟨h.1.nd' k hf,h.2⟩
 | .ow kd os,v,Z,hf,h=>by
   rw[OAt.ow]at h⊢;rw[ndO]at hf;obtain⟨p,vs,Z',a,b,c,d⟩:=h;exact⟨p,vs,Z',a,b,OsAt.nd' k hf c,d⟩
theorem OsAt.nd'(k:∀a o,F a=some o->¬isDK o->F' a=some o):∀{os:List O} {vs:List V} {Z:Fp},ndOs os=true->OsAt K c F H os vs Z->OsAt K c F' H os vs Z
 |[],vs,Z,hf,h=>by rw[OsAt.nil]at h⊢;exact h
 | o::os,vs,Z,hf,h=>by
   rw[OsAt.cons]at h⊢;rw[ndOs,aP]at hf;obtain⟨v,r,Z1,Z2,a,b,c,d⟩:=h;exact⟨v,r,Z1,Z2,a,OAt.nd' k hf.1 b,OsAt.nd' k hf.2 c,d⟩
end
theorem SlAt.nd'(k:∀a o,F a=some o->¬isDK o->F' a=some o):∀{env:Ev} {σ:L2.St} {Z:Fp},env.all ndS=true->SlAt K c F H env σ Z->SlAt K c F' H env σ Z
 |[],_,_,_,h=>⟨⟨h.1.1,fun z=>k _ _ (h.1.2 z) fun y=>y⟩,h.2⟩
 | s::env,σ,Z,hf,h=>by
   rw[dP,aP]at hf;obtain⟨x,r,Z1,Z2,a,b,cc,d⟩:=h;refine⟨x,r,Z1,Z2,a,?_,SlAt.nd' k hf.2 cc,d⟩;cases s with
   |un=>exact b
   | s io o=>
     cases x with
     |none=>exact b.elim
     |some v=>exact OAt.nd' k hf.1 b
end
noncomputable def dcFz:O->Bool
 | .ow (.dct _) os=>os.all fun o=>match o with
   |.fz _=>true
   |_=>false
 |_=>false
theorem vXj{K:aQ}{F:Hp}{o:O}(h:OAt K c F H o v Z)(e:dcFz o=true):∀a,Z a≠0->∃ho,H a=some ho/\isDK ho:=by
 unfold dcFz at e;split at e
 ·rename_i ks os;obtain⟨p,vs,Z',rfl,b,cc,d⟩:=h;have key:∀{os:List O} {vs:List V} {Z:Fp},(os.all fun o=>match o with|.fz _=>true|_=>false)=true->OsAt K c F H os vs Z->∀a,Z a=0:=fun {os}=>by
   induction os with
   |nil=>intro vs Z _ h;exact h.2
   | cons o os ih=>
     intro vs Z hf h;rw[dP,aP]at hf;obtain⟨v,r,Z1,Z2,_,b,cc,d⟩:=h;cases o with
     |ow _ _=>cases hf.1
     |fz x=>rw[OAt.fz]at b;intro a;rw[d,b.2,ih hf.2 cc]
  intro a z;have z0:=key e cc a;by_cases y:a=p
  ·subst y;exact⟨_,b.2.2,trivial⟩
  ·rw[d,yW y,z0]at z;exact absurd rfl z
 ·cases e
inductive Am where
 |v (s:SV)|b (s:SP)|io (i:Nat)
noncomputable def pIo(i:Nat):SP:=fun env=>match env[i]? with
 |some (.s _ _)=>some (.p i [])
 |_=>none
noncomputable def Am.o:Am->Oe
 |.v s=>.v s
 |.b s=>.p s
 |.io i=>.p (pIo i)
noncomputable def yM:List Am->List Hn->List Nat
 |.io _::as,.p j _::hs=>j::yM as hs
 |_::as,_::hs=>yM as hs
 |_,_=> []
noncomputable def yO:List Nat->Ev->Option (List O×Ev)
 |[],env=>some ([],env)
 | j::js,env=>match env[j]? with
   |some (.s _ o)=>(yO js (env.set j .un)).bind fun q=>some (o::q.1,q.2)
   |_=>none
noncomputable def flag(env:Ev)(j:Nat):Bool:=match env[j]? with
 |some (.s io _)=>io
 |_=>false
noncomputable def putS(e1:Ev):List Nat->List O->Ev->Ev
 |j::js,o::os,env=>putS e1 js os (env.set j (.s (flag e1 j) o))
 |_,_,env=>env
noncomputable def getL:List Nat->List O->Nat->Option O
 |j::js,o::os,i=>if j=i then some o else getL js os i
 |_,_,_=>none
noncomputable def yS(ls:List Nat)(lo:List O):List Am->List Hn->List O->Option Ev
 |[],[],_=>some []
 |.v _::as,.d x::hs,os=>(yS ls lo as hs os).bind fun r=>some (.s false (.fz x)::r)
 |.b _::as,.d x::hs,os=>(yS ls lo as hs os).bind fun r=>some (.s false (.fz x)::r)
 |.b _::as,.p i π::hs,os=>(getL ls lo i).bind fun o0=>(getP o0 π).bind fun o=>(yS ls lo as hs os).bind fun r=>some (.s false (.fz (fzO o))::r)
 |.io _::as,.p _ []::hs,o::os=>(yS ls lo as hs os).bind fun r=>some (.s true o::r)
 |_,_,_=>none
noncomputable def jR:List Am->List Hn->List Nat
 |.b _::as,.p i _::hs=>cond ((jR as hs).contains i) (jR as hs) (i::jR as hs)
 |_::as,_::hs=>jR as hs
 |_,_=> []
noncomputable def qWp:List Am->Ev->Option (List O)
 |[],[]=>some []
 |.io _::as,.s true o::e=>(qWp as e).bind fun r=>some (o::r)
 |.io _::_,_::_=>none
 |_::as,_::e=>qWp as e
 |_,_=>none
noncomputable def yT:List Am->List V->List V
 |.io _::as,u::us=>u::yT as us
 |_::as,_::us=>yT as us
 |_,_=> []
section
variable{K:aQ}{c:Nat->aV}{F F' H H' :Hp}
theorem qXz:∀{js:List Nat} {env envR:Ev} {os:List O} {σ:L2.St} {W:Fp},SlAt K c F H env σ W->yO js env=some (os,envR)->∃vs Wc R,js.map (fun j=>σ[j]?)=vs.map (fun v=>some (some v))/\OsAt K c F H os vs Wc/\SlAt K c F H envR σ R/\(∀a,W a=Wc a+R a)/\
  js.Nodup/\(∀j∈js,envR[j]?=some .un)/\(∀j,j∉js->envR[j]?=env[j]?)/\envR.length=env.length
 | [],env,envR,os,σ,W,h,e=>by
   cases e;exact⟨[],fun _=>0,W,rfl,OsAt.nil.mpr ⟨rfl,fun _=>rfl⟩,h,fun a=>by(try dsimp only);omega,List.nodup_nil,fun _ z=>by simp at z,fun _ _=>rfl,rfl⟩
 | j::js,env,envR,os,σ,W,h,e=>by
   simp only[yO]at e;cases e0:env[j]? with
   |none=>grind
   | some s=>
     rw[e0]at e;cases s with
     |un=>cases e
     | s io o=>
       obtain⟨q,e1,e2⟩:=bnd e;cases e2;obtain⟨x,Z1,R1,h1,h2,h3,h4⟩:=h.focus e0;cases x with
       |none=>exact h2.elim
       | some v=>
         have h5:=h4 F H .un (some v) (fun _=>0) R1 (Same.refl _) (fun _ _=>rfl) (fun _=>rfl) fun a=>by(try dsimp only);omega
         rw[yD h1]at h5;obtain⟨vs,Wc,R,a1,a2,a3,a4,a5,a6,a7,a8⟩:=qXz h5 e1;have hj:j<env.length:=(aH.mp e0).1;have nj:j∉js:=fun z=>by
          have key:∀{js:List Nat} {env:Ev} {q:List O×Ev},env[j]?=some .un ->j∈js->yO js env=some q->False:=by
           intro js;induction js with
           |nil=>grind
           | cons i is ih=>
             intro env q hu z ht;simp only[yO]at ht;by_cases hi:i=j
             ·grind
             ·rcases aA.mp z with z | z
              ·grind
              ·cases e3:env[i]? with
               |none=>grind
               | some s=>
                 rw[e3]at ht;cases s with
                 |un=>cases ht
                 | s io o=>
                   obtain⟨q',e4,_⟩:=bnd ht;grind
          grind
         refine⟨v::vs,fun a=>Z1 a+Wc a,R,by rw[aS,aS,h1,a1],OsAt.cons.mpr ⟨v,vs,Z1,Wc,rfl,h2,a2,fun _=>rfl⟩,a3,fun a=>by rw[h3,a4];(try dsimp only);omega,cS.mpr ⟨nj,a5⟩,fun i hi=>?_,fun i hi=>?_,by rw[a8,bT]⟩
         ·grind
         ·grind
theorem vQe{e1:Ev}:∀{js:List Nat} {os:List O} {vs:List V} {env:Ev} {σ:L2.St} {R Wc Y:Fp},SlAt K c F H env σ R->js.Nodup->(∀j∈js,env[j]?=some .un)->js.map (fun j=>σ[j]?)=vs.map (fun v=>some (some v))->OsAt K c F H os vs Wc->(∀a,Y a=R a+Wc a)->SlAt K c F H (putS e1 js os env) σ Y
 | [],os,vs,env,σ,R,Wc,Y,h,_,_,e,k,y=>by
   cases vs with
   |cons v vs=>cases e
   | nil=>
     cases os with
     |cons o os=>rw[OsAt.cons]at k;obtain⟨_,_,_,_,z,_⟩:=k;cases z
     | nil=>
       exact h.cast fun a=>by rw[y,k.2];omega
 | j::js,os,vs,env,σ,R,Wc,Y,h,hn,hu,e,k,y=>by
   cases vs with
   |nil=>cases e
   | cons v vs=>
     rw[aS,aS,List.cons.injEq]at e;cases os with
     |nil=>rw[OsAt.nil]at k;cases k.1
     | cons o os=>
       obtain⟨v',r,Z1,Z2,z,k1,k2,k3⟩:=k;cases z;rw[cS]at hn;obtain⟨x,Z0,R0,h1,h2,h3,h4⟩:=h.focus (hu j cH);have z0:∀a,Z0 a=0:=h2;have hx:x=some v:=by rw[e.1]at h1;exact(Option.some.inj h1).symm
       subst hx;have h5:=h4 F H (.s (flag e1 j) o) (some v) Z1 (fun a=>Z1 a+R a) (Same.refl _) (fun _ _=>rfl) k1 fun a=>by rw[h3,z0];omega
       rw[yD h1]at h5;simp only[putS];exact vQe h5 hn.2 (fun i hi=>by rw[bK fun z=>hn.1 (by rw[z];exact hi)];exact hu i (aC _ hi)) e.2 k2 fun a=>by rw[y,k3];omega
theorem qX4{e1:Ev}:∀{js:List Nat} {os:List O} {env:Ev} {i:Nat} {o:O},(putS e1 js os env)[i]?=some (.s true o)->(i∈js/\flag e1 i=true)\/env[i]?=some (.s true o)
 |[],os,env,i,o,h=>.inr (by simpa[putS] using h)
 |j::js,[],env,i,o,h=>.inr (by simpa[putS] using h)
 | j::js,o' ::os,env,i,o,h=>by
   simp only[putS]at h;rcases qX4 h with⟨h1,h2⟩|h1
   ·grind
   ·grind
theorem qX3{e1:Ev}:∀{js:List Nat} {os:List O} {env:Ev},(putS e1 js os env).length =env.length
 |[],os,env=>by simp[putS]
 |j::js,[],env=>by simp[putS]
 |j::js,o' ::os,env=>by simp only[putS];rw[qX3,bT]
theorem qXe{u:V}{x:D}(h:DAt K c F u x):wY K c F H (.s io (.fz x)) (some u) (fun _=>0):=by
 show OAt K c F H (.fz x) u (fun _=>0);rw[OAt.fz];grind
theorem vW1:∀{ls:List Nat} {lo:List O} {vs:List V} {L:Fp} {i:Nat} {o:O},OsAt K c F H lo vs L->ls.map (fun j=>σ[j]?)=vs.map (fun v=>some (some v))->getL ls lo i=some o->∃(v:V) (Z R:Fp),σ[i]?=some (some v)/\OAt K c F H o v Z/\∀a,L a=Z a+R a
 |[],lo,vs,L,i,o,h,e,g=>by cases lo <;> simp[getL]at g
 |j::js,[],vs,L,i,o,h,e,g=>by simp[getL]at g
 |j::js,o0::lo,[],L,i,o,h,e,g=>by cases e
 | j::js,o0::lo,v::vs,L,i,o,h,e,g=>by
   rw[aS,aS,List.cons.injEq]at e;obtain⟨v',r,Z1,Z2,z,b,cc,d⟩:=h;cases z;simp only[getL]at g;by_cases q:j=i
   ·rw [if_pos q] at g;cases g;exact⟨v,Z1,Z2,by rw[←q];exact e.1,b,d⟩
   ·rw [if_neg q] at g;obtain⟨w,Z,R,h1,h2,h3⟩:=vW1 cc e.2 g;exact⟨w,Z,fun a=>Z1 a+R a,h1,h2,fun a=>by rw[d,h3];(try dsimp only);omega⟩
theorem mkArgs_at{ls:List Nat}{lo:List O}{lv:List V}{L:Fp}{Fc:Hp}(ol:OsAt K c F H lo lv L)(el:ls.map (fun j=>σ[j]?)=lv.map (fun v=>some (some v)))(tb:TabF c Fc)(lk:∀a,L a≠0->Fc a=H a)(sm:Same F Fc):∀{as:List Am} {hs:List Hn} {us:List V} {os:List O} {args:Ev} {Wc:Fp},jL K c F σ H us hs->OsAt K c F H os (yT as us) Wc->yS ls lo as hs os=some args->
  SlAt K c Fc H args (us.map some) Wc/\args.length=as.length
 | [],[],us,os,args,Wc,hh,ho,e=>by
   cases e;cases us with
   |cons u us=>exact hh.elim
   | nil=>
     cases os with
     |cons o os=>rw[OsAt.cons]at ho;obtain⟨_,_,_,_,z,_⟩:=ho;cases z
     |nil=>rw[OsAt.nil]at ho;exact⟨⟨⟨rfl,tb⟩,ho.2⟩,rfl⟩
 | .v s::as, .d x::hs,us,os,args,Wc,hh,ho,e=>by
   cases us with
   |nil=>exact hh.elim
   | cons u us=>
     obtain⟨r,e1,e2⟩:=bnd e;cases e2;obtain⟨h1,h2⟩:=mkArgs_at ol el tb lk sm (as:=as) (hs:=hs) hh.2 ho e1;exact⟨⟨some u,us.map some,fun _=>0,Wc,rfl,qXe (DAt.same sm hh.1),h1,fun a=>by(try dsimp only);omega⟩,by rw[aY,aY,h2]⟩
 | .b s::as, .d x::hs,us,os,args,Wc,hh,ho,e=>by
   cases us with
   |nil=>exact hh.elim
   | cons u us=>
     obtain⟨r,e1,e2⟩:=bnd e;cases e2;obtain⟨h1,h2⟩:=mkArgs_at ol el tb lk sm (as:=as) (hs:=hs) hh.2 ho e1;exact⟨⟨some u,us.map some,fun _=>0,Wc,rfl,qXe (DAt.same sm hh.1),h1,fun a=>by(try dsimp only);omega⟩,by rw[aY,aY,h2]⟩
 | .b s::as, .p i π::hs,us,os,args,Wc,hh,ho,e=>by
   cases us with
   |nil=>exact hh.elim
   | cons u us=>
     obtain⟨o0,e0,e⟩:=bnd e;obtain⟨o,e5,e⟩:=bnd e;obtain⟨r,e1,e2⟩:=bnd e;cases e2;obtain⟨h1,h2⟩:=mkArgs_at ol el tb lk sm (as:=as) (hs:=hs) hh.2 ho e1;have hw:vE H σ i π=some u:=hh.1;have dd:DAt K c Fc u (fzO o):=by
      obtain⟨v,Z,R,g1,g2,g3⟩:=vW1 ol el e0;obtain⟨v1,Z1,R1,k1,k2,k3,k4⟩:=OAt.focus g2 e5;have:v1=u:=by
       unfold vE at hw;rw[g1]at hw;exact Option.some.inj (k1.symm.trans hw)
      subst this;exact k2.dat sm fun a z=>lk a (by rw[g3,k3];omega)
     exact⟨⟨some u,us.map some,fun _=>0,Wc,rfl,qXe dd,h1,fun a=>by(try dsimp only);omega⟩,by rw[aY,aY,h2]⟩
 | .io i::as, .p j []::hs,us,os,args,Wc,hh,ho,e=>by
   cases us with
   |nil=>exact hh.elim
   | cons u us=>
     cases os with
     |nil=>cases e
     | cons o os=>
       obtain⟨r,e1,e2⟩:=bnd e;cases e2;rw[show yT (.io i::as) (u::us)=u::yT as us from rfl,OsAt.cons]at ho;obtain⟨v,r',Z1,Z2,z,k1,k2,k3⟩:=ho;cases z;obtain⟨h1,h2⟩:=mkArgs_at ol el tb lk sm (as:=as) (hs:=hs) hh.2 k2 e1;exact⟨⟨some u,us.map some,Z1,Z2,rfl,k1.keep sm fun _ _=>rfl,h1,k3⟩,by rw[aY,aY,h2]⟩
 |.v _::_,.p _ _::_,_,_,_,_,_,_,e=>by cases e
 |.io _::_,.d _::_,_,_,_,_,_,_,e=>by cases e
 |.io _::_,.p _ (_::_)::_,_,_,_,_,_,_,e=>by cases e
 |[],_::_,_,_,_,_,_,_,e=>by cases e
 |.v _::_,[],_,_,_,_,_,_,e=>by cases e
 |.b _::_,[],_,_,_,_,_,_,e=>by cases e
 |.io _::_,[],_,_,_,_,_,_,e=>by cases e
theorem outOs_at:∀{as:List Am} {e:Ev} {us:List V} {os:List O} {W:Fp},SlAt K c F H e (us.map some) W->qWp as e=some os->∃W',OsAt K c F H os (yT as us) W' /\∀a,W' a<=W a
 | [],[],us,os,W,h,e=>by
   cases e;have:us=[]:=by simpa using h.1.1
   exact⟨fun _=>0,OsAt.nil.mpr ⟨rfl,fun _=>rfl⟩,fun _=>Nat.zero_le _⟩
 | .io i::as, .s true o::e,us,os,W,h,eq=>by
   obtain⟨r,e1,e2⟩:=bnd eq;cases e2;obtain⟨x,t,Z1,Z2,z,b,cc,d⟩:=h;cases us with
   |nil=>cases z
   | cons u us=>
     rw[aS,List.cons.injEq]at z;obtain⟨z1,z2⟩:=z;subst z1 z2;obtain⟨W',h1,h2⟩:=outOs_at cc e1;exact⟨fun a=>Z1 a+W' a,OsAt.cons.mpr ⟨u,_,Z1,W',rfl,b,h1,fun _=>rfl⟩,fun a=>by have:=h2 a;rw[d];(try dsimp only);omega⟩
 | .v _::as,s::e,us,os,W,h,eq=>by
   obtain⟨x,t,Z1,Z2,z,b,cc,d⟩:=h;cases us with
   |nil=>cases z
   | cons u us=>
     rw[aS,List.cons.injEq]at z;obtain⟨z1,z2⟩:=z;subst z2;obtain⟨W',h1,h2⟩:=outOs_at (as:=as) cc (by simpa[qWp] using eq);exact⟨W',h1,fun a=>by have:=h2 a;rw[d];omega⟩
 | .b _::as,s::e,us,os,W,h,eq=>by
   obtain⟨x,t,Z1,Z2,z,b,cc,d⟩:=h;cases us with
   |nil=>cases z
   | cons u us=>
     rw[aS,List.cons.injEq]at z;obtain⟨z1,z2⟩:=z;subst z2;obtain⟨W',h1,h2⟩:=outOs_at (as:=as) cc (by simpa[qWp] using eq);exact⟨W',h1,fun a=>by have:=h2 a;rw[d];omega⟩
 |.io _::_,.un ::_,_,_,_,_,eq=>by cases eq
 |.io _::_,.s false _::_,_,_,_,_,eq=>by cases eq
 |[],_::_,_,_,_,_,eq=>by cases eq
 |.v _::_,[],_,_,_,_,eq=>by cases eq
 |.b _::_,[],_,_,_,_,eq=>by cases eq
 |.io _::_,[],_,_,_,_,eq=>by cases eq
theorem qQa{ls:List Nat}{lo:List O}:∀{as:List Am} {hs:List Hn} {us:List V} {os:List O} {args:Ev},jL K c F σ H us hs->yS ls lo as hs os=some args->(yM as hs).map (fun j=>σ[j]?)=(yT as us).map (fun v=>some (some v))
 |[],[],us,os,args,hh,_=>by cases us <;> rfl
 | .io i::as, .p j []::hs,us,os,args,hh,e=>by
   cases us with
   |nil=>exact hh.elim
   | cons u us=>
     cases os with
     |nil=>cases e
     | cons o os=>
       obtain⟨r,e1,_⟩:=bnd e;have w:vE H σ j []=some u:=hh.1;have w2:σ[j]?=some (some u):=by
        unfold vE at w;cases e:σ[j]? with
        |none=>grind
        | some y=>
          rw[e]at w;cases y with
          |none=>cases w
          | some v=>have:v=u:=by cases v <;> simpa [walk] using w
                    rw[this]
       simp only[yM,yT,aS];rw[w2,qQa hh.2 e1]
 | .v s::as, .d x::hs,us,os,args,hh,e=>by
   cases us with
   |nil=>exact hh.elim
   | cons u us=>
     obtain⟨r,e1,_⟩:=bnd e;simp only[yM];exact qQa hh.2 e1
 | .b s::as, .d x::hs,us,os,args,hh,e=>by
   cases us with
   |nil=>exact hh.elim
   | cons u us=>
     obtain⟨r,e1,_⟩:=bnd e;simp only[yM];exact qQa hh.2 e1
 | .b s::as, .p i π::hs,us,os,args,hh,e=>by
   cases us with
   |nil=>exact hh.elim
   | cons u us=>
     obtain⟨o0,_,e⟩:=bnd e;obtain⟨o,_,e⟩:=bnd e;obtain⟨r,e1,_⟩:=bnd e;simp only[yM];exact qQa hh.2 e1
 |.v _::_,.p _ _::_,_,_,_,_,e=>by cases e
 |.io _::_,.d _::_,_,_,_,_,e=>by cases e
 |.io _::_,.p _ (_::_)::_,_,_,_,_,e=>by cases e
 |[],_::_,_,_,_,_,e=>by cases e
 |.v _::_,[],_,_,_,_,e=>by cases e
 |.b _::_,[],_,_,_,_,e=>by cases e
 |.io _::_,[],_,_,_,_,e=>by cases e
end
noncomputable def qJ7(lo:List O)(r:O)(os:List O):Bool:=lo.isEmpty || (qXo r && flatOs os) || (lo.all dcFz && ndO r && ndOs os)
noncomputable def wN(F:Fn)(as:List Am)(hs:List Hn)(env:Ev):Res (O×Ev):=(opt (yO (jR as hs) env)).bind fun t0=>(opt (yO (yM as hs) t0.2)).bind fun t=>(opt (yS (jR as hs) t0.1 as hs t.1)).bind fun args=>(F args).bind fun q=>(opt (qWp as q.2)).bind fun os=>
 cond (qJ7 t0.1 q.1 os) (.ok (q.1,putS env (jR as hs) t0.1 (putS env (yM as hs) os t.2))) .no
noncomputable def qG(F:Fn)(as:List Am):SE:=fun env=>(evOs (as.map Am.o) env).bind fun r=>wN F as r.1 r.2
theorem vWm{e1:Ev}:∀{js:List Nat} {os:List O} {env:Ev} {i:Nat},i∉js->(putS e1 js os env)[i]?=env[i]?
 |[],os,env,i,_=>by cases os <;> rfl
 |j::js,[],env,i,_=>rfl
 | j::js,o::os,env,i,h=>by
   simp only[putS];rw[vWm fun z=>h (aC _ z),bK fun z=>h (by rw[z];exact cH)]
theorem qQ8{K:aQ}{hs:List Hn}{F:Fn}(cf:Cf K c env σ H B W)(hh:jL K c (hide (hd2 B W) H) σ H us hs)(hw:(wN F as hs env).wp (fun r=>∀u H' W' Z,Got K c env σ H B W r.2 H' W' Z r.1 u->Q u H') (erP K c E H B W)):spD K c as.length F us H Q E:=by
 obtain⟨t0,e0,w0⟩:=qC hw
 obtain⟨t,e1,w1⟩:=qC w0
 obtain⟨args,e2,w2⟩:=qC w1
 obtain⟨lo,eL⟩:=t0
 obtain⟨os,eR⟩:=t
 obtain⟨lv,L,R1,l1,l2,l3,l4,l5,l6,l7,l8⟩:=qXz cf.at_ e0
 obtain⟨vs,Wc,R,a1,a2,a3,a4',a5,a6,a7,a8⟩:=qXz l3 e1
 have a4:∀a,W a=L a+(Wc a+R a):=fun a=>by rw[l4,a4']
 have hv:=qQa hh e2
 have hvs:vs=yT as us:=by
  have e:vs.map (fun v=>some (some v))=(yT as us).map (fun v=>some (some v)):=a1.symm.trans hv
  exact List.map_inj_right (f:=fun v:V=>some (some v)) (fun x y h=>Option.some.inj (Option.some.inj h)) |>.mp e
 subst hvs
 have nd:∀a,B a+(L a+(Wc a+R a))<=1:=fun a=>by have:=cf.nd a;rw[a4]at this;exact this
 let Bc:Fp:=fun a=>B a+R a
 have bc:∀a,Bc a=B a+R a:=fun _=>rfl
 have smc:Same (hide (hd2 B W) H) (hide (hd2 Bc Wc) H):=jV fun a z=>by have:=a4 a;have:=bc a;dsimp only[hd2]at *;omega
 have Lv:∀a,L a≠0->hide (hd2 Bc Wc) H a=H a:=fun a q=>v4 (by have:=nd a;have:=bc a;dsimp only[hd2];omega)
 obtain⟨sA,la⟩:=mkArgs_at l2 l1 (cf.at_.tab.same smc) Lv smc (as:=as) (hs:=hs) hh a2 e2
 have hbR:∀a,B a+(L a+R a)≠0->∃o,H a=some o/\Hb o:=fun a z=>cf.hbs (by rw[a4];omega)
 have cfc:Cf K c args (us.map some) H Bc Wc:=⟨sA,fun a=>by have:=nd a;rw[bc];omega,fun a z=>hbR a (by rw[bc]at z;omega)⟩
 refine⟨args,Bc,Wc,la,cfc,wp_mono (fun q w3 v H' W' Z g=>?_) (fun C fs he H2 Y ox sx er=>?_) (qX.mp w2)⟩
 rotate_left
 · -- an error:what lies aside stays
   have eq:hide (hd2 B fun a=>Y a+R a) H2=hide (hd2 Bc Y) H2:=jJ fun a=>by have:=bc a;dsimp only[hd2];omega
   exact he H2 (fun a=>Y a+R a) ox ⟨by rw[eq];exact smc.trans sx.same,fun a z=>sx.by_ a (by rw[bc];omega),sx.dom⟩ (by rw[eq];exact er)
 obtain⟨os',e3,w4⟩:=qC w3
 obtain⟨hf,w5⟩:=zE w4
 have cellR:∀a,R a≠0->H' a=H a:=fun a z=>g.st.by_ a (by rw[bc];omega)
 have cellL:∀a,L a≠0->H' a=H a:=fun a z=>by
  obtain⟨o,h1,_⟩:=hbR a (by omega)
  have h2:=g.st.same a o (by rw[Lv a z];exact h1)
  rw[(wC h2).2,h1]
 have cellB:∀a,B a≠0->H' a=H a:=fun a z=>g.st.by_ a (by rw[bc];omega)
 obtain⟨W2,b1,b2⟩:=outOs_at g.cf.at_ e3
 have newL:∀a,L a≠0->W' a+Z a=0:=fun a z=>by
  by_cases q0:W' a+Z a=0
  ·exact q0
  ·rcases g.st.new a (by dsimp only [hd2];omega) with q1 | q1
   ·have:=nd a;omega
   ·obtain⟨o,h1,_⟩:=hbR a (by omega);rw[q1]at h1;cases h1
 have nd4:∀a,B a+Z a+(L a+(R a+W2 a))<=1:=fun a=>by
  have n1:=g.cf.nd a
  have n2:=b2 a
  have n3:=nd a
  have n4:=bc a
  dsimp only[hd2]at n1
  by_cases z:L a=0
  ·omega
  ·have:=newL a z;omega
 have sm4:Same (hide (hd2 B W) H) (hide (hd2 (hd2 B Z) (fun a=>L a+(R a+W2 a))) H'):=fun a o h=>by
  obtain⟨z1,z2⟩:=wC h
  obtain⟨z3,z4⟩:=wC (g.st.same a o (smc a o h))
  rw[v4]
  ·exact z4
  ·have:=a4 a;have:=b2 a
   dsimp only[hd2]at *
   omega
 have kF:∀(P:HO->Prop),(∀a,L a≠0->∃o,H a=some o/\P o)->∀a o,hide (hd2 (hd2 Bc Z) W') H' a=some o->¬P o->hide (hd2 (hd2 B Z) (fun a=>L a+(R a+W2 a))) H' a=some o:=fun P hP a o q1 q2=>by
  obtain⟨z1,z2⟩:=wC q1
  rw[v4]
  ·exact z2
  ·have:=b2 a;have:=bc a
   by_cases z:L a=0
   ·dsimp only[hd2]at *;omega
   ·obtain⟨o2,h1,h2⟩:=hP a z
    rw[cellL a z,h1]at z2
    cases z2
    exact absurd h2 q2
 have fin:OAt K c (hide (hd2 (hd2 B Z) (fun a=>L a+(R a+W2 a))) H') H' q.1 v Z/\OsAt K c (hide (hd2 (hd2 B Z) (fun a=>L a+(R a+W2 a))) H') H' os' (yT as us) W2:=by
  unfold qJ7 at hf
  rw[Bool.or_eq_true,Bool.or_eq_true]at hf
  rcases hf with(hf|hf)|hf
  ·have hl0:lo=[]:=List.isEmpty_iff.mp hf
   subst hl0
   rw[OsAt.nil]at l2
   have sm:Same (hide (hd2 (hd2 Bc Z) W') H') (hide (hd2 (hd2 B Z) (fun a=>L a+(R a+W2 a))) H'):=jV fun a z=>by have:=b2 a;have:=l2.2 a;have:=bc a;dsimp only[hd2]at *;omega
   exact⟨g.at_.keep sm fun _ _=>rfl,b1.keep sm fun _ _=>rfl⟩
  ·rw [aP] at hf
   have k:=kF Hb fun a z=>by obtain⟨o,h1,h2⟩:=hbR a (by omega);exact⟨o,h1,h2⟩
   exact⟨g.at_.flat k hf.1,b1.flat k hf.2⟩
  ·rw [aP,aP] at hf
   have hP:∀{lo:List O} {lv:List V} {L:Fp},lo.all dcFz=true->OsAt K c (hide (hd2 B W) H) H lo lv L->∀a,L a≠0->∃o,H a=some o/\isDK o:=fun {lo}=>by
    induction lo with
    |nil=>intro lv L _ h a z;rw[OsAt.nil]at h;exact absurd (h.2 a) z
    | cons o lo ih=>
      intro lv L hl h a z
      rw[dP,aP]at hl
      rw[OsAt.cons]at h
      obtain⟨v,r,Z1,Z2,_,p1,p2,p3⟩:=h
      by_cases y:Z1 a=0
      ·exact ih hl.2 p2 a (by rw[p3]at z;omega)
      ·exact vXj p1 hl.1 a y
   have k:=kF isDK (hP hf.1.1 l2)
   exact⟨g.at_.nd' k hf.1.2,b1.nd' k hf.2⟩
 have sl3:=vQe (e1:=env) (a3.keep sm4 cellR) a5 a6 a1 fin.2 (Y:=fun a=>R a+W2 a) fun _=>rfl
 have sl4:=vQe (e1:=env) sl3 l5 (fun j hj=>by
  by_cases z:j∈yM as hs
  · -- taken twice:not so
    exfalso
    have:eL[j]?=some .un :=l6 j hj
    have key:∀{js:List Nat} {env:Ev} {q:List O×Ev},env[j]?=some .un ->j∈js->yO js env=some q->False:=by
     intro js
     induction js with
     |nil=>intro env q _ z;simp at z
     | cons i is ih=>
       intro env q hu z ht
       simp only[yO]at ht
       by_cases hi:i=j
       ·subst hi;rw[hu]at ht;cases ht
       ·rcases aA.mp z with z | z
        ·exact hi z.symm
        ·cases e3:env[i]? with
         |none=>rw[e3]at ht;cases ht
         | some s=>
           rw[e3]at ht
           cases s with
           |un=>cases ht
           | s io o=>
             obtain⟨q',e4,_⟩:=bnd ht
             exact ih (by rw[bK hi];exact hu) z e4
    exact key this z e1
  ·rw[vWm z,a7 j z];exact l6 j hj) l1 (l2.keep sm4 cellL) (Y:=fun a=>L a+(R a+W2 a)) fun a=>by(try dsimp only);omega
 refine w5 v H' (fun a=>L a+(R a+W2 a)) Z ⟨⟨?_,cellB,fun a z=>?_,g.st.dom,fun a z1 z2=>?_,fun i o h=>?_,by rw[qX3,qX3,a8,l8]⟩,⟨sl4,fun a=>nd4 a,fun a z=>?_⟩,fin.1⟩
 ·rw [show hide (hd2 B (hd2 (fun a=>L a + (R a + W2 a)) Z)) H' =hide (hd2 (hd2 B Z) (fun a=>L a + (R a + W2 a))) H' from jJ fun a=>by dsimp only [hd2];omega]
  exact sm4
 ·by_cases q0:L a + R a=0
  ·rcases g.st.new a (by have:=b2 a;dsimp only [hd2] at *;omega) with q1 | q1
   ·exact .inl (by rw[a4];omega)
   ·exact .inr q1
  ·exact .inl (by rw[a4];omega)
 ·by_cases q1:L a=0
  ·by_cases q0:R a=0
   ·exact g.st.pin a (by rw[a4]at z1;omega) (by have:=b2 a;dsimp only[hd2]at *;omega)
   ·exact .of (cellR a q0)
  ·exact .of (cellL a q1)
 ·refine⟨?_,rfl⟩
  have fl:flag env i=true->∃o0,env[i]?=some (.s true o0):=fun h2=>by
   unfold flag at h2
   split at h2
   ·rename_i io o' e
    rw[h2]at e
    exact⟨o',e⟩
   ·cases h2
  rcases qX4 h with⟨h1,h2⟩|h1
  ·exact fl h2
  ·rcases qX4 h1 with⟨h1,h2⟩ | h1
   ·exact fl h2
   ·by_cases z:i∈yM as hs
    ·rw[a6 i z]at h1;cases h1
    ·rw [a7 i z] at h1
     by_cases y:i∈jR as hs
     ·rw[l6 i y]at h1;cases h1
     ·rw[l7 i y]at h1;exact⟨o,h1⟩
 ·by_cases q0:B a=0
  ·exact g.cf.hb a (by have:=bc a;dsimp only[hd2]at *;omega)
  ·rw[cellB a q0];exact cf.hb a q0
theorem zQt{K:aQ}{F:Fn}(h:tE K c E (qG F as) σ H Q):zW5 (spD K c as.length F) [] E (tOs K c E (as.map Am.o)) σ H Q:=by
 obtain⟨env,B,W,cf,w⟩:=h;refine qVb cf (qX.mp w) fun r1 w1 us H1 W1 g=>?_
 rw[bG];exact qQ8 g.cf g.at_ (wp_mono (fun r q v H' W' Z g2=>q v H' W' Z (g2.back g.st)) (fun _ _ he=>he.back g.st) w1)
section
variable{X:Cx}{c:Nat->aV}{E:XK}{k:Nat}{f:aV}{fd:bQ}{ps:List Str}{x:Str}{p pos:Pos}{e:Expr}{es:List Expr}{F:Fn}{as:List Am}
theorem qVj(G:FnOk X.prog X.w X.K X.mg X.base (CXd X.prog X.w) k f fd ps (spD X.K c as.length F))(hr:Room k X.A)(hg:Gl X x)(hm:X.mg x=some (.ref f))(hk:cX X.K (.ref f)=true)(hb:wI X.K fd ps [])(hx:jM (CXd X.prog X.w) X E)(ha:OsD X c E (e::es) (as.map Am.o))(hdb:(x == ("__debug__":Str))=false:=by decide)(he:aX (e::es) X.env=(false,eval e X.env)::aX es X.env:=by rfl)(hpl:(bI pos (aX es X.env)).any (·.1)=false:=by rfl):
  ED X c E (.Call (.Name x p) (e::es) [] pos) (qG F as):=
 ⟨PE.imp (zJt G hr hg hm hk hb .nil hx ha.h hdb he hpl) fun _ _ _ h=>zQt h⟩
theorem yL(h:PE X e (tVar i)):OD X c E e (Am.io i).o :=by
 refine⟨PE.imp h fun σ H Q=>?_⟩;rintro⟨env,B,W,h1,cf,e0,q⟩;simp only[pIo]at e0;cases e1:env[i]? with
 |none=>grind
 | some s=>
   rw[e1]at e0;cases s with
   |un=>cases e0
   | s io o=>
     cases e0;obtain⟨x,Z1,R,h1,h2,h3,h4⟩:=cf.focus e1;cases x with
     |none=>exact h2.elim
     |some v=>exact⟨v,h1,q v (by show vE H σ i []=some v;unfold vE;rw[h1];simp[walk])⟩
end
noncomputable def hasF(m:Str)(fs:List Str):Bool:=fs.any fun g=>decide (m=g)
noncomputable def qJh(env:Ev)(h:Hn)(C:Nat)(m:Str):Bool:=match rsv env h with
 |some (.nd (.obj C' fs) _)=>C' == C &&!hasF m fs
 |_=>false
noncomputable def j5(C:Nat)(m:Str)(F:Fn)(a0:Am)(as:List Am):SE:=fun env=>(evO a0.o env).bind fun r0=>cond (qJh r0.2 r0.1 C m && (r0.1.st || (as.map Am.o).all Oe.isP)) ((evOs (as.map Am.o) r0.2).bind fun r=>wN F (a0::as) (r0.1::r.1) r.2) .no
theorem qWi:∀{fs:List Str} {vs:List V},hasF m fs=false->(fs.zip vs).lookup m=none
 |[],vs,_=>by simp
 |g::r,[],_=>by simp
 | g::r,v::vs,h=>by
   unfold hasF at h;rw[List.any_cons,Bool.or_eq_false_iff]at h;rw[bP,List.lookup,show(m == g)=false from beq_eq_false_iff_ne.mpr (of_decide_eq_false h.1)];exact qWi h.2
section
variable{K:aQ}{c:Nat->aV}{E:XK}
theorem vVf{F:Fn}(h:tE K c E (j5 C m F a0 as) σ H Q):vJv (c C) m (spD K c (a0::as).length F) [] E (tO K c E a0.o) (tOs K c E (as.map Am.o)) σ H Q:=by
 obtain⟨env,B,W,cf,w⟩:=h;refine qVw cf (qX.mp w) fun r0 w1 u H1 W1 g1=>?_
 obtain⟨hs,w2⟩:=zE w1;rw[aP]at hs;obtain⟨ho,hst⟩:=hs;have obj:∃a dx fs,u=.ref a/\H1 a=some (.ins (c C) dx fs)/\fs.lookup m=none:=by
  unfold qJh at ho;split at ho
  ·rename_i C' fs ds e;rw[aP,Bool.not_eq_true']at ho;obtain⟨p,vs,rfl,⟨h1,dx,h2⟩,h3⟩:=(xZ g1.cf g1.at_ e).un;have:C' =C:=by simpa using ho.1
   subst this;exact⟨p,dx,_,rfl,h2,qWi ho.2⟩
  ·cases ho
 obtain⟨a,dx,fs,rfl,h2,h3⟩:=obj;refine⟨a,dx,fs,rfl,h2,h3,?_⟩;refine qVb g1.cf (wp_mono (fun _ q=>q) (fun _ _ he=>he.back g1.st) (qX.mp w2)) fun r w3 us H2 W2 g2=>?_
 rw[bG];have hh:jL K c (hide (hd2 B W2) H2) σ H2 (.ref a::us) (r0.1::r.1):=by
  refine⟨?_,g2.at_⟩;cases e:r0.1.st with
  |true=>exact g1.at_.step g2.st.same e
  | false=>
    rw[e]at hst;obtain⟨e1,e2,_⟩:=g2.pu (by simpa using hst);rw[e1,e2];exact g1.at_
 exact qQ8 g2.cf hh (wp_mono (fun r q v H' W' Z g=>q v H' W' Z (g.back (g1.st.trans g2.st))) (fun _ _ he=>he.back (g1.st.trans g2.st)) w3)
end
section
variable{X:Cx}{c:Nat->aV}{E:XK}{k:Nat}{f:aV}{fd:bQ}{ps:List Str}{x m:Str}{p pos apos:Pos}{e o:Expr}{es:List Expr}{F:Fn}{a0:Am}{as:List Am}{C:Nat}
theorem vW8(ho:OD X c E o a0.o)(hc:Cls X.K (c C))(hm:Meth X.K (c C) m f)(G:FnOk X.prog X.w X.K X.mg X.base (CXd X.prog X.w) k f fd ps (spD X.K c (a0::as).length F))(hr:Room k X.A)(hb:wI X.K fd ps [])(hx:jM (CXd X.prog X.w) X E)(ha:OsD X c E (e::es) (as.map Am.o))(hst:aX (e::es) X.env=(false,eval e X.env)::aX es X.env:=by rfl)(hpl:(bI pos (aX es X.env)).any (·.1)=false:=by rfl)(ht:eval (.Call (.Attribute o m apos) (e::es) [] pos) X.env=(do
   let ov ←eval o X.env;standAt apos.atName;let (f,first) ←holding [ov] (getMethod ov m pl);callWith pos f first (bI pos (aX (e::es) X.env)) (backToKw pos (keywordEach [] X.env))):=by rfl):
  ED X c E (.Call (.Attribute o m apos) (e::es) [] pos) (j5 C m F a0 as):=
 ⟨PE.imp (vWp ho.h hc hm G hr hb .nil hx ha.h hst hpl ht) fun _ _ _ h=>vVf h⟩
theorem zZf(ho:OD X c E o a0.o)(hc:Cls X.K (c C))(hm:Meth X.K (c C) m f)(G:FnOk X.prog X.w X.K X.mg X.base (CXd X.prog X.w) k f fd ps (spD X.K c 1 F))(hr:Room k X.A)(hb:wI X.K fd ps [])(hx:jM (CXd X.prog X.w) X E)(ht:eval (.Call (.Attribute o m apos) [] [] pos) X.env=(do
   let ov ←eval o X.env;standAt apos.atName;let (f,first) ←holding [ov] (getMethod ov m pl);callWith pos f first (bI pos (aX [] X.env)) (backToKw pos (keywordEach [] X.env))):=by rfl):
  ED X c E (.Call (.Attribute o m apos) [] [] pos) (j5 C m F a0 []):=
 ⟨PE.imp (zVe ho.h hc hm G hr hb .nil hx ht) fun _ _ _ h=>vVf (as:=[]) h⟩
end
noncomputable def popL(env:Ev)(n:Nat):Option (O×Ev):=match env[n]? with
 |some (.s _ o)=>some (o,env.take n)
 |_=>none
noncomputable def qWs(C:Nat)(F:Fn)(as:List Am):SE:=fun env=>(evOs (as.map Am.o) env).bind fun r=>(wN F (.io r.2.length::as) (.p r.2.length []::r.1) (r.2 ++ [.s false (.ow (.obj C []) [])])).bind fun q=>match q.1 with
 |.fz .non =>opt (popL q.2 r.2.length)
 |_=>.no
section
variable{K:aQ}{c:Nat->aV}{E:XK}
theorem qKc(sm:Same H H'):∀{π:List Nat} {v u:V},walk H v π=some u->walk H' v π=some u
 |[],v,u,h=>by cases v <;> simpa[walk] using h
 | j::π,v,u,h=>by
   cases v with
   | ref p=>
     simp only[walk]at h⊢;cases e:H p with
     |none=>grind
     | some o=>
       rw[e]at h;rw[sm p o e];dsimp only at h⊢;cases e2:(kids o)[j]? with
       |none=>grind
       |some v=>rw[e2]at h;exact qKc sm h
   |_=>cases h
theorem jL.push{F:Hp}{y:L2.St}(sF:Same F F')(sm:Same H H'):∀{us:List V} {hs:List Hn},jL K c F σ H us hs->jL K c F' (σ ++ y) H' us hs
 |[],[],_=>trivial
 | u::us,h::hs,a=>by
   refine⟨?_,jL.push sF sm a.2⟩;cases h with
   |d x=>exact DAt.same sF a.1
   | p i π=>
     have w:vE H σ i π=some u:=a.1;show vE H' (σ ++ y) i π=some u;unfold vE at w⊢;cases e:σ[i]? with
     |none=>grind
     | some x=>
       rw[e]at w;rw[List.getElem?_append_left (aH.mp e).1,e];cases x with
       |none=>cases w
       |some v=>exact qKc sm w
 |[],_::_,a=>a.elim
 |_::_,[],a=>a.elim
theorem SlAt.pop{F:Hp}:∀{env:Ev} {σ:L2.St} {s:Slot} {x:Option V} {Z:Fp} {n:Nat},SlAt K c F H env (σ ++ [x]) Z->env[n]?=some s->n=σ.length->∃Z1 R,wY K c F H s x Z1/\SlAt K c F H (env.take n) σ R/\∀a,Z a=Z1 a+R a
 |[],σ,s,x,Z,n,h,e,hn=>by simp at e
 | s0::env,[],s,x,Z,n,h,e,hn=>by
   subst hn;obtain⟨y,r,Z1,Z2,e1,b,cc,d⟩:=h;cases e1;cases e;have:env=[]:=by
    cases env with
    |nil=>rfl
    |cons s1 env=>obtain⟨_,_,_,_,z,_⟩:=cc;cases z
   subst this;exact⟨Z1,Z2,b,⟨⟨rfl,cc.1.2⟩,cc.2⟩,d⟩
 | s0::env,y::σ,s,x,Z,n,h,e,hn=>by
   subst hn;obtain⟨y',r,Z1,Z2,e1,b,cc,d⟩:=h;cases e1;obtain⟨Z3,R,h1,h2,h3⟩:=SlAt.pop (σ:=σ) cc (by simpa using e) rfl;exact⟨Z3,fun a=>Z1 a+R a,h1,⟨_,_,Z1,R,rfl,b,h2,fun _=>rfl⟩,fun a=>by rw[d,h3];(try dsimp only);omega⟩
theorem vVg{F:Fn}(h:tE K c E (qWs C F as) σ H Q):vY8 (c C) (spD K c (as.length+1) F) [] E (tOs K c E (as.map Am.o)) σ H Q:=by
 obtain⟨env,B,W,cf,w⟩:=h;refine qVb cf (qX.mp w) fun r w1 us H1 W1 g=>?_
 intro x dx hx hdx hne;rw[bG];have sm1:Same H1 (upd H1 dx (.own x)):=.upd hdx;have hx1:upd H1 dx (.own x) x=none:=by rw[qF fun z=>hne z.symm];exact hx
 have sm2:Same (upd H1 dx (.own x)) (upd (upd H1 dx (.own x)) x (.ins (c C) dx [])):=.upd hx1;have cf1:=g.cf.grow sm1;have gl:Got K c r.2 σ (upd H1 dx (.own x)) B W1 r.2 (upd (upd H1 dx (.own x)) x (.ins (c C) dx [])) W1 (one x) (.ow (.obj C []) ([].map .fz)) (.ref x):=Got.lay cf1 hx1 sm2 (k:=.obj C []) (vs:=[]) (ds:=[]) ⟨rfl,dx,upd_same⟩ .nil;generalize hH:upd (upd H1 dx (.own x)) x (.ins (c C) dx [])=H2 at *;have stG:Step r.2 σ H1 B W1 r.2 σ H2 (hd2 W1 (one x)):=(Step.grow g.cf sm1).trans gl.st;have lenσ:σ.length=r.2.length:=g.cf.len.symm;have hid:hide (hd2 (hd2 B (one x)) W1) H2=hide (hd2 B (hd2 W1 (one x))) H2:=jJ fun a=>by dsimp only[hd2];omega
 have cfP:Cf K c (r.2 ++ [.s false (.ow (.obj C []) [])]) (σ ++ [some (.ref x)]) H2 B (hd2 W1 (one x)):=by
  refine⟨?_,fun a=>by have:=gl.cf.nd a;dsimp only[hd2]at *;omega,fun a z=>gl.cf.hb a (by dsimp only[hd2];omega)⟩;rw[←hid];refine(gl.cf.at_.append (env' :=[.s false (.ow (.obj C []) [])]) (σ' :=[some (.ref x)]) (Z' :=one x) ⟨some (.ref x),[],one x,fun _=>0,rfl,gl.at_,⟨⟨rfl,gl.cf.at_.tab⟩,fun _=>rfl⟩,fun a=>by(try dsimp only);omega⟩)
 have hh:jL K c (hide (hd2 B (hd2 W1 (one x))) H2) (σ ++ [some (.ref x)]) H2 (.ref x::us) (.p r.2.length []::r.1):=by
  refine⟨?_,jL.push stG.same (sm1.trans sm2) g.at_⟩;show vE H2 (σ ++ [some (.ref x)]) r.2.length []=some (.ref x);unfold vE;rw[List.getElem?_append_right (by omega),show r.2.length - σ.length=0 by omega];rfl
 refine qQ8 (as:=.io r.2.length::as) cfP hh (wp_mono (fun q w2 v H' W' Z gq=>?_) (fun C fs he=>?_) (qX.mp w1));rotate_left
 ·exact(he.back g.st).back stG
 obtain⟨q1,q2⟩:=q;cases q1 with
 |ow k os=>exact w2.elim
 | fz d=>
   cases d with
   | non=>
     have ev:=gq.at_;have hv:v=.non :=by cases ev.1;rfl
     refine⟨hv,?_⟩;obtain⟨p,e1,w3⟩:∃p,popL q2 r.2.length=some p/\∀u H' W' Z,Got K c env σ H B W p.2 H' W' Z p.1 u->Q u H' :=by
      cases e:popL q2 r.2.length with
      |none=>dsimp only at w2;rw[e]at w2;exact w2.elim
      |some p=>dsimp only at w2;rw[e]at w2;exact⟨p,rfl,w2⟩
     unfold popL at e1;split at e1
     ·rename_i io o e2;cases e1;obtain⟨Z1,R,h1,h2,h3⟩:=SlAt.pop gq.cf.at_ e2 lenσ.symm;have zz:∀a,Z a=0:=ev.2;have hd1:hide (hd2 (hd2 B Z) W') H' =hide (hd2 (hd2 B Z1) R) H' :=jJ fun a=>by dsimp only[hd2];rw[h3,zz];omega
      have hd3:hide (hd2 B (hd2 R Z1)) H' =hide (hd2 B (hd2 W' Z)) H' :=jJ fun a=>by dsimp only[hd2];rw[h3,zz];omega
      refine w3 (.ref x) H' R Z1 ⟨(g.st.trans stG).trans ⟨by rw[hd3];exact gq.st.same,gq.st.by_,fun a z=>gq.st.new a (by dsimp only[hd2]at *;rw[h3];omega),gq.st.dom,fun a z1 z2=>gq.st.pin a z1 (by dsimp only[hd2]at *;rw[h3];omega),fun i o' h=>?_,?_⟩,⟨by rw[←hd1];exact h2,fun a=>by have:=gq.cf.nd a;dsimp only[hd2]at *;rw[h3,zz]at this;omega,fun a z=>?_⟩,by rw[←hd1];exact h1⟩
      ·have hi:i<r.2.length:=by
        grind
       rw[List.getElem?_take_of_lt hi]at h;obtain⟨⟨o0,k1⟩,k2⟩:=gq.st.io i o' h;grind
      ·grind
      ·by_cases q0:B a=0
       ·exact h1.hb (by dsimp only[hd2]at z;omega)
       ·exact gq.cf.hb a (by dsimp only[hd2];omega)
     ·cases e1
   |_=>exact w2.elim
end
section
variable{X:Cx}{c:Nat->aV}{E:XK}{k:Nat}{f:aV}{fd:bQ}{ps:List Str}{x:Str}{p pos:Pos}{e:Expr}{es:List Expr}{F:Fn}{as:List Am}{C:Nat}
theorem zWu(M:Mk X.K (c C) f)(G:FnOk X.prog X.w X.K X.mg X.base (CXd X.prog X.w) k f fd ps (spD X.K c (as.length+1) F))(hr:Room (k+1) X.A)(hg:Gl X x)(hm:X.mg x=some (.ref (c C)))(hb:wI X.K fd ps [])(hx:jM (CXd X.prog X.w) X E)(ha:OsD X c E (e::es) (as.map Am.o))(hdb:(x == ("__debug__":Str))=false:=by decide)(he:aX (e::es) X.env=(false,eval e X.env)::aX es X.env:=by rfl)(hpl:(bI pos (aX es X.env)).any (·.1)=false:=by rfl):
  ED X c E (.Call (.Name x p) (e::es) [] pos) (qWs C F as):=
 ⟨PE.imp (zJq M G hr hg hm hb .nil hx ha.h hdb he hpl) fun _ _ _ h=>vVg h⟩
theorem zZg(M:Mk X.K (c C) f)(G:FnOk X.prog X.w X.K X.mg X.base (CXd X.prog X.w) k f fd ps (spD X.K c 1 F))(hr:Room (k+1) X.A)(hg:Gl X x)(hm:X.mg x=some (.ref (c C)))(hb:wI X.K fd ps [])(hx:jM (CXd X.prog X.w) X E)(hdb:(x == ("__debug__":Str))=false:=by decide):ED X c E (.Call (.Name x p) [] [] pos) (qWs C F []):=
 ⟨PE.imp (zVf M G hr hg hm hb .nil hx hdb) fun _ _ _ h=>vVg (as:=[]) h⟩
end
noncomputable abbrev lim:Nat:=1000000
theorem qXu(h:n<=lim):n<aR:=Nat.lt_of_le_of_lt h (by decide)
section
variable{K:aQ}{c:Nat->aV}{env env' :Ev}{σ:L2.St}{H H' :Hp}{B W Z:Fp}{i:Nat}{π:List Nat}{k:Kd}{os:List O}
theorem Cf.mut(cf:Cf K c env σ H (hd2 B Z) W)(e:getE env i π=some (.ow k os)):∃p vs Zk,vE H σ i π=some (.ref p)/\OwAt c H p k vs/\OsAt K c (hide (hd2 (hd2 B Z) W) H) H os vs Zk/\
  ∀k' os' vs' Zk' Z2 ho,OsAt K c (hide (hd2 (hd2 B Z) W) H) H os' vs' Zk' ->(∀a,Zk' a+Z2 a<=Zk a+Z a)->OwAt c (upd H p ho) p k' vs' ->Hb ho->Pin (H p) (some ho)->
   ∃W',Cf K c (setE env i π (.ow k' os')) σ (upd H p ho) (hd2 B Z2) W' /\Step env σ H B (hd2 W Z) (setE env i π (.ow k' os')) σ (upd H p ho) (hd2 W' Z2)/\
    ∀o v,OAt K c (hide (hd2 (hd2 B Z) W) H) H o v Z2->OAt K c (hide (hd2 (hd2 B Z2) W') (upd H p ho)) (upd H p ho) o v Z2:=by
 obtain⟨v1,Z1,R,h1,h2,h3,h4⟩:=cf.place e;rw[OAt.ow]at h2;obtain⟨p,vs,Zk,rfl,b,cc,d⟩:=h2;refine⟨p,vs,Zk,h1,b,cc,fun k' os' vs' Zk' Z2 ho hk hz hp hb pn=>?_⟩;have nd:∀a,B a+Z a+(one p a+Zk a+R a)<=1:=fun a=>by have:=cf.nd a;rw[h3,d]at this;dsimp only[hd2]at this;omega
 have np:B p=0/\Z p=0/\Zk p=0/\R p=0:=by have:=nd p;rw[wO]at this;omega
 have nz:Zk' p=0/\Z2 p=0:=by have:=hz p;omega
 have hid:∀a,(hd2 (hd2 B Z) W) a=B a+Z a+(one p a+Zk a+R a):=fun a=>by dsimp only[hd2];rw[h3,d]
 have sm:Same (hide (hd2 (hd2 B Z) W) H) (hide (hd2 (hd2 B Z2) (fun a=>(one p a+Zk' a)+R a)) (upd H p ho)):=zF fun a o z q=>by
  rw[hid]at z;have:=hz a;have ne:a≠p:=fun y=>by rw[y,wO]at z;omega
  exact⟨by dsimp only[hd2];omega,by rw[qF ne];exact q⟩
 have cell:∀a,a≠p->upd H p ho a=H a:=fun a z=>qF z
 refine⟨fun a=>(one p a+Zk' a)+R a,h4 (upd H p ho) (hd2 B Z2) _ (.ow k' os') (fun a=>one p a+Zk' a) sm (fun _=>rfl) (fun a z=>cell a fun y=>by rw[y]at z;omega) (OAt.ow.mpr ⟨p,vs',Zk',rfl,hp,hk.keep sm fun a z=>cell a fun y=>by rw[y]at z;omega,fun _=>rfl⟩) (fun a=>?_) (fun a z=>?_),⟨?_,fun a z=>cell a fun y=>by rw[y]at z;omega,fun a z=>.inl ?_,fun a z=>?_,fun a z1 z2=>?_,fun j o q=>⟨qZq q,rfl⟩,qQ5⟩,fun o v h=>h.keep sm fun a z=>cell a fun y=>by rw[y]at z;omega⟩
 ·have:=nd a;have:=hz a;dsimp only[hd2];omega
 ·by_cases y:a=p
  ·subst y;exact⟨ho,upd_same,hb⟩
  ·rw [cell a y];by_cases q:B a=0
   ·exact cf.hbs (by have h5:=hid a;have h6:=hz a;dsimp only[hd2]at h5 z⊢;omega)
   ·exact cf.hb a (by dsimp only[hd2];omega)
 ·rw [show hide (hd2 B (hd2 W Z)) H=hide (hd2 (hd2 B Z) W) H from jJ fun a=>by dsimp only [hd2];omega,show hide (hd2 B (hd2 (fun a=>(one p a + Zk' a) + R a) Z2)) (upd H p ho)=hide (hd2 (hd2 B Z2) (fun a=>(one p a + Zk' a) + R a)) (upd H p ho) from jJ fun a=>by dsimp only [hd2];omega];exact sm
 ·have:=hz a;dsimp only[hd2]at *;rw[h3,d];omega
 ·by_cases y:a=p
  ·subst y;rw[upd_same]at z;cases z
  ·rw[cell a y]at z;exact z
 ·by_cases y:a=p
  ·subst y;rw[upd_same];exact pn
  ·exact .of (cell a y)
noncomputable def stab(env env1:Ev)(i:Nat):List Nat->Bool
 |[]=>true
 | [j]=>match env[i]?,env1[i]? with
   | some (.s _ (.ow (.obj _ fs) _)),some (.s _ (.ow _ _))=>match fs[j]? with
     |some f=>pinF f
     |none=>false
   |_,_=>false
 |_=>false
theorem vVj{K:aQ}{F:Hp}{os:List O}{x:Option V}{Z1:Fp}(h:wY K c F H (.s io (.ow kd os)) x Z1):∃p vs,x=some (.ref p)/\OwAt c H p kd vs/\Z1 p≠0:=by
 cases x with
 |none=>exact h.elim
 | some v=>
   have h' :OAt K c F H (.ow kd os) v Z1:=h;obtain⟨p,vs,Z',rfl,b,_,d⟩:=h';exact⟨p,vs,rfl,b,by rw[d,wO];omega⟩
theorem qWc{Y:Fp}{u:V}(cf:Cf K c env σ H B W)(st:Step env σ H B W env' σ H' Y)(cf' :Cf K c env' σ H' B' W')(hY:∀a,W' a≠0->Y a≠0)(hs:stab env env' i π=true)(h:vE H σ i π=some u):vE H' σ i π=some u:=by
 cases π with
 | nil=>
   unfold vE at h⊢;cases e:σ[i]? with
   |none=>rw[e]at h;cases h
   | some x=>
     rw[e]at h;cases x with
     |none=>cases h
     |some v=>simpa[walk] using h
 | cons j π=>
   cases π with
   |cons _ _=>simp[stab]at hs
   | nil=>
     simp only[stab]at hs;split at hs
     ·rename_i io C fs os io' k' os' e1 e2;split at hs
      ·rename_i f ef;obtain⟨x,Z1,R,h1,h2,h3,_⟩:=cf.focus e1;obtain⟨x',Z1',R',h1',h2',h3',_⟩:=cf'.focus e2;obtain⟨p,vs,rfl,⟨b1,dx,b2⟩,zp⟩:=vVj h2;obtain⟨p',vs',rfl,_,zp'⟩:=vVj h2';rw[h1]at h1';cases h1';have pn:=st.pin p (by rw[h3];omega) (hY p (by rw[h3'];omega));rw[b2]at pn;obtain⟨fs',e3,q⟩:=pn;unfold vE at h⊢;rw[h1]at h⊢;simp only[walk,b2,kids,qV2 b1]at h;cases ev:vs[j]? with
       |none=>rw[ev]at h;cases h
       | some v=>
         rw[ev]at h;have hv:v=u:=by cases v <;> simpa[walk] using h
         subst hv;have hz:(fs.zip vs)[j]?=some (f,v):=by rw[List.getElem?_zip_eq_some];exact⟨ef,ev⟩
         have h5:=q j f v hs hz;have h6:(kids (.ins (c C) dx fs'))[j]?=some v:=by
          show(fs'.map (·.2))[j]?=some v;rw[dZ,h5];rfl
         show walk H' (.ref p) [j]=some v;rw[qWa e3 h6];simp[walk]
      ·cases hs
     ·cases hs
end
noncomputable def qVu(env:Ev)(i:Nat)(π:List Nat):Option (List O):=match getE env i π with
 |some (.ow .lst os)=>some os
 |_=>none
theorem qZu{os:List O}(h:qVu env i π=some os):getE env i π=some (.ow .lst os):=by
 unfold qVu at h;grind
noncomputable def eMu1(s:SP)(a:SE)(f:List O->O->Option (O×List O)):SE:=fun env=>(opt (s env)).bind fun h=>match h with
 |.p i π=>(opt (qVu env i π)).bind fun _=>(a env).bind fun r=>(opt (qVu r.2 i π)).bind fun os=>cond (stab env r.2 i π) ((opt (f os r.1)).bind fun z=>.ok (z.1,setE r.2 i π (.ow .lst z.2))) .no
 |_=>.no
noncomputable def apF(os:List O)(x:O):Option (O×List O):=cond (decide (os.length<=lim)) (some (.fz .non,os ++ [x])) none
noncomputable def exF(os:List O)(x:O):Option (O×List O):=match x with
 |.ow .lst ys=>cond (decide (os.length+ys.length<=lim)) (some (.fz .non,os ++ ys)) none
 |_=>none
noncomputable def PrM(K:aQ)(c:Nat->aV)(r:V->List V->Hp->VK->Prop)(f:List O->O->Option (O×List O)):Prop:=∀(p:aV) (vs:List V) (u:V) (F H:Hp) (os os' :List O) (x o:O) (Zk Z:Fp) (Q:VK),H p=some (.lst vs)->OsAt K c F H os vs Zk->OAt K c F H x u Z->f os x=some (o,os')->
 (∀v vs' Zk',o=.fz .non ->v=.non ->OsAt K c F H os' vs' Zk' ->(∀a,Zk' a<=Zk a+Z a)->Q v (upd H p (.lst vs')))->r (.ref p) [u] H Q
section
variable{K:aQ}{c:Nat->aV}{E:XK}
theorem vX4:PrM K c rAppend apF:=fun p vs u F H os os' x o Zk Z Q h1 h2 h3 e q=>by
 obtain⟨q1,q2⟩:=wD e;cases q2;exact⟨p,vs,u,rfl,rfl,h1,by rw[h2.length];exact qXu (of_decide_eq_true q1),q .non _ _ rfl rfl (h2.append (OsAt.one.mpr h3)) fun a=>aD _⟩
theorem vX3:PrM K c rExtend exF:=fun p vs u F H os os' x o Zk Z Q h1 h2 h3 e q=>by
 unfold exF at e;split at e
 ·obtain⟨q1,q2⟩:=wD e;cases q2;rw[OAt.ow]at h3;obtain⟨b,ws,Z',rfl,g1,g2,g3⟩:=h3;exact⟨p,b,vs,ws,rfl,rfl,h1,g1,by rw[h2.length,g2.length];exact Nat.le_of_lt (qXu (of_decide_eq_true q1)),q .non _ _ rfl rfl (h2.append g2) fun a=>by(try dsimp only);rw[g3];omega⟩
 ·cases e
theorem vWb{r:V->List V->Hp->VK->Prop}{f:List O->O->Option (O×List O)}(hp:PrM K c r f){s:SP}{a:SE}(h:tE K c E (eMu1 s a f) σ H Q):tBM K "list" r (tP K c s) (qY3 (tE K c E a) tNil) σ H Q:=by
 obtain⟨env,B,W,cf,w⟩:=h;obtain⟨h1,e0,w1⟩:=qC w;refine⟨env,B,W,h1,cf,e0,fun u hu=>?_⟩;cases h1 with
 |d x=>exact w1.elim
 | p i π=>
   obtain⟨os0,e1,w2⟩:=qC w1;have hu' :vE H σ i π=some u:=hu;obtain⟨v1,Z1,R,g1,g2,g3,g4⟩:=cf.place (qZu e1);rw[hu']at g1;cases g1;obtain⟨p,vs0,Z0,rfl,b,_,_⟩:=g2;refine⟨.inl ⟨rfl,vs0,SqL.of b⟩,env,B,W,cf,wp_mono (fun r1 w3 x H1 W1 Z g=>?_) (fun _ _ he=>he) (qX.mp w2)⟩;obtain⟨os,e2,w4⟩:=qC w3;obtain⟨hs,w5⟩:=zE w4;obtain⟨z,e3,w6⟩:=qC w5;have hw:=qWc cf g.st g.cf (fun a z=>by dsimp only[hd2];omega) hs hu';obtain⟨p',vs,Zk,k1,k2,k3,k4⟩:=g.cf.mut (qZu e2);rw[hw]at k1;cases k1;refine hp p vs x _ H1 os z.2 r1.1 z.1 Zk Z Q k2 k3 g.at_ e3 fun v vs' Zk' ho hv hk hz=>?_
   subst hv;obtain⟨W',c1,c2,c3⟩:=k4 .lst z.2 vs' Zk' (fun _=>0) (.lst vs') hk (fun a=>by have:=hz a;omega) upd_same trivial (by have k2' :H1 p=some (.lst vs):=k2;rw[k2'];trivial);refine w6 .non _ W' (fun _=>0) ⟨g.st.trans c2,c1,by rw[ho,OAt.fz];exact⟨.non,fun _=>rfl⟩⟩
end
section
variable{X:Cx}{c:Nat->aV}{E:XK}{o e:Expr}{apos cpos:Pos}{s:SP}{a:SE}
theorem vYy(ho:OD X c E o (.p s))(ha:ED X c E e a)(hbase:attributeBase o "append" X.env (eval o X.env)=eval o X.env:=by rfl)(hfew:((bI cpos (aX [e] X.env)).all (fun x=>!x.1) && (backToKw cpos (keywordEach [] X.env)).all (fun x=>x.1.isSome) && decide (([e]:List Expr).length+([]:List Keyword).length+(if([]:List Keyword).isEmpty then 0 else 1)<30))=true:=by rfl)(hline:(apos.endLine == cpos.line)=true:=by rfl)(hs:aX [e] X.env=(false,eval e X.env)::aX [] X.env:=by rfl)(hplain:(bI cpos (aX [] X.env)).any (·.1)=false:=by rfl):
  ED X c E (.Call (.Attribute o "append" apos) [e] [] cpos) (eMu1 s a apF):=
 ⟨PE.imp (zXb PySem.F.plainAttrs_list PySem.F.slot_list_append PySem.F.type_list_append qKm ho.h (qQn ha.h qZ6 hs) hbase hfew hline hs hplain) fun _ _ _ h=>vWb vX4 h⟩
theorem vYw(ho:OD X c E o (.p s))(ha:ED X c E e a)(hbase:attributeBase o "extend" X.env (eval o X.env)=eval o X.env:=by rfl)(hfew:((bI cpos (aX [e] X.env)).all (fun x=>!x.1) && (backToKw cpos (keywordEach [] X.env)).all (fun x=>x.1.isSome) && decide (([e]:List Expr).length+([]:List Keyword).length+(if([]:List Keyword).isEmpty then 0 else 1)<30))=true:=by rfl)(hline:(apos.endLine == cpos.line)=true:=by rfl)(hs:aX [e] X.env=(false,eval e X.env)::aX [] X.env:=by rfl)(hplain:(bI cpos (aX [] X.env)).any (·.1)=false:=by rfl):
  ED X c E (.Call (.Attribute o "extend" apos) [e] [] cpos) (eMu1 s a exF):=
 ⟨PE.imp (zXb PySem.F.plainAttrs_list PySem.F.slot_list_extend PySem.F.type_list_extend vYh ho.h (qQn ha.h qZ6 hs) hbase hfew hline hs hplain) fun _ _ _ h=>vWb vX3 h⟩
noncomputable def ePop(s:SP):SE:=fun env=>(opt (s env)).bind fun h=>match h with
 |.p i π=>(opt (qVu env i π)).bind fun os=>(opt (os[os.length - 1]?)).bind fun o=>.ok (o,setE env i π (.ow .lst (os.eraseIdx (os.length - 1))))
 |_=>.no
theorem qZm(xs:List α):xs.dropLast=xs.eraseIdx (xs.length - 1):=by
 rw[List.dropLast_eq_take,List.eraseIdx_eq_take_drop_succ];cases xs with
 |nil=>rfl
 |cons x xs=>simp
theorem zK0(ho:OD X c E o (.p s))(hbase:attributeBase o "pop" X.env (eval o X.env)=eval o X.env:=by rfl)(hline:(apos.endLine == cpos.line)=true:=by rfl):ED X c E (.Call (.Attribute o "pop" apos) [] [] cpos) (ePop s):=by
 refine⟨PE.imp (zYx PySem.F.plainAttrs_list PySem.F.slot_list_pop PySem.F.type_list_pop zY8 ho.h hbase hline) fun σ H Q h=>?_⟩;obtain⟨env,B,W,cf,w⟩:=h;obtain⟨h1,e0,w1⟩:=qC w;refine⟨env,B,W,h1,cf,e0,fun u hu=>?_⟩;cases h1 with
 |d x=>exact w1.elim
 | p i π=>
   obtain⟨os,e1,w2⟩:=qC w1;obtain⟨oo,e2,w3⟩:=qC w2;have hu' :vE H σ i π=some u:=hu;have cf0:Cf X.K c env σ H (hd2 B fun _=>0) W:=cf.cast (fun _=>rfl) fun _=>rfl
   obtain⟨p,vs,Zk,k1,k2,k3,k4⟩:=cf0.mut (qZu e1);rw[hu']at k1;cases k1;obtain⟨v,Y1,R,g1,g2,g3,g4⟩:=k3.erase e2;have hl:=k3.length;refine⟨.inl ⟨rfl,vs,SqL.of k2⟩,p,vs,v,rfl,rfl,k2,by rw[hl];exact g1,?_⟩;rw[qZm,hl];obtain⟨W',c1,c2,c3⟩:=k4 .lst _ _ R Y1 (.lst (vs.eraseIdx (os.length - 1))) g4 (fun a=>by rw[g3];omega) upd_same trivial (by have k2' :H p=some (.lst vs):=k2;rw[k2'];trivial);exact w3 v _ W' Y1 ⟨c2.cast (fun _=>rfl) (fun _=>rfl) fun _=>rfl,c1,c3 _ _ g2⟩
end
section
variable{κ α:Type}[DecidableEq κ]
theorem qKo{k:κ}:∀{ks:List κ},kidx k ks=none->k∉ks
 |[],_=>by simp
 | g::r,h=>by
   simp only[kidx]at h;by_cases q:g=k
   ·rw[if_pos q]at h;cases h
   ·rw [if_neg q] at h;have:=qKo (Option.map_eq_none_iff.mp h);rw[aA];exact fun z=>z.elim (fun z=>q z.symm) this
theorem vXo{k:κ}:∀{ks:List κ} {vs:List α},ks.length=vs.length->((ks.zip vs).any fun kv=>decide (kv.1=k))=(kidx k ks).isSome
 |[],[],_=>rfl
 | g::r,w::vs,h=>by
   rw[bP,List.any_cons,vXo (Nat.succ.inj h)];simp only[kidx];by_cases q:g=k
   ·rw[if_pos q,decide_eq_true q];rfl
   ·rw[if_neg q,decide_eq_false q];cases kidx k r <;> rfl
 |[],_::_,h=>by cases h
 |_::_,[],h=>by cases h
theorem qYm{k:κ}{v:α}:∀{ks:List κ} {vs:List α},k∉ks->(ks.zip vs).map (fun kv=>if kv.1=k then(kv.1,v) else kv)=ks.zip vs
 |[],vs,_=>by simp
 |g::r,[],_=>by simp
 | g::r,w::vs,h=>by
   rw[aA]at h;rw[bP,aS,if_neg fun z=>h (.inl z.symm),qYm fun z=>h (.inr z)]
theorem vWs{k:κ}{v:α}:∀{ks:List κ} {vs:List α} {j:Nat},ks.Nodup->kidx k ks=some j->(ks.zip vs).map (fun kv=>if kv.1=k then(kv.1,v) else kv)=ks.zip (vs.set j v)
 |[],vs,j,_,h=>by cases h
 |g::r,[],j,_,h=>by simp
 | g::r,w::vs,j,hn,h=>by
   rw[cS]at hn;simp only[kidx]at h;by_cases q:g=k
   ·rw [if_pos q] at h;cases h;rw[bP,aS,if_pos q,qYm (by rw[←q];exact hn.1)];rfl
   ·rw [if_neg q] at h;obtain⟨i,h1,rfl⟩:=bZ.mp h;rw[bP,aS,if_neg q,vWs hn.2 h1];rfl
theorem qXy{k:κ}{v:α}:∀{ks:List κ} {vs:List α},ks.length=vs.length->(ks ++ [k]).zip (vs ++ [v])=ks.zip vs ++ [(k,v)]
 |[],[],_=>rfl
 | g::r,w::vs,h=>by
   rw[List.cons_append,List.cons_append,bP,qXy (Nat.succ.inj h)];rfl
 |[],_::_,h=>by cases h
 |_::_,[],h=>by cases h
end
theorem zQ7{k:Key}{ks:List Key}(hl:ks.length=vs.length)(hn:ks.Nodup):putK (ks.zip vs) k v=match kidx k ks with
  |some j=>ks.zip (vs.set j v)
  |none=>(ks ++ [k]).zip (vs ++ [v]):=by
 unfold putK;rw[vXo hl];cases e:kidx k ks with
 |none=>rw[if_neg (by simp),qXy hl]
 |some j=>rw[if_pos (by simp),vWs hn e]
theorem vJl{k:κ}{ks:List κ}(h:ks.Nodup)(n:k∉ks):(ks ++ [k]).Nodup :=by
 rw[List.nodup_append];refine⟨h,by simp,fun a ha b hb e=>?_⟩;rw[dY]at hb;exact n (by rw[←hb,←e];exact ha)
noncomputable def putO(ks:List Key)(os:List O)(k:Key)(o:O):O:=match kidx k ks with
 |some j=>.ow (.dct ks) (os.set j o)
 |none=>.ow (.dct (ks ++ [k])) (os ++ [o])
noncomputable def qXr(env:Ev)(i:Nat)(π:List Nat):Option (List Key×List O):=match getE env i π with
 |some (.ow (.dct ks) os)=>some (ks,os)
 |_=>none
theorem qKt{q:List Key×List O}(h:qXr env i π=some q):getE env i π=some (.ow (.dct q.1) q.2):=by
 unfold qXr at h;split at h
 ·rename_i e;cases h;exact e
 ·cases h
noncomputable def qY4(s k:SP)(a:SE):SS:=fun env=>(a env).bind fun r=>(opt (s r.2)).bind fun h=>(opt (k r.2)).bind fun hk=>(opt (rsv r.2 hk)).bind fun y=>(opt (qWu y)).bind fun key=>match h with
 |.p i π=>(opt (qXr r.2 i π)).bind fun q=>cond (decide (q.2.length<=lim)) (.ok (.nx (setE r.2 i π (putO q.1 q.2 key r.1)))) .no
 |.d _=>.no
noncomputable def sSetI(s k:SP)(a:SE):SS:=fun env=>(a env).bind fun r=>(opt (s r.2)).bind fun h=>(opt (k r.2)).bind fun hk=>(opt (rsv r.2 hk)).bind fun y=>(opt (yR y)).bind fun n=>match h with
 |.p i π=>(opt (qVu r.2 i π)).bind fun os=>(opt (ixN os.length n)).bind fun j=>.ok (.nx (setE r.2 i π (.ow .lst (os.set j r.1))))
 |.d _=>.no
theorem OsAt.put{K:aQ}{F:Hp}{os:List O}{Zk:Fp}{o:O}{u:V}(h:OsAt K c F H os vs Zk)(hj:j<os.length)(ho:OAt K c F H o u Z):∃Y,OsAt K c F H (os.set j o) (vs.set j u) Y/\∀a,Y a<=Zk a+Z a:=by
 obtain⟨v,Z1,R,h1,h2,h3,h4⟩:=h.focus (aN hj);exact⟨_,h4 F H o u Z (Same.refl _) (fun _ _=>rfl) ho,fun a=>by rw[h3];(try dsimp only);omega⟩
section
variable{X:Cx}{c:Nat->aV}{E:XK}{o k e:Expr}{pos pos' :Pos}{s sk:SP}{a:SE}
theorem zZ3(hu:X.A.units+1<dF)(ho:OD X c E o (.p s))(hk:OD X c E k (.p sk))(hv:ED X c E e a)(hs:swapsWith e (some (.Subscript o k pos')) pos.line X.env=pure false:=by rfl):
  SD X c E (.Assign [.Subscript o k pos'] e pos) (qY4 s sk a):=by
 refine⟨PS.imp (zJf hu ho.h hk.h hv.h hs) fun D σ H=>?_⟩;rintro⟨env,B,W,cf,w⟩;refine⟨env,B,W,cf,wp_mono (fun r w1 u H1 W1 Z g=>?_) (fun _ _ he=>he) (qX.mp w)⟩;obtain⟨h,e1,w2⟩:=qC w1;obtain⟨hk1,e2,w3⟩:=qC w2;obtain⟨y,e3,w4⟩:=qC w3;obtain⟨key,e4,w5⟩:=qC w4;refine⟨r.2,_,W1,h,g.cf,e1,fun x hx=>⟨r.2,_,W1,hk1,g.cf,e2,fun yv hy=>?_⟩⟩;cases h with
 |d x=>exact w5.elim
 | p i π=>
   obtain⟨q,e5,w6⟩:=qC w5;obtain⟨hl,w7⟩:=zE w6;have hx' :vE H1 σ i π=some x:=hx;obtain⟨p,vs,Zk,k1,⟨k2,k3,k4⟩,k5,k6⟩:=g.cf.mut (qKt e5);rw[hx']at k1;cases k1;rw[qJu (xZ g.cf hy e3) e4];have hz:(q.1.zip vs).length<aR:=by rw[List.length_zip,k5.length];exact Nat.lt_of_le_of_lt (Nat.min_le_right _ _) (qXu (of_decide_eq_true hl))
   refine⟨p,_,rfl,DPut.k k4 hz,?_⟩;rw[zQ7 k2 k3];unfold putO at w7;cases e6:kidx key q.1 with
   | some j=>
     rw[e6]at w7;obtain⟨Y,y1,y2⟩:=k5.put (by rw[←k5.length,←k2];exact(vQh e6).1) g.at_;obtain⟨W',c1,c2,_⟩:=k6 (.dct q.1) _ _ Y (fun _=>0) (.dK (q.1.zip (vs.set j u))) y1 (fun a=>by have:=y2 a;omega) ⟨by rw[bT];exact k2,k3,upd_same⟩ trivial (by rw[k4];trivial);exact w7 σ _ W' (g.st.trans (c2.cast (fun _=>rfl) (fun _=>rfl) fun _=>rfl)) (c1.cast (fun _=>rfl) fun _=>rfl)
   | none=>
     rw[e6]at w7;obtain⟨W',c1,c2,_⟩:=k6 (.dct (q.1 ++ [key])) _ _ _ (fun _=>0) (.dK ((q.1 ++ [key]).zip (vs ++ [u]))) (k5.append (OsAt.one.mpr g.at_)) (fun a=>by(try dsimp only);omega) ⟨by rw[aB,aB,k2];rfl,vJl k3 (qKo e6),upd_same⟩ trivial (by rw[k4];trivial);exact w7 σ _ W' (g.st.trans (c2.cast (fun _=>rfl) (fun _=>rfl) fun _=>rfl)) (c1.cast (fun _=>rfl) fun _=>rfl)
theorem zZ1(ho:OD X c E o (.p s))(hk:OD X c E k (.p sk))(hv:ED X c E e a)(hs:swapsWithSole [.Subscript o k pos'] e pos.line X.env=pure false:=by rfl)(hw:swappedStores [.Subscript o k pos'] e X.env=pure none:=by rfl)(h1:(assignEach [.Subscript o k pos'] X.env).map (·.2)=[assign (.Subscript o k pos') X.env]:=by rfl)(ha:∀v,assign (.Subscript o k pos') X.env v=(do
   let ov ←holding [v] (eval o X.env);let iv ←holding [v,ov] (eval k X.env);standAt pos';holding [v,ov,iv] (setItem ov iv v);release [v,ov,iv] []):=by intro _;rfl):SD X c E (.Assign [.Subscript o k pos'] e pos) (sSetI s sk a):=by
 refine⟨PS.imp (vK0 hv.h (zYo ho.h hk.h zQv ha) hs hw h1) fun D σ H=>?_⟩;rintro⟨env,B,W,cf,w⟩;refine⟨env,B,W,cf,wp_mono (fun r w1 u H1 W1 Z g=>?_) (fun _ _ he=>he) (qX.mp w)⟩;obtain⟨h,e1,w2⟩:=qC w1;obtain⟨hk1,e2,w3⟩:=qC w2;obtain⟨y,e3,w4⟩:=qC w3;obtain⟨n,e4,w5⟩:=qC w4;refine⟨r.2,_,W1,h,g.cf,e1,fun x hx=>⟨r.2,_,W1,hk1,g.cf,e2,fun yv hy=>?_⟩⟩;cases h with
 |d x=>exact w5.elim
 | p i π=>
   obtain⟨os,e5,w6⟩:=qC w5;obtain⟨j,e6,w7⟩:=qC w6;have hx' :vE H1 σ i π=some x:=hx;obtain⟨p,vs,Zk,k1,k2,k5,k6⟩:=g.cf.mut (qZu e5);rw[hx']at k1;cases k1;have hlen:=k5.length;have e6' :ixN vs.length n=some j:=by rw[hlen];exact e6
   refine⟨p,vs,n,j,rfl,jF (xZ g.cf hy e3) e4,k2,e6',?_⟩;have hj:j<os.length:=by rw[←hlen];have:=(vQi e6').2.1;omega
   obtain⟨Y,y1,y2⟩:=k5.put hj g.at_;obtain⟨W',c1,c2,_⟩:=k6 .lst _ _ Y (fun _=>0) (.lst (vs.set j u)) y1 (fun a=>by have:=y2 a;omega) upd_same trivial (by have k2' :H1 p=some (.lst vs):=k2;rw[k2'];trivial);exact w7 σ _ W' (g.st.trans (c2.cast (fun _=>rfl) (fun _=>rfl) fun _=>rfl)) (c1.cast (fun _=>rfl) fun _=>rfl)
end
theorem vVn{f:Str}:∀{fs:List Str} {vs:List V},fs.length=vs.length->putF f v (fs.zip vs)=match fidx f fs with
  |some j=>fs.zip (vs.set j v)
  |none=>(fs ++ [f]).zip (vs ++ [v])
 |[],[],_=>rfl
 | g::r,w::vs,h=>by
   rw[bP];simp only[putF,fidx];by_cases q:f=g
   ·simp_all
   ·rw [if_neg q,if_neg fun z=>q z.symm,vVn (Nat.succ.inj h)];cases fidx f r <;> rfl
 |[],_::_,h=>by cases h
 |_::_,[],h=>by cases h
theorem qYc{f:Str}:∀{fs:List Str} {j:Nat},fidx f fs=some j->fs[j]?=some f
 |[],j,h=>by cases h
 | g::r,j,h=>by
   simp only[fidx]at h;by_cases q:f=g
   ·rw[if_pos q]at h;cases h;rw[q];rfl
   ·rw [if_neg q] at h;obtain⟨i,h1,rfl⟩:=bZ.mp h;simpa using qYc h1
noncomputable def qY5(C:Nat)(fs:List Str)(os:List O)(f:Str)(o:O):Option O:=match fidx f fs with
 |some j=>cond (!pinF f) (some (.ow (.obj C fs) (os.set j o))) none
 |none=>cond (decide (os.length<1000)) (some (.ow (.obj C (fs ++ [f])) (os ++ [o]))) none
noncomputable def qWr(env:Ev)(i:Nat)(π:List Nat):Option (Nat×List Str×List O):=match getE env i π with
 |some (.ow (.obj C fs) os)=>some (C,fs,os)
 |_=>none
theorem qWh(h:qWr env i π=some q):getE env i π=some (.ow (.obj q.1 q.2.1) q.2.2):=by
 unfold qWr at h;grind
section
variable{K:aQ}{c:Nat->aV}{env:Ev}{σ:L2.St}{H:Hp}{B W Z:Fp}{i:Nat}{π:List Nat}
theorem Cf.fld{f:Str}{o o' :O}{u:V}{p:aV}(cf:Cf K c env σ H (hd2 B Z) W)(e:qWr env i π=some q)(hw:vE H σ i π=some (.ref p))(ho:OAt K c (hide (hd2 (hd2 B Z) W) H) H o u Z)(e2:qY5 q.1 q.2.1 q.2.2 f o=some o')(hl:q.2.2.length<=999):
  ∃dx fs W',H p=some (.ins (c q.1) dx fs)/\fs.length<1000/\Cf K c (setE env i π o') σ (upd H p (.ins (c q.1) dx (putF f u fs))) B W' /\Step env σ H B (hd2 W Z) (setE env i π o') σ (upd H p (.ins (c q.1) dx (putF f u fs))) W' :=by
 obtain⟨p',vs,Zk,k1,⟨k2,dx,k4⟩,k5,k6⟩:=cf.mut (qWh e);rw[hw]at k1;cases k1;refine⟨dx,q.2.1.zip vs,?_⟩;have hlen:(q.2.1.zip vs).length<1000:=by rw[List.length_zip,k5.length];have:=Nat.min_le_right q.2.1.length q.2.2.length;omega
 rw[vVn k2];unfold qY5 at e2;cases e6:fidx f q.2.1 with
 | some j=>
   rw[e6]at e2;obtain⟨pn,e3⟩:=wD e2;cases e3;have hj:j<q.2.2.length:=by
    have:=(aH.mp (qYc e6)).1;rw[←k5.length,←k2];exact this
   obtain⟨Y,y1,y2⟩:=k5.put hj ho;obtain⟨W',c1,c2,_⟩:=k6 (.obj q.1 q.2.1) _ _ Y (fun _=>0) (.ins (c q.1) dx (q.2.1.zip (vs.set j u))) y1 (fun a=>by have:=y2 a;omega) ⟨by rw[bT];exact k2,dx,upd_same⟩ trivial (by
    rw[k4];refine⟨_,rfl,fun j' f' v' hp hz=>?_⟩;rw[List.getElem?_zip_eq_some]at hz⊢;refine⟨hz.1,?_⟩;rw[bK fun y=>?_]
    ·exact hz.2
    ·subst y;rw[qYc e6]at hz;cases hz.1;rw[hp]at pn;cases pn)
   exact⟨W',k4,hlen,c1.cast (fun _=>rfl) fun _=>rfl,c2.cast (fun _=>rfl) (fun _=>rfl) fun _=>rfl⟩
 | none=>
   rw[e6]at e2;obtain⟨pn,e3⟩:=wD e2;cases e3;obtain⟨W',c1,c2,_⟩:=k6 (.obj q.1 (q.2.1 ++ [f])) _ _ _ (fun _=>0) (.ins (c q.1) dx ((q.2.1 ++ [f]).zip (vs ++ [u]))) (k5.append (OsAt.one.mpr ho)) (fun a=>by(try dsimp only);omega) ⟨by rw[aB,aB,k2];rfl,dx,upd_same⟩ trivial (by
    rw[k4];refine⟨_,rfl,fun j' f' v' hp hz=>?_⟩;rw[qXy k2,List.getElem?_append_left (aH.mp hz).1];exact hz)
   exact⟨W',k4,hlen,c1.cast (fun _=>rfl) fun _=>rfl,c2.cast (fun _=>rfl) (fun _=>rfl) fun _=>rfl⟩
end
noncomputable def qQ1(cs:List Nat)(f:Str)(s:SP)(a:SE):SS:=fun env=>(a env).bind fun r=>(opt (s r.2)).bind fun h=>match h with
 |.p i π=>(opt (qWr r.2 i π)).bind fun q=>cond (cs.contains q.1 && decide (q.2.2.length<=999)) ((opt (qY5 q.1 q.2.1 q.2.2 f r.1)).bind fun o=>.ok (.nx (setE r.2 i π o))) .no
 |.d _=>.no
noncomputable def vQ2(cs:List Nat)(f:Str)(g:D->D->Option D)(s:SP)(a:SV):SS:=fun env=>(opt (s env)).bind fun h=>match h with
 | .p i π=>(opt (qWr env i π)).bind fun q=>(opt (fidx f q.2.1)).bind fun j=>(opt (q.2.2[j]?)).bind fun o0=>match o0 with
   |.fz x=>cond (cs.contains q.1) ((a env).bind fun r=>cond (stab env r.2 i π) ((opt (g x r.1)).bind fun z=>(opt (qWr r.2 i π)).bind fun q' =>cond (decide (q'.1=q.1) && decide (q'.2.2.length<=999)) ((opt (qY5 q'.1 q'.2.1 q'.2.2 f (.fz z))).bind fun o=>.ok (.nx (setE r.2 i π o))) .no) .no) .no
   |.ow _ _=>.no
 |.d _=>.no
section
variable{X:Cx}{c:Nat->aV}{E:XK}{o e:Expr}{f:Str}{pos pos' :Pos}{s:SP}{a:SE}{cs:List Nat}
theorem zZ2(ok:yQ X.K c cs f)(ho:OD X c E o (.p s))(hv:ED X c E e a)(hs:swapsWith e (some (.Attribute o f pos')) pos.line X.env=pure false:=by rfl):SD X c E (.Assign [.Attribute o f pos'] e pos) (qQ1 cs f s a):=by
 refine⟨PS.imp (zYg ho.h hv.h hs) fun D σ H=>?_⟩;rintro⟨env,B,W,cf,w⟩;refine⟨env,B,W,cf,wp_mono (fun r w1 u H1 W1 Z g=>?_) (fun _ _ he=>he) (qX.mp w)⟩;obtain⟨h,e1,w2⟩:=qC w1;refine⟨r.2,_,W1,h,g.cf,e1,fun x hx=>?_⟩;cases h with
 |d x=>exact w2.elim
 | p i π=>
   obtain⟨q,e5,w6⟩:=qC w2;obtain⟨hc,w7⟩:=zE w6;obtain⟨o',e6,w8⟩:=qC w7;rw[aP]at hc;have hx' :vE H1 σ i π=some x:=hx;obtain⟨p,_,_,k1,_⟩:=g.cf.mut (qWh e5);rw[hx']at k1;cases k1;obtain⟨dx,fs,W',m1,m2,m3,m4⟩:=g.cf.fld e5 hx' g.at_ e6 (of_decide_eq_true hc.2);obtain⟨c1,c2⟩:=ok q.1 (qXh hc.1);exact⟨p,_,dx,fs,rfl,m1,c1,c2,m2,w8 σ _ W' (g.st.trans m4) m3⟩
theorem zZ4{rd:V->V->Hp->VK->Prop}{g:D->D->Option D}{t:SV}(ok:yQ X.K c cs f)(ho:OD X c E o (.p s))(hv:EV X c E e t)(hop:InOp X op rd)(hp:PrS2 X.K c rd g):SD X c E (.AugAssign (.Attribute o f pos') op e pos) (vQ2 cs f g s t):=by
 refine⟨PS.imp (vX2 ho.h hv.h hop) fun D σ H=>?_⟩;rintro⟨env,B,W,cf,w⟩;obtain⟨h,e1,w2⟩:=qC w;refine⟨env,B,W,h,cf,e1,fun x hx=>?_⟩;cases h with
 |d x=>exact w2.elim
 | p i π=>
   obtain⟨q,e2,w3⟩:=qC w2;obtain⟨j,e3,w4⟩:=qC w3;obtain⟨o0,e4,w5⟩:=qC w4;cases o0 with
   |ow _ _=>exact w5.elim
   | fz y=>
     have hx' :vE H σ i π=some x:=hx;have cf0:Cf X.K c env σ H (hd2 B fun _=>0) W:=cf.cast (fun _=>rfl) fun _=>rfl
     obtain⟨p,vs,Zk,k1,⟨k2,dx,k4⟩,k5,k6⟩:=cf0.mut (qWh e2);rw[hx']at k1;cases k1;obtain⟨v,Z1,R,g1,g2,g3,_⟩:=k5.focus e4;have hd:DAt X.K c (hide (hd2 B W) H) v y:=g2.1;obtain⟨hcs,w5⟩:=zE w5;obtain⟨c1,c2⟩:=ok q.1 (qXh hcs);refine⟨p,_,dx,_,v,rfl,k4,c1,c2,qVl e3 g1,env,B,W,cf,wp_mono (fun r w6 u H1 W1 gd=>?_) (fun _ _ he=>he) (qX.mp w5)⟩;obtain⟨hc,w7⟩:=zE w6;obtain⟨z,e5,w8⟩:=qC w7;obtain⟨q',e6,w9⟩:=qC w8;obtain⟨hc',w10⟩:=zE w9;obtain⟨o',e7,w11⟩:=qC w10;rw[aP]at hc';have hw:=qWc cf gd.st gd.cf (fun a z=>z) hc hx';refine hp v u H1 y r.1 z _ ((hd.same gd.st.same).same vK) (gd.at_.same vK) e5 fun v3 hv3=>?_
     have cf1:Cf X.K c r.2 σ H1 (hd2 B fun _=>0) W1:=gd.cf.cast (fun _=>rfl) fun _=>rfl
     obtain⟨dx',fs',W',m1,m2,m3,m4⟩:=cf1.fld e6 hw (Z:=fun _=>0) (u:=v3) (by rw[OAt.fz];exact⟨hv3 _,fun _=>rfl⟩) e7 (of_decide_eq_true hc'.2);have hq:q'.1=q.1:=of_decide_eq_true hc'.1;rw[hq]at m1 m3 m4;exact⟨dx',fs',m1,m2,w11 σ _ W' (gd.st.trans (m4.cast (fun _=>rfl) (fun _=>rfl) fun _=>rfl)) m3⟩
end
instance decMul(i j:Int):Decidable (IntMulOk i j):=by unfold IntMulOk;infer_instance
instance decDivP(i j:Int):Decidable (vJ7 i j):=by unfold vJ7;infer_instance
instance decMulS(x:Str)(n:Int):Decidable (MulOk x n):=by unfold MulOk;infer_instance
noncomputable def i2(g:Int->Int->Int)(x y:D):Option D:=(yR x).bind fun i=>(yR y).bind fun j=>some (.int (g i j))
noncomputable def i2g(C:Int->Int->Prop)[∀i j,Decidable (C i j)](g:Int->Int->Int)(x y:D):Option D:=(yR x).bind fun i=>(yR y).bind fun j=>if C i j then some (.int (g i j)) else none
noncomputable def c2(g:Int->Int->Bool)(x y:D):Option D:=(yR x).bind fun i=>(yR y).bind fun j=>some (.bl (g i j))
theorem vWy{P:Prop}[Decidable P]{x y:α}(h:(if P then some x else none)=some y):P/\x=y:=by
 grind
section
variable{K:aQ}{c:Nat->aV}
theorem vKe(g:Int->Int->Int):PrS2 K c (rI0 fun i j=>.int (g i j)) (i2 g):=fun u w H x y z Q hx hy e q=>by
 obtain⟨i,e1,e2⟩:=bnd e;obtain⟨j,e3,e4⟩:=bnd e2;cases e4;exact⟨i,j,jF hx e1,jF hy e3,q _ fun _=>.int _⟩
theorem vZn(C:Int->Int->Prop)[∀i j,Decidable (C i j)](g:Int->Int->Int):PrS2 K c (rI C fun i j=>.int (g i j)) (i2g C g):=fun u w H x y z Q hx hy e q=>by
 obtain⟨i,e1,e2⟩:=bnd e;obtain⟨j,e3,e4⟩:=bnd e2;obtain⟨p,rfl⟩:=vWy e4;exact⟨i,j,jF hx e1,jF hy e3,p,q _ fun _=>.int _⟩
theorem vKf(g:Int->Int->Bool):PrS2 K c (rI0 fun i j=>.bl (g i j)) (c2 g):=fun u w H x y z Q hx hy e q=>by
 obtain⟨i,e1,e2⟩:=bnd e;obtain⟨j,e3,e4⟩:=bnd e2;cases e4;exact⟨i,j,jF hx e1,jF hy e3,q _ fun _=>.bl _⟩
theorem vK1(g:Int->Int->Int):PrS2 K c (ipI g) (i2 g):=fun u w H x y z Q hx hy e q=>by
 obtain⟨i,j,e1,e2,r⟩:=vKe g u w H x y z Q hx hy e q;exact⟨i,j,e1,e2,r⟩
noncomputable def mulS(x y:D):Option D:=(zW6 x).bind fun i=>(yR y).bind fun j=>if MulOk i j then some (.str (Txt.mul i j)) else none
theorem zJh:PrS2 K c (fun x y H Q=>∃z n,x=.str z/\y=.int n/\MulOk z n/\Q (.str (Txt.mul z n)) H) mulS:=fun u w H x y z Q hx hy e q=>by
 obtain⟨i,e1,e2⟩:=bnd e;obtain⟨j,e3,e4⟩:=bnd e2;obtain⟨p,rfl⟩:=vWy e4;exact⟨i,j,vVi hx e1,jF hy e3,p,q _ fun _=>.str _⟩
end
section
variable{K:aQ}{c:Nat->aV}
noncomputable def vQ8:D->Bool
 |.non =>true
 |_=>false
noncomputable def isN(x y:D):Option D:=match y with
 |.non =>some (.bl (vQ8 x))
 |_=>none
theorem zV1{F:Hp}{u:V}{x:D}(h:DAt K c F u x):decide (u=.non)=vQ8 x:=by
 cases h <;> simp[vQ8]
theorem zYj:PrS2 K c (fun x y H Q=>y=.non /\Q (.bl (decide (x=.non))) H) isN:=fun u w H x y z Q hx hy e q=>by
 unfold isN at e;split at e
 ·cases e;cases hy;exact⟨rfl,by rw[zV1 hx];exact q _ fun _=>.bl _⟩
 ·cases e
noncomputable def toV:D->Option V
 |.non =>some .non
 |.int i=>some (.int i)
 |.str x=>some (.str x)
 |.bl b=>some (.bl b)
 |_=>none
noncomputable def allV:List D->Option (List V)
 |[]=>some []
 |d::r=>(toV d).bind fun v=>(allV r).bind fun vs=>some (v::vs)
theorem vZk{F:Hp}{u:V}{d:D}(h:DAt K c F u d)(e:toV d=some v):u=v/\qZy v=true:=by
 cases h <;> cases e <;> exact⟨rfl,rfl⟩
theorem vQq{F:Hp}:∀{us:List V} {ds:List D} {vs:List V},DsAt K c F us ds->allV ds=some vs->us=vs/\vs.all qZy=true
 |us,[],vs,h,e=>by cases e;exact⟨h.un0,rfl⟩
 | us,d::ds,vs,h,e=>by
   obtain⟨u,r,rfl,a,b⟩:=h.un;obtain⟨v,e1,e2⟩:=bnd e;obtain⟨ws,e3,e4⟩:=bnd e2;cases e4;obtain⟨h1,h2⟩:=vZk a e1;obtain⟨h3,h4⟩:=vQq b e3;grind
noncomputable def inB(x y:D):Option Bool:=match y with
 |.nd (.dct ks) _=>(qWu x).bind fun k=>some (kidx k ks).isSome
 |.nd .lst ds=>(toV x).bind fun v=>(allV ds).bind fun vs=>some (inV v vs)
 |.nd .tup ds=>(toV x).bind fun v=>(allV ds).bind fun vs=>some (inV v vs)
 |_=>none
noncomputable def inD(x y:D):Option D:=(inB x y).map .bl
noncomputable def niD(x y:D):Option D:=(inB x y).map fun b=>.bl (!b)
noncomputable def rInA(K:aQ)(neg:Bool):R2:=fun x y H Q=>rIn K neg x y H Q\/∃a o,y=.ref a/\DGet H a x o/\Q (.bl (if neg then !o.isSome else o.isSome)) H
theorem zY4(hu:X.A.units+1<dF):OpR X (cV .In) (rInA X.K false):=vYe.or (zY3 hu)
theorem vYd(hu:X.A.units+1<dF):OpR X (cV .NotIn) (rInA X.K true):=vQw.or (vYc hu)
theorem zQc{neg:Bool}{u w:V}{x y:D}{b:Bool}(hx:DAt K c H u x)(hy:DAt K c H w y)(e:inB x y=some b)(q:Q (.bl (if neg then !b else b)) H):rInA K neg u w H Q:=by
 unfold inB at e;split at e
 ·obtain⟨k,e1,e2⟩:=bnd e;cases e2;obtain⟨p,vs,rfl,⟨h1,h2,h3⟩,h4⟩:=hy.un;rw[qJu hx e1];refine .inr ⟨p,_,rfl,vZv h3,?_⟩;rw[qV3 h1];rename_i ks ds;have:((kidx k ks).bind fun j=>vs[j]?).isSome =(kidx k ks).isSome :=by
   cases e5:kidx k ks with
   |none=>rfl
   | some j=>
     have:=(vQh e5).1;grind
  grind
 ·obtain⟨v,e1,e2⟩:=bnd e;obtain⟨vs',e3,e4⟩:=bnd e2;cases e4;obtain⟨p,vs,rfl,h1,h2⟩:=hy.un;obtain⟨g1,g2⟩:=vZk hx e1;obtain⟨g3,g4⟩:=vQq h2 e3;subst g1 g3;exact .inl ⟨p,vs,rfl,.inl h1,g2,g4,q⟩
 ·obtain⟨v,e1,e2⟩:=bnd e;obtain⟨vs',e3,e4⟩:=bnd e2;cases e4;obtain⟨p,vs,rfl,h1,h2⟩:=hy.un;obtain⟨g1,g2⟩:=vZk hx e1;obtain⟨g3,g4⟩:=vQq h2 e3;subst g1 g3;exact .inl ⟨p,vs,rfl,.inr h1,g2,g4,q⟩
 ·cases e
theorem jQj:PrS2 K c (rInA K false) inD:=fun u w H x y z Q hx hy e q=>by
 obtain⟨b,e1,rfl⟩:=bZ.mp e;exact zQc (neg:=false) hx hy e1 (q _ fun _=>.bl _)
theorem zVb:PrS2 K c (rInA K true) niD:=fun u w H x y z Q hx hy e q=>by
 obtain⟨b,e1,rfl⟩:=bZ.mp e;exact zQc (neg:=true) hx hy e1 (q _ fun _=>.bl _)
noncomputable def negD(x:D):Option D:=(yR x).bind fun i=>some (.int (-i))
end
noncomputable abbrev oAdd:=o2 (i2 fun i j=>i+j)
noncomputable abbrev oSub:=o2 (i2 fun i j=>i - j)
noncomputable abbrev oMul:=o2 (i2g IntMulOk fun i j=>i * j)
noncomputable abbrev oDiv:=o2 (i2g vJ7 fun i j=>i / j)
noncomputable abbrev oMod:=o2 (i2g (fun _ j=>0<j) fun i j=>i % j)
noncomputable abbrev oLt:=o2 (c2 fun i j=>decide (i<j))
noncomputable abbrev oGt:=o2 (c2 fun i j=>decide (j<i))
noncomputable abbrev oGe:=o2 (c2 fun i j=>decide (j<=i))
section
variable{X:Cx}{c:Nat->aV}{E:XK}{a b d e:Expr}{oa ob oc:Oe}{pos:Pos}{k:Nat}
theorem jB(ha:OD X c E a oa)(hb:OD X c E b ob):OD X c E (.BinOp a .Add b pos) (oAdd oa ob):=qY6 zY6 (vKe _) ha hb
theorem qY7(ha:OD X c E a oa)(hb:OD X c E b ob):OD X c E (.BinOp a .Sub b pos) (oSub oa ob):=qY6 zYz (vKe _) ha hb
theorem vQ6(ha:OD X c E a oa)(hb:OD X c E b ob):OD X c E (.BinOp a .Mult b pos) (oMul oa ob):=qY6 zJz (vZn _ _) ha hb
theorem vQ7(ha:OD X c E a oa)(hb:OD X c E b ob):OD X c E (.BinOp a .FloorDiv b pos) (oDiv oa ob):=qY6 zVm (vZn _ _) ha hb
theorem zO(ha:OD X c E a oa)(hb:OD X c E b ob):OD X c E (.BinOp a .Mod b pos) (oMod oa ob):=qY6 zY1 (vZn _ _) ha hb
theorem vZp(ha:OD X c E a oa)(hb:OD X c E b ob):OD X c E (.BinOp a .Mult b pos) (o2 mulS oa ob):=qY6 vJj zJh ha hb
theorem t_lt(ha:OD X c E a oa)(hb:OD X c E b ob):TD X c E (.Compare a [.Lt] [b] pos) (asB (oLt oa ob)):=qVa jQr (vKf _) ha hb (qVe _)
theorem t_gt(ha:OD X c E a oa)(hb:OD X c E b ob):TD X c E (.Compare a [.Gt] [b] pos) (asB (oGt oa ob)):=qVa jQs (vKf _) ha hb (qVe _)
theorem t_ge(ha:OD X c E a oa)(hb:OD X c E b ob):TD X c E (.Compare a [.GtE] [b] pos) (asB (oGe oa ob)):=qVa jQt (vKf _) ha hb (qVe _)
theorem t_in(hr:Room k X.A)(ha:OD X c E a oa)(hb:OD X c E b ob)(hm:behindInMarks .In b=false:=by rfl):TD X c E (.Compare a [.In] [b] pos) (asB (o2 inD oa ob)):=qVa (zY4 (qZx hr)) jQj ha hb hm
theorem vJ9(hr:Room k X.A)(ha:OD X c E a oa)(hb:OD X c E b ob)(hm:behindInMarks .NotIn b=false:=by rfl):TD X c E (.Compare a [.NotIn] [b] pos) (asB (o2 niD oa ob)):=qVa (vYd (qZx hr)) zVb ha hb hm
theorem zK8(ha:OD X c E a oa)(hb:OD X c E b ob):TD X c E (.Compare a [.Is] [b] pos) (asB (o2 isN oa ob)):=qVa zY2 zYj ha hb (qVe _)
theorem vQ5(ha:OD X c E a oa):OD X c E (.UnaryOp .USub a pos) (o1 negD oa):=jQw zXr (fun u H x z Q hx e q=>by
 obtain⟨i,e1,e2⟩:=bnd e;cases e2;exact⟨i,jF hx e1,q _ fun _=>.int _⟩) ha
theorem o_ix(hr:Room k X.A)(ha:OD X c E a oa)(hb:OD X c E b ob)(hs:qXm b:=by exact fun _ _=>rfl):OD X c E (.Subscript a b pos) (oIx oa ob):=jQy (qZx hr) ha hb hs
end
noncomputable def iSeq(K:aQ)(tl:TE):TI:=fun σ H R=>tl σ H fun x H1=>∃a,x=.ref a/\(((∃xs,SqL K H1 a xs)/\R (Itl K a) H1)\/((∃xs,SqT K H1 a xs)/\R (Itt K a) H1))
theorem zYl{l:Expr}{tl:TE}(hl:PE X l tl):PI X tg l (iSeq X.K tl):=by
 intro pins s σ H R I h;refine thn (hl pins s σ H _ I h) fun v s1 ⟨x,H1,I1,r1,q1⟩=>?_
 obtain⟨a,e,q1⟩:=q1;subst e;cases r1;rcases q1 with⟨⟨xs,hq⟩,q⟩|⟨⟨xs,hq⟩,q⟩
 ·obtain⟨its,rv,p,hz⟩:=I1.list hq;refine wpAny_pyIter_list p.isList ?_
  refine⟨s1.heap.objs.size,[s1.heap.objs.size],_,_,H1,rfl,I1.kept (t' :=s1.toks) fun b o e=>aW _ e,vXr a _,⟨_,aT _ rfl,rfl,rfl⟩,fun b hb=>?_,q⟩;have e:b=s1.heap.objs.size:=by simpa using hb
  subst e;exact I1.fpOk (aD _) (I1.hok.fresh (aD _))
 ·obtain⟨its,rv,p,hz⟩:=I1.tuple hq;refine wpAny_pyIter_tuple (show s1.heap.IsTuple a its.toArray from p) ?_
  refine⟨s1.heap.objs.size,[s1.heap.objs.size],_,_,H1,rfl,I1.kept (t' :=s1.toks) fun b o e=>aW _ e,vZ1 a _,⟨_,aT _ rfl,rfl,rfl⟩,fun b hb=>?_,q⟩;have e:b=s1.heap.objs.size:=by simpa using hb
  subst e;exact I1.fpOk (aD _) (I1.hok.fresh (aD _))
section
variable{K:aQ}{c:Nat->aV}{F:Hp}{a b:aV}{xs ys:List V}{ds es:List D}
theorem zVy(h:SqL K F a xs)(k:DsAt K c F xs ds):ItD K c F (Itl K a) ds:=by
 intro i H T sm hb;have h' :SqL K H a xs:=j6 vK (j6 sm h);refine⟨fun d hd=>?_,fun hi=>⟨xs,h',by rw[k.len];omega⟩⟩;obtain⟨v,h1,h2⟩:=k.get hd;refine⟨⟨xs,v,h',h1⟩,fun x H' y=>?_⟩;obtain⟨rfl,y2⟩:=y;have:=y2 xs h';rw[h1]at this;cases this;exact⟨Same.refl _,h2.same sm⟩
theorem zJ9(h:SqT K F a xs)(k:DsAt K c F xs ds):ItD K c F (Itt K a) ds:=by
 intro i H T sm hb;have h' :SqT K H a xs:=vK.tup (sm.tup h);refine⟨fun d hd=>?_,fun hi=>⟨xs,h',by rw[k.len];omega⟩⟩;obtain⟨v,h1,h2⟩:=k.get hd;refine⟨⟨xs,v,h',h1⟩,fun x H' y=>?_⟩;obtain⟨rfl,y2⟩:=y;have:=y2 xs h';rw[h1]at this;cases this;exact⟨Same.refl _,h2.same sm⟩
noncomputable def rngD(lo:Int)(n:Nat):List D:=(List.range n).map fun(j:Nat)=>D.int (lo+(j:Int))
theorem zWa{lo:Int}:ItD K c F (Itr lo n) (rngD lo n):=by
 intro i H T sm hb;unfold rngD;refine⟨fun d hd=>?_,fun hi=>by rw[aK,List.length_range]at hi;exact Nat.le_of_eq hi.symm⟩;rw[dZ]at hd;cases q:(List.range n)[i]? with
 |none=>rw[q]at hd;cases hd
 | some j=>
   rw[q]at hd;cases hd;obtain⟨hl,e⟩:=aH.mp q;rw[List.getElem_range]at e;subst e;rw[List.length_range]at hl;refine⟨hl,fun x H' y=>?_⟩;obtain⟨rfl,rfl⟩:=y;exact⟨Same.refl _,.int _⟩
def zipD:List D->List D->List D
 |d::ds,e::es=>D.tup [d,e]::zipD ds es
 |_,_=> []
theorem yE:∀(ds es:List D),(zipD ds es).length =min ds.length es.length
 |[],es=>by simp[zipD]
 |d::ds,[]=>by simp[zipD]
 |d::ds,e::es=>by simp only[zipD,aY,yE ds es];omega
theorem zipD_get:∀{ds es:List D} {i:Nat} {z:D},(zipD ds es)[i]?=some z->∃d e,ds[i]?=some d/\es[i]?=some e/\z=D.tup [d,e]
 |[],es,i,z,h=>by simp[zipD]at h
 |d::ds,[],i,z,h=>by simp[zipD]at h
 |d::ds,e::es,0,z,h=>by simp only[zipD,dX,Option.some.injEq]at h;exact⟨d,e,rfl,rfl,h.symm⟩
 | d::ds,e::es,i + 1,z,h=>by
   obtain⟨d',e',h1,h2,h3⟩:=zipD_get (ds:=ds) (es:=es) (i:=i) (z:=z) (by simpa[zipD] using h);exact⟨d',e',by simpa using h1,by simpa using h2,h3⟩
theorem vVr{T:Fp}{x y:V}{d e:D}{p:aV}(hn:H p=none)(hb:∀a,T a≠0->∃o,H a=some o/\Hb o)(hx:DAt K c (hide T H) x d)(hy:DAt K c (hide T H) y e):Same H (upd H p (.tup [x,y]))/\DAt K c (hide T (upd H p (.tup [x,y]))) (.ref p) (D.tup [d,e]):=by
 have sm:Same H (upd H p (.tup [x,y])):=.upd hn;have hp:T p=0:=by
  grind
 have ss:Same (hide T H) (hide T (upd H p (.tup [x,y]))):=zF fun a o z q=>⟨z,sm a o q⟩
 exact⟨sm,.of (k:=.tup) (SqT.of (by rw[v4 hp,upd_same])) (.cons (hx.same ss) (.cons (hy.same ss) .nil))⟩
noncomputable def qQ3:Nat->List D->List D
 |_,[]=> []
 |n,d::ds=>D.tup [.int (n:Int),d]::qQ3 (n+1) ds
theorem qJz:∀(n:Nat) (ds:List D),(qQ3 n ds).length =ds.length
 |_,[]=>rfl
 |n,d::ds=>by simp only[qQ3,aY,qJz (n+1) ds]
theorem enumD_get:∀{n:Nat} {ds:List D} {i:Nat} {z:D},(qQ3 n ds)[i]?=some z->∃d,ds[i]?=some d/\z=D.tup [.int ((n+i:Nat):Int),d]
 |n,[],i,z,h=>by simp[qQ3]at h
 |n,d::ds,0,z,h=>by simp only[qQ3,dX,Option.some.injEq]at h;exact⟨d,rfl,h.symm⟩
 | n,d::ds,i + 1,z,h=>by
   obtain⟨d',h1,h2⟩:=enumD_get (n:=n+1) (ds:=ds) (i:=i) (z:=z) (by simpa[qQ3] using h);grind
theorem zVz(h:SqL K F a xs)(k:DsAt K c F xs ds):ItD K c F (Ite K a) (qQ3 0 ds):=by
 intro i H T sm hb;have g1:SqL K H a xs:=j6 vK (j6 sm h);refine⟨fun z hz=>?_,fun hi=>⟨xs,g1,by rw[qJz,←k.len]at hi;omega⟩⟩;obtain⟨d,e1,rfl⟩:=enumD_get hz;obtain⟨v,v1,v2⟩:=k.get e1;refine⟨⟨xs,v,g1,v1⟩,fun x H' y=>?_⟩;obtain⟨p,rfl,hn,y2⟩:=y;rw[y2 xs v g1 v1,Nat.zero_add];exact vVr hn hb (.int _) (v2.same sm)
theorem zWb(h:SqL K F a xs)(k:DsAt K c F xs ds):ItD K c F (Itv K a xs.length) ds.reverse:=by
 intro i H T sm hb;have g1:SqL K H a xs:=j6 vK (j6 sm h);have hl:=k.len;refine⟨fun z hz=>?_,fun hi=>⟨xs,g1,rfl,by rw[List.length_reverse]at hi;omega⟩⟩;have hi:i<ds.length:=by
  have:=(aH.mp hz).1;rw[List.length_reverse]at this;exact this
 rw[List.getElem?_reverse hi]at hz;obtain⟨v,v1,v2⟩:=k.get hz;rw[←hl]at v1;refine⟨⟨xs,v,g1,rfl,by omega,v1⟩,fun x H' y=>?_⟩;obtain⟨rfl,y2⟩:=y;have:=y2 xs g1;rw[v1]at this;cases this;exact⟨Same.refl _,v2.same sm⟩
end
noncomputable def qWo:D->Option (List D)
 |.nd .lst ds=>some ds
 |.nd .tup ds=>some ds
 |_=>none
noncomputable def qQl:D->Option (List D)
 |.nd .lst ds=>some ds
 |_=>none
noncomputable def qY2:D->Option (List D)
 |.nd .tup ds=>some ds
 |_=>none
section
variable{K:aQ}{c:Nat->aV}{F:Hp}{u:V}{d:D}{ds:List D}
theorem qX8(h:DAt K c F u d)(e:qQl d=some ds):∃p vs,u=.ref p/\SqL K F p vs/\DsAt K c F vs ds:=by
 unfold qQl at e;split at e
 ·cases e;exact h.un
 ·cases e
theorem zQr(h:DAt K c F u d)(e:qY2 d=some ds):∃p vs,u=.ref p/\SqT K F p vs/\DsAt K c F vs ds:=by
 unfold qY2 at e;split at e
 ·cases e;exact h.un
 ·cases e
theorem zQx(h:DAt K c F u d)(e:qWo d=some ds):∃p vs,u=.ref p/\(SqL K F p vs\/SqT K F p vs)/\DsAt K c F vs ds:=by
 unfold qWo at e;split at e
 ·cases e;obtain⟨p,vs,a,b,r⟩:=h.un;exact⟨p,vs,a,.inl b,r⟩
 ·cases e;obtain⟨p,vs,a,b,r⟩:=h.un;exact⟨p,vs,a,.inr b,r⟩
 ·cases e
end
noncomputable def iV(s:SV):SI:=fun env=>(s env).bind fun r=>(opt (qWo r.1)).bind fun ds=>.ok (ds,r.2)
noncomputable def iL(f:List D->Option (List D))(ss:List SV):SI:=fun env=>(evVs ss env).bind fun r=>(opt (f r.1)).bind fun ds=>.ok (ds,r.2)
noncomputable def in62(j:Int):Bool:=decide (-(2 ^ 62)<=j) && decide (j<2 ^ 62)
theorem vWx{j:Int}(h:in62 j=true): -(2 ^ 62)<=j/\j<2 ^ 62:=by
 unfold in62 at h;rw[aP]at h;exact⟨of_decide_eq_true h.1,of_decide_eq_true h.2⟩
noncomputable def rg1:List D->Option (List D)
 |[.int j]=>cond (in62 j) (some (rngD 0 j.toNat)) none
 |_=>none
noncomputable def zpL:List D->Option (List D)
 |[x,y]=>(qQl x).bind fun ds=>(qQl y).bind fun es=>some (zipD ds es)
 |_=>none
noncomputable def zpT:List D->Option (List D)
 |[x,y]=>(qY2 x).bind fun ds=>(qY2 y).bind fun es=>some (zipD ds es)
 |_=>none
noncomputable def zpM:List D->Option (List D)
 |[x,y]=>(qY2 x).bind fun ds=>(qQl y).bind fun es=>some (zipD ds es)
 |_=>none
noncomputable def enL:List D->Option (List D)
 |[x]=>(qQl x).bind fun ds=>some (qQ3 0 ds)
 |_=>none
section
variable{X:Cx}{c:Nat->aV}{E:XK}{tg e e1 e2:Expr}{s:SV}{ss:List SV}{p pos tpos:Pos}{elts:List Expr}{kk:Nat}
theorem qV0(h:EV X c E e s):ID' X c E tg e (iV s):=by
 refine⟨PI.imp (zYl h.h) fun σ H R=>?_⟩;rintro⟨env,B,W,cf,w⟩;refine⟨env,B,W,cf,wp_mono (fun r w1 u H1 W1 g=>?_) (fun _ _ he=>he) (qX.mp w)⟩;obtain⟨ds,e1,w2⟩:=qC w1;obtain⟨q,vs,rfl,b1,b2⟩:=zQx g.at_ e1;rcases b1 with b1|b1
 ·exact⟨q,rfl,.inl ⟨⟨vs,j6 vK b1⟩,w2 _ H1 W1 g.st g.cf (zVy b1 b2)⟩⟩
 ·exact⟨q,rfl,.inr ⟨⟨vs,vK.tup b1⟩,w2 _ H1 W1 g.st g.cf (zJ9 b1 b2)⟩⟩
theorem ds1{K:aQ}{F:Hp}{x:D}(h:DsAt K c F us [x]):∃u,us=[u]/\DAt K c F u x:=by
 obtain⟨u,r,rfl,a,b⟩:=h.un;rw[b.un0];exact⟨u,rfl,a⟩
theorem ds2{K:aQ}{F:Hp}{x y:D}(h:DsAt K c F us [x,y]):∃u w,us=[u,w]/\DAt K c F u x/\DAt K c F w y:=by
 obtain⟨u,r,rfl,a,b⟩:=h.un;obtain⟨w,rfl,b2⟩:=ds1 b;exact⟨u,w,rfl,a,b2⟩
theorem yY(hg:Gl X "range")(hm:X.mg "range"=none)(ha:VsD X c E [e] ss)(hs:aX [e] X.env=[(false,eval e X.env)]:=by rfl):ID' X c E tg (.Call (.Name "range" p) [e] [] pos) (iL rg1 ss):=by
 refine⟨PI.imp (vX6 hg hm ha.h hs) fun σ H R=>?_⟩;rintro⟨env,B,W,cf,w⟩;refine qZ4 cf (qX.mp w) fun r w1 us H1 W1 g=>?_
 obtain⟨ds,e1,w2⟩:=qC w1;have ga:=g.at_;unfold rg1 at e1;split at e1
 ·rename_i j e2;rw[e2]at ga;obtain⟨u,rfl,a⟩:=ds1 ga;obtain⟨q1,q2⟩:=wD e1;cases q2;cases a;exact⟨j,rfl,(vWx q1).1,(vWx q1).2,w2 _ H1 W1 g.st g.cf zWa⟩
 ·cases e1
theorem zWf(hg:Gl X "enumerate")(hm:X.mg "enumerate"=none)(ha:VsD X c E [e] ss)(hs:aX [e] X.env=[(false,eval e X.env)]:=by rfl)(hs2:aX [] X.env=[]:=by rfl):ID' X c E (.Tuple elts kk tpos) (.Call (.Name "enumerate" p) [e] [] pos) (iL enL ss):=by
 refine⟨PI.imp (zJm hg hm ha.h hs hs2) fun σ H R=>?_⟩;rintro⟨env,B,W,cf,w⟩;refine qZ4 cf (qX.mp w) fun r w1 us H1 W1 g=>?_
 obtain⟨ds,e1,w2⟩:=qC w1;have ga:=g.at_;unfold enL at e1;split at e1
 ·rename_i x e2;rw[e2]at ga;obtain⟨u,rfl,a⟩:=ds1 ga;obtain⟨xs,q1,e3⟩:=bnd e1;cases e3;obtain⟨q,vs,rfl,c1,c2⟩:=qX8 a q1;exact⟨q,rfl,⟨_,j6 vK c1⟩,w2 _ H1 W1 g.st g.cf (zVz c1 c2)⟩
 ·cases e1
end
noncomputable def Res.ne{α:Type}:Res α->Res α
 |.ok a=>.ok a
 |_=>.no
theorem zW2{Q:α->Prop}{E E' :Nat->List (Str×D)->Prop}:∀{x:Res α},x.ne.wp Q E->x.wp Q E'
 |.ok _,h=>h
 |.er _ _,h=>h.elim
 |.no,h=>h.elim
noncomputable def yC(g:SG)(t:ST)(el:SV):List D->Ev->Res (List D×Ev)
 |[],env=>.ok ([],env)
 |d::ds,env=>(opt (g d env)).bind fun e1=>(t e1).ne.bind fun r=>cond r.1 ((el r.2).ne.bind fun v=>(yC g t el ds v.2).bind fun q=>.ok (v.1::q.1,q.2)) (yC g t el ds r.2)
noncomputable def capO(cs:List (Nat×Nat))(i:Nat):Option Nat:=match cs with
 |[]=>none
 |c::r=>if c.1=i then some c.2 else capO r i
theorem qZd:∀{cs:List (Nat×Nat)} {i j:Nat},capO cs i=some j->(i,j)∈cs
 |[],i,j,h=>by cases h
 | c::r,i,j,h=>by
   simp only[capO]at h;split at h
   ·grind
   ·exact aC _ (qZd h)
theorem vWf:∀{cs:List (Nat×Nat)} {i i' j:Nat},(cs.map (·.2)).Nodup ->(i,j)∈cs->(i',j)∈cs->i=i'
 | c::r,i,i',j,hn,h1,h2=>by
   rw[aS,cS]at hn;rcases aA.mp h1 with a1|a1
   ·grind
   ·rcases aA.mp h2 with a2 | a2
    ·grind
    ·exact vWf hn.2 a1 a2
noncomputable def capS{α:Type}(cs:List (Nat×Nat))(u:α)(l:List α):Nat->Nat->List α
 |_,0=> []
 | i,n + 1=>(match capO cs i with
   |some j=>l.getD j u
   |none=>u)::capS cs u l (i+1) n
theorem qYf{cs:List (Nat×Nat)}{u:α}{l:List α}:∀(n i:Nat),(capS cs u l i n).length =n
 | 0,i=>rfl
 |n+1,i=>by rw[capS,aY,qYf n]
theorem qJx{cs:List (Nat×Nat)}{u:α}{l:List α}:∀(n i k:Nat),k<n->(capS cs u l i n)[k]?=some (match capO cs (i+k) with
  |some j=>l.getD j u
  |none=>u)
 | 0,i,k,h=>by omega
 |n+1,i,0,h=>by rw[capS];rfl
 | n + 1,i,k + 1,h=>by
   rw[capS,List.getElem?_cons_succ,qJx n (i+1) k (by omega),show i+1+k=i+(k+1) by omega]
theorem vXw{l:List (Option α)}{v:α}(h:l.getD j none=some v):l[j]?=some (some v):=by
 rw[bL]at h;cases e:l[j]? with
 |none=>rw[e]at h;cases h
 |some o=>rw[e]at h;cases h;rfl
noncomputable def qVs(cs:List (Nat×Nat)):Nat->Nat->Ev->Ev
 |_,0,env=>env
 | i,n + 1,env=>qVs cs (i + 1) n (match capO cs i with
   |some j=>env.set j .un
   |none=>env)
noncomputable def putI(cs:List (Nat×Nat)):Nat->Ev->Ev->Ev
 |_,[],env=>env
 | i,s::inn,env=>putI cs (i + 1) inn (match capO cs i with
   |some j=>env.set j s
   |none=>env)
noncomputable def vJ6(cs:List (Nat×Nat))(T:List Nat)(n m:Nat):Bool:=decide ((cs.map (·.1)).Nodup /\(cs.map (·.2)).Nodup /\∀c∈cs,c.1<n/\c.2<m/\c.1∉T)
theorem qWb{cs:List (Nat×Nat)}:∀{n i:Nat} {env:Ev},(qVs cs i n env).length =env.length
 | 0,i,env=>rfl
 | n + 1,i,env=>by
   rw[qVs,qWb];grind
theorem vVm{cs:List (Nat×Nat)}:∀{inn:Ev} {i:Nat} {env:Ev},(putI cs i inn env).length =env.length
 |[],i,env=>rfl
 | s::inn,i,env=>by
   rw[putI,vVm];grind
theorem vVe{cs:List (Nat×Nat)}{k:Nat}{o:O}:∀{n i:Nat} {env:Ev},(qVs cs i n env)[k]?=some (.s true o)->env[k]?=some (.s true o)
 | 0,i,env,h=>h
 | n + 1,i,env,h=>by
   rw[qVs]at h;have:=vVe h;grind
theorem vWn{cs:List (Nat×Nat)}{k:Nat}{o:O}:∀{inn:Ev} {i:Nat} {env:Ev},(putI cs i inn env)[k]?=some (.s true o)->env[k]?=some (.s true o)\/∃i',capO cs i' =some k/\i<=i' /\inn[i' - i]?=some (.s true o)
 |[],i,env,h=>.inl h
 | s::inn,i,env,h=>by
   rw[putI]at h;rcases vWn h with h|⟨i',h1,h2,h3⟩
   ·grind
   ·grind
section
variable{K:aQ}{c:Nat->aV}{F H:Hp}{cs:List (Nat×Nat)}
theorem cap_in{env0:Ev}(h2:(cs.map (·.2)).Nodup)(h3:∀e∈cs,e.2<env0.length):∀{n i:Nat} {env:Ev} {W:Fp},SlAt K c F H env σ W->(∀i' j,i<=i' ->capO cs i' =some j->env[j]?=env0[j]?)->
  ∃Wi R,SlAt K c F H (capS cs .un env0 i n) (capS cs none σ i n) Wi/\SlAt K c F H (qVs cs i n env) σ R/\∀a,W a=Wi a+R a
 | 0,i,env,W,h,q=>⟨fun _=>0,W,⟨⟨rfl,h.tab⟩,fun _=>rfl⟩,h,fun a=>by(try dsimp only);omega⟩
 | n + 1,i,env,W,h,q=>by
   cases e:capO cs i with
   | none=>
     obtain⟨Wi,R,a1,a2,a3⟩:=cap_in h2 h3 (n:=n) (i:=i+1) h fun i' j hi he=>q i' j (by omega) he
     refine⟨Wi,R,?_,?_,a3⟩
     ·rw [capS,capS,e];exact⟨none,_,fun _=>0,Wi,rfl,fun _=>rfl,a1,fun a=>by(try dsimp only);omega⟩
     ·rw[qVs,e];exact a2
   | some j=>
     have hm:=qZd e;have hj:j<env0.length:=h3 _ hm;have e1:env[j]?=some env0[j]:=by rw[q i j (aD _) e];exact aN hj
     obtain⟨x,Z1,R1,k1,k2,k3,k4⟩:=h.focus e1;have k5:=k4 F H .un x (fun _=>0) R1 (Same.refl _) (fun _ _=>rfl) (fun _=>rfl) fun a=>by(try dsimp only);omega
     rw[yD k1]at k5;obtain⟨Wi,R,a1,a2,a3⟩:=cap_in h2 h3 (n:=n) (i:=i+1) k5 fun i' j' hi he=>by
      have nj:j≠j' :=fun z=>by
       subst z;have:=vWf h2 hm (qZd he);omega
      rw[bK nj];exact q i' j' (by omega) he
     refine⟨fun a=>Z1 a+Wi a,R,?_,?_,fun a=>by rw[k3,a3];(try dsimp only);omega⟩
     ·rw [capS,capS,e];refine⟨x,_,Z1,Wi,?_,?_,a1,fun _=>rfl⟩
      ·dsimp only;rw[bL,k1];rfl
      ·dsimp only;rw[bL,aN hj];exact k2
     ·rw[qVs,e];exact a2
theorem cap_out:∀{inn:Ev} {σ2:L2.St} {i:Nat} {env:Ev} {R Wi:Fp},SlAt K c F H inn σ2 Wi->SlAt K c F H env σ R->(∀(k j:Nat),capO cs (i+k)=some j->k<inn.length->j<env.length/\σ2[k]?=σ[j]?)->(∀a,Wi a+R a<=1)->∃W,SlAt K c F H (putI cs i inn env) σ W/\∀a,W a<=Wi a+R a
 |[],σ2,i,env,R,Wi,h,k,q,_=>⟨R,k,fun a=>by omega⟩
 | s::inn,σ2,i,env,R,Wi,h,k,q,nd=>by
   obtain⟨x,r,Z1,Z2,rfl,b,cc,d⟩:=h;cases e:capO cs i with
   | none=>
     obtain⟨W,h1,h2⟩:=cap_out (i:=i+1) cc k (fun m j he hm=>by
      obtain⟨q1,q2⟩:=q (m+1) j (by rw[show i+(m+1)=i+1+m by omega];exact he) (by rw[aY];omega);exact⟨q1,by simpa using q2⟩) (fun a=>by have:=nd a;rw[d]at this;omega)
     refine⟨W,?_,fun a=>by have:=h2 a;rw[d];omega⟩;rw[putI,e];exact h1
   | some j=>
     obtain⟨q1,q2⟩:=q 0 j (by rw[Nat.add_zero];exact e) (by rw[aY];omega);rw[dX]at q2;obtain⟨y,Y1,R1,k1,k2,k3,k4⟩:=k.focus (aN q1);rw[←q2]at k1;cases k1;have k5:=k4 F H s x Z1 (fun a=>Z1 a+R1 a) (Same.refl _) (fun _ _=>rfl) b fun _=>rfl
     rw[yD q2.symm]at k5;obtain⟨W,h1,h2⟩:=cap_out (i:=i+1) cc k5 (fun m j' he hm=>by
      obtain⟨g1,g2⟩:=q (m+1) j' (by rw[show i+(m+1)=i+1+m by omega];exact he) (by rw[aY];omega);exact⟨by rw[bT];exact g1,by simpa using g2⟩) (fun a=>by have:=nd a;rw[d,k3]at this;(try dsimp only);omega)
     refine⟨W,?_,fun a=>by have:=h2 a;(try dsimp only at this);rw[d,k3];omega⟩;rw[putI,e];exact h1
theorem Cf.write{p:aV}{ho:HO}(cf:Cf K c env σ H B W)(hp:B p≠0)(hb:Hb ho):Cf K c env σ (upd H p ho) B W:=by
 have hh:(hd2 B W) p≠0:=by dsimp only[hd2];omega
 have np:∀a,W a≠0->a≠p:=fun a z y=>by have:=cf.nd a;rw[y]at z this;omega
 refine⟨by rw[qYb hh];exact cf.at_.keep (Same.refl _) fun a z=>qF (np a z),cf.nd,fun a z=>?_⟩;by_cases y:a=p
 ·subst y;exact⟨ho,upd_same,hb⟩
 ·rw[qF y];exact cf.hb a z
end
noncomputable def compS(n:Nat)(cs:List (Nat×Nat))(T:List Nat)(it:SI)(g:SG)(t:ST)(el:SV):SE:=fun env=>(it env).bind fun r=>cond (vJ6 cs T n r.2.length && decide (r.1.length<=lim))
 ((yC g t el r.1 (capS cs .un r.2 0 n)).bind fun q=>.ok (.ow .lst (q.1.map .fz),putI cs 0 q.2 (qVs cs 0 n r.2))) .no
structure TDs(X:Cx)(c:Nat->aV)(E:XK)(ifs:List Expr)(t:ST):Prop where
 h:PTs X ifs (tT X.K c E t)
noncomputable def bTrue:ST:=fun env=>.ok (true,env)
theorem PTs.imp{e:List Expr}{t:TT}(h:PTs X e t)(k:∀σ H Q,t' σ H Q->t σ H Q):PTs X e t' :=fun pins s σ H Q I q=>h pins s σ H Q I (k σ H Q q)
theorem qJi:TDs X c E [] bTrue:=by
 refine⟨PTs.imp zZ9 fun σ H Q=>?_⟩;rintro⟨env,B,W,cf,w⟩;exact w H W .refl cf
theorem zZt{t:ST}(h:TD X c E e t):TDs X c E [e] t:=⟨zZ8 h.h⟩
noncomputable abbrev EN' :XK:=fun _ _ _=>False
set_option maxHeartbeats 1000000 in
theorem vVh{K:aQ}{cs:List (Nat×Nat)}{T:List Nat}{t:ST}{el:SV}(h:tE K c E (compS n cs T it g t el) σ H Q):
  tComp (tIt K c E it) (tG K c T g) (tT K c EN' t) (tV K c EN' el) (fun σ=>capS cs none σ 0 n) σ H Q:=by
 obtain⟨env,B,W,cf,w⟩:=h;refine⟨env,B,W,cf,wp_mono (fun r1 h1 J H1 W1 st1 cf1 iter p hp=>?_) (fun _ _ he=>he) (qX.mp w)⟩;obtain⟨ds,e1⟩:=r1;obtain⟨hck,h1⟩:=zE h1;rw[aP]at hck;obtain⟨n1,n2,n3⟩:=(of_decide_eq_true hck.1:(cs.map (·.1)).Nodup /\(cs.map (·.2)).Nodup /\∀c∈cs,c.1<n/\c.2<e1.length/\c.1∉T)
 have hlim:ds.length<=lim:=of_decide_eq_true hck.2;obtain⟨Wi,R,i1,i2,i3⟩:=cap_in n2 (fun e he=>(n3 e he).2.1) (n:=n) (i:=0) cf1.at_ (fun _ _ _ _=>rfl);have nd1:∀a,B a+(Wi a+R a)<=1:=fun a=>by have:=cf1.nd a;rw[i3]at this;exact this
 obtain⟨pB,pW⟩:=cf1.fresh hp;have pWi:Wi p=0/\R p=0:=by have:=i3 p;omega
 have smp:Same H1 (upd H1 p (.lst [])):=.upd hp;have cellp:∀a,a≠p->upd H1 p (.lst []) a=H1 a:=fun a z=>qF z
 let B0:Fp:=fun a=>B a+R a
 have hB0:∀a,B0 a=B a+R a:=fun _=>rfl
 have sm0:Same (hide (hd2 B W1) H1) (hide (hd2 (hd2 B0 (one p)) Wi) (upd H1 p (.lst []))):=zF fun a o z q=>by
  have ne:a≠p:=fun y=>by rw[y,hp]at q;cases q
  have:=yW ne;have:=i3 a;have:=hB0 a;dsimp only[hd2]at *;exact⟨by omega,by rw[cellp a ne];exact q⟩
 have cfI:Cf K c (capS cs .un e1 0 n) (capS cs none σ 0 n) (upd H1 p (.lst [])) (hd2 B0 (one p)) Wi:=by
  refine⟨i1.keep sm0 fun a z=>cellp a fun y=>by rw[y]at z;omega,fun a=>?_,fun a z=>?_⟩
  ·have:=nd1 a;have:=hB0 a;by_cases y:a=p
   ·subst y;dsimp only[hd2];rw[wO];omega
   ·dsimp only[hd2];rw[yW y];omega
  ·by_cases y:a=p
   ·subst y;exact⟨_,upd_same,trivial⟩
   ·rw [cellp a y];exact cf1.hbs (by have:=i3 a;have:=hB0 a;dsimp only[hd2]at z;rw[yW y]at z;omega)
 generalize hPost:(fun r:List D×Ev=>∀u H' W' Z,Got K c env σ H B W (putI cs 0 r.2 (qVs cs 0 n e1)) H' W' Z (.ow .lst (r.1.map .fz)) u->Q u H')=Post
 let Inv:Nat->Nat->L2.St->List V->Hp->Prop:=fun i m σ2 ys H2=>m=ds.length - i/\i<=ds.length/\∃inn W2 out,Step (capS cs .un e1 0 n) (capS cs none σ 0 n) (upd H1 p (.lst [])) B0 (hd2 Wi (one p)) inn σ2 H2 (hd2 W2 (one p))/\Cf K c inn σ2 H2 (hd2 B0 (one p)) W2/\
  H2 p=some (.lst ys)/\DsAt K c (hide (hd2 (hd2 B0 (one p)) W2) H2) ys out/\ys.length<=i/\(∀e∈cs,σ2[e.1]?=(capS cs none σ 0 n)[e.1]?)/\(yC g t el (ds.drop i) inn).wp (fun q=>Post (out ++ q.1,q.2)) (fun _ _=>True)
 refine⟨Inv,⟨ds.length,by simp,Nat.zero_le _,_,Wi,[],.refl,cfI,upd_same,.nil,aD _,fun _ _=>rfl,?_⟩,?_⟩
 ·refine wp_mono (fun q hq=>?_) (fun _ _ _=>trivial) (qX.mp h1);subst hPost;exact hq
 rintro i m σ2 ys H2 ⟨rfl,hi,inn,W2,out,st2,cf2,at2,dsO,hly,hσ,w2⟩;refine⟨at2,qXu (by omega),?_⟩;have eqI:hide (hd2 (hd2 B0 (one p)) Wi) (upd H1 p (.lst []))=hide (hd2 B0 (hd2 Wi (one p))) (upd H1 p (.lst [])):=jJ fun a=>by dsimp only[hd2];omega
 have eq2:hide (hd2 (hd2 B0 (one p)) W2) H2=hide (hd2 B0 (hd2 W2 (one p))) H2:=jJ fun a=>by dsimp only[hd2];omega
 have smI:Same (hide (hd2 B W1) H1) (hide (hd2 (hd2 B0 (one p)) W2) H2):=sm0.trans (by rw[eqI,eq2];exact st2.same);have p0:B0 p=0:=by rw[hB0];omega
 have pBp:(hd2 B0 (one p)) p≠0:=by dsimp only[hd2];rw[wO];omega
 obtain⟨it1,it2⟩:=iter i H2 (hd2 (hd2 B0 (one p)) W2) smI (fun a z=>cf2.hbs z);by_cases hlt:i<ds.length
 ·obtain⟨go,yl⟩:=it1 ds[i] (aN hlt);refine .inr ⟨go,fun x H3 y=>?_⟩;obtain⟨sm3,hx⟩:=yl x H3 y;rw[List.drop_eq_getElem_cons hlt]at w2;obtain⟨e3,e2,w3⟩:=qC w2;refine⟨inn,_,W2,ds[i],e3,cf2.grow sm3,hx,e2,fun σ4 W4 st4 cf4 kσ=>⟨e3,_,W4,cf4,wp_mono (fun r q H5 W5 st5 cf5=>?_) (fun _ _ he=>he) (zW2 (E' :=erP K c EN' H3 (hd2 B0 (one p)) W4) (qX.mp w3))⟩⟩;obtain⟨b,e5⟩:=r;have st25:=((Step.grow cf2 sm3).trans st4).trans st5;have at5:H5 p=some (.lst ys):=by rw[st25.by_ p pBp];exact at2
  have hσ4:∀e∈cs,σ4[e.1]?=(capS cs none σ 0 n)[e.1]?:=fun e he=>(kσ e.1 (n3 e he).2.2).trans (hσ e he)
  cases b with
  | false=>
    have l25:=st25.lift (B:=B0) (Z:=one p) (W' :=hd2 W2 (one p)) (Y' :=hd2 W5 (one p)) (fun _=>rfl) (fun _=>rfl) (fun _=>rfl);exact⟨ds.length - (i+1),by omega,rfl,hlt,e5,W5,out,st2.trans l25,cf5,at5,dsO.same st25.same,by omega,hσ4,q⟩
  | true=>
    refine⟨e5,_,W5,cf5,wp_mono (fun r q u H6 W6 g6=>?_) (fun _ _ he=>he) (zW2 (E' :=erP K c EN' H5 (hd2 B0 (one p)) W5) (qX.mp q))⟩;obtain⟨v,e6⟩:=r;have st26:=st25.trans g6.st;have at6:H6 p=some (.lst ys):=by rw[st26.by_ p pBp];exact at2
    have l26:=st26.lift (B:=B0) (Z:=one p) (W' :=hd2 W2 (one p)) (Y' :=hd2 W6 (one p)) (fun _=>rfl) (fun _=>rfl) (fun _=>rfl);have hh6:(hd2 (hd2 B0 (one p)) W6) p≠0:=by dsimp only[hd2]at *;omega
    have hh7:(hd2 B0 (hd2 W6 (one p))) p≠0:=by dsimp only[hd2];rw[wO];omega
    have wr:Step e6 σ4 H6 B0 (hd2 W6 (one p)) e6 σ4 (upd H6 p (.lst (ys ++ [u]))) (hd2 W6 (one p)):=by
     refine⟨by rw[qYb hh7];exact Same.refl _,fun a z=>qF fun y=>by rw[y]at z;exact z p0,fun a z=>.inl z,fun a z=>?_,fun a _ _=>?_,fun _ o h=>⟨⟨o,h⟩,rfl⟩,rfl⟩
     ·by_cases y:a=p
      ·subst y;rw[upd_same]at z;cases z
      ·rw[qF y]at z;exact z
     ·by_cases y:a=p
      ·subst y;rw[at6];trivial
      ·exact .of (qF y)
    refine⟨at6,ds.length - (i+1),by omega,rfl,hlt,e6,W6,out ++ [v],(st2.trans l26).trans wr,g6.cf.write pBp trivial,upd_same,?_,by rw[aB,List.length_singleton];omega,hσ4,?_⟩
    ·rw [qYb hh6];exact(dsO.same st26.same).append (.cons g6.at_ .nil)
    ·exact wp_mono (fun q hq=>by rw[cK];exact hq) (fun _ _ _=>trivial) (qX.mp q)
 ·have hi2:i=ds.length:=by omega
  subst hi2;refine .inl ⟨it2 rfl,?_⟩;rw[List.drop_length]at w2;have w3:Post (out ++ [],inn):=w2;rw[bG,←hPost]at w3;have nd2:∀a,B a+R a+one p a+W2 a<=1:=fun a=>by have:=cf2.nd a;have:=hB0 a;dsimp only[hd2]at *;omega
  have cellR:∀a,R a≠0->H2 a=H1 a:=fun a z=>by
   rw[st2.by_ a (by rw[hB0];omega)];exact cellp a fun y=>by rw[y]at z;omega
  have linn:inn.length=n:=by rw[st2.len,qYf]
  obtain⟨W3,o1,o2⟩:=cap_out (cs:=cs) (i:=0) cf2.at_ (i2.keep smI cellR) (fun k j he hk=>by
   rw[Nat.zero_add]at he;have hm:=qZd he;obtain⟨m1,m2,_⟩:=n3 _ hm;refine⟨by rw[qWb];exact m2,?_⟩;rw[hσ _ hm];show(capS cs none σ 0 n)[k]?=σ[j]?;have hj:j < σ.length:=by rw[←cf1.len];exact m2
   rw[qJx n 0 k m1,Nat.zero_add,he];dsimp only;rw[bL,aN hj];rfl) (fun a=>by have:=nd2 a;omega)
  have smE:Same (hide (hd2 (hd2 B0 (one p)) W2) H2) (hide (hd2 (hd2 B (one p)) W3) H2):=jV fun a z=>by have:=o2 a;have:=hB0 a;dsimp only[hd2]at *;omega
  have eqE:hide (hd2 (hd2 B (one p)) W3) H2=hide (hd2 B (hd2 W3 (one p))) H2:=jJ fun a=>by dsimp only[hd2];omega
  refine w3 (.ref p) H2 W3 (one p) ⟨st1.trans ⟨by rw[←eqE];exact smI.trans smE,fun a z=>?_,fun a z=>?_,fun a z=>?_,fun a z1 z2=>?_,fun k o h=>⟨?_,rfl⟩,by rw[vVm,qWb]⟩,⟨o1.keep smE fun _ _=>rfl,fun a=>?_,fun a z=>?_⟩,OAt.ow.mpr ⟨p,ys,fun _=>0,rfl,at2,OsAt.fzs.mpr ⟨dsO.same smE,fun _=>rfl⟩,fun _=>rfl⟩⟩
  ·rw [st2.by_ a (by rw [hB0];omega)];exact cellp a fun y=>by rw[y]at z;omega
  ·by_cases y:a=p
   ·exact .inr (by rw[y];exact hp)
   ·have y1:=yW y;have:=o2 a;by_cases q:R a=0
    ·rcases st2.new a (by dsimp only [hd2] at *;omega) with q1 | q1
     ·exact .inl (by rw[i3];dsimp only[hd2]at q1;omega)
     ·exact .inr (by rw[cellp a y]at q1;exact q1)
    ·exact .inl (by rw[i3];omega)
  ·have:=st2.dom a z;by_cases y:a=p
   ·subst y;rw[upd_same]at this;cases this
   ·rw[cellp a y]at this;exact this
  ·have y:a≠p:=fun y=>by rw [y] at z1;exact z1 pW
   have y1:=yW y;by_cases q:R a=0
   ·have:=st2.pin a (by have:=i3 a;dsimp only [hd2];omega) (by have:=o2 a;dsimp only [hd2] at *;omega);rw[cellp a y]at this;exact this
   ·exact .of (cellR a q)
  ·rcases vWn h with h | ⟨i',k1,_,k3⟩
   ·exact⟨o,vVe h⟩
   ·rw [Nat.sub_zero] at k3;obtain⟨⟨o0,k4⟩,_⟩:=st2.io i' o k3;have hi' :i'<n:=by rw[←linn];exact(aH.mp k3).1
    rw[qJx n 0 i' hi',Nat.zero_add,k1]at k4;have k5:=Option.some.inj k4;dsimp only at k5;rw[bL]at k5;cases e:e1[k]? with
    |none=>rw[e]at k5;cases k5
    |some s=>rw[e]at k5;exact⟨o0,by rw[←k5];rfl⟩
  ·have:=nd2 a;have:=o2 a;dsimp only[hd2];omega
  ·exact cf2.hb a (by have:=hB0 a;dsimp only[hd2]at *;omega)
noncomputable def CapP(X:Cx)(ns:List (Str×NameKind))(Nc:List Str):List (Nat×Nat)->Prop
 |[]=>True
 |c::r=>(∃x,Nc[c.1]?=some x/\X.N[c.2]?=some x/\ns.lookup x=some .cell /\X.env.kindOf x=some .cell)/\CapP X ns Nc r
noncomputable def vKn(X:Cx):List (Str×aV)->Prop
 |[]=>True
 |p::r=>X.env.cells.lookup p.1=some p.2/\vKn X r
theorem vV9{ns:List (Str×NameKind)}:∀{cs:List (Nat×Nat)} {c:Nat×Nat},CapP X ns Nc cs->c∈cs->∃x,Nc[c.1]?=some x/\X.N[c.2]?=some x/\ns.lookup x=some .cell /\X.env.kindOf x=some .cell
 | d::r,c,h,m=>by
   rcases aA.mp m with rfl|m
   ·exact h.1
   ·exact vV9 h.2 m
theorem qKw:∀{cl:List (Str×aV)} {x:Str} {c:aV},vKn X cl->cl.lookup x=some c->X.env.cells.lookup x=some c
 |[],x,c,_,e=>by cases e
 | p::r,x,c,h,e=>by
   rw[List.lookup_cons]at e;split at e
   ·rename_i q;have q' :x=p.1:=by simpa using q
    cases e;rw[q'];exact h.1
   ·exact qKw h.2 e
theorem qZ1:∀{cl:List (Str×α)} {x:Str},x∈cl.map (·.1)->∃c,cl.lookup x=some c
 | p::r,x,h=>by
   rw[List.lookup_cons];split
   ·exact⟨_,rfl⟩
   ·rename_i q;rw[aS]at h;rcases aA.mp h with z|z
    ·subst z;simp at q
    ·exact qZ1 z
theorem jVh{cl:List (Str×aV)}(cs:List (Nat×Nat))(ns:List (Str×NameKind))(xs:List Str)(hrel:(relabel scope X.env).names =ns)(hclos:closureFor scope X.env=pure cl)(hxs:cl.map (·.1)=xs)(hk:scope.kind=.function)(hnc:∀y∈scope.names,y.2≠ .cell)(hnm:∀y∈scope.names,y.2=.local ->scope.names.lookup y.1=some .local)(hcell:vKn X cl)(honly:∀y∈ns,y.2=.cell \/y.2=.free ->y.1∈xs)(hcap:CapP X ns Nc cs):
  Caps X scope cl Nc (fun σ=>capS cs none σ 0 Nc.length) where
 clos:=hclos;kind:=hk;nocell:=hnc;names:=hnm;cells:=fun y d e=>qKw hcell e
 has:=fun y h=>by
  rw[hrel]at h;refine qZ1 ?_
  rw[hxs];rcases h with h|h
  ·exact honly _ (bR h) (.inl rfl)
  ·exact honly _ (bR h) (.inr rfl)
 len:=fun σ=>qYf _ _
 cap:=fun σ k y v e1 e2 _=>by
  have hk:k<Nc.length:=(aH.mp e1).1;rw[qJx _ 0 k hk,Nat.zero_add]at e2;cases q:capO cs k with
  |none=>rw[q]at e2;cases e2
  | some j=>
    rw[q]at e2;obtain⟨x,h1,h2,h3,h4⟩:=vV9 hcap (qZd q);dsimp only at h1 h2;rw[e1]at h1;cases h1;exact⟨.inl (by rw[hrel];exact h3),.inl h4,j,h2,vXw (Option.some.inj e2),.inr (.inl h4)⟩
theorem qXw(hk:scope.kind=.function)(hfree:∀x∈scope.names,x.2≠ .free)(hcell:∀x∈scope.names,x.2≠ .cell)(hnames:∀y∈scope.names,y.2=.local ->scope.names.lookup y.1=some .local):
  Caps X scope [] Nc (fun σ=>capS [] none σ 0 Nc.length):=by
 have e:(fun σ:L2.St=>capS [] none σ 0 Nc.length)=(fun _=>List.replicate Nc.length none):=by
  funext σ;have:∀n i,capS [] (none:Option V) σ i n=List.replicate n none:=fun n=>by
   induction n with
   |zero=>intro i;rfl
   |succ n ih=>intro i;rw[capS,ih,List.replicate_succ];rfl
  grind
 rw[e];exact jVi hk hfree hcell hnames
section
variable{X:Cx}{c:Nat->aV}{E:XK}{tg iter elt:Expr}{ifs:List Expr}{scope:Scope}{cl:List (Str×aV)}{Nc:List Str}{cs:List (Nat×Nat)}{T:List Nat}{pos:Pos}{it:SI}{g:SG}{t:ST}{el:SV}
theorem qXk(hc:X.calm=true)(cp:Caps X scope cl Nc (fun σ=>capS cs none σ 0 Nc.length))(hi:ID' X c E tg iter it)(hg:∀C s H fp,GD (cCx X scope cl C Nc s H fp) c tg T g)(ht:∀C s H fp,TDs (cCx X scope cl C Nc s H fp) c EN' ifs t)(he:∀C s H fp,EV (cCx X scope cl C Nc s H fp) c EN' elt el)(hs:∀x,foldedSetIterable iter X.env x=pure x:=by intro _;rfl):ED X c E (.ListComp elt [⟨tg,iter,ifs,0⟩] scope pos) (compS Nc.length cs T it g t el):=
 ⟨PE.imp (zJr hc cp hi.h (fun C s H fp=>(hg C s H fp).h) (fun C s H fp=>(ht C s H fp).h) (fun C s H fp=>(he C s H fp).h) hs) fun _ _ _ h=>vVh h⟩
theorem zX1{K:aQ}{s:SE}{D:Ends}{x:Str}(hi:N[i]?=some x)(hl:σ.length=N.length)(h:tS K c E (sSet i s) D σ H):tE K c E s σ H fun x H1=>vJ4 i x σ H1 D.nx:=by
 obtain⟨env,B,W,cf,w⟩:=h;refine⟨env,B,W,cf,wp_mono (fun r1 h1 u H1 W1 Z g=>?_) (fun _ _ he=>he) (qX.mp w)⟩;obtain⟨W2,s2,c2⟩:=g.r.put (vQd g.cf hl hi);exact h1 _ H1 W2 s2 c2
theorem vWh{y:Str}{py spos:Pos}(hc:X.calm=true)(hN:X.N.Nodup)(hiy:X.N[i]?=some y)(hy:Loc X.env.scope y)(cp:Caps X scope cl Nc (fun σ=>capS cs none σ 0 Nc.length))(hi:ID' X c E tg iter it)(hg:∀C s H fp,GD (cCx X scope cl C Nc s H fp) c tg T g)(ht:∀C s H fp,TDs (cCx X scope cl C Nc s H fp) c EN' ifs t)(he:∀C s H fp,EV (cCx X scope cl C Nc s H fp) c EN' elt el)(hsw:swapsWith (.ListComp elt [⟨tg,iter,ifs,0⟩] scope pos) (some (.Name y py)) spos.line X.env=pure true:=by rfl)(hs:∀x,foldedSetIterable iter X.env x=pure x:=by intro _;rfl)(hf:X.fn y=true\/X.env.scope.names.lookup y=some .local :=by first|exact .inl rfl|exact .inr rfl|assumption):
  SD X c E (.Assign [.Name y py] (.ListComp elt [⟨tg,iter,ifs,0⟩] scope pos) spos) (sSet i (compS Nc.length cs T it g t el)):=
 ⟨PS.len (PS.imp (zJg hc hN hiy hy cp hi.h (fun C s H fp=>(hg C s H fp).h) (fun C s H fp=>(ht C s H fp).h) (fun C s H fp=>(he C s H fp).h) hsw hs hf) fun D σ H h=>vVh (n:=Nc.length) (cs:=cs) (T:=T) (it:=it) (g:=g) (t:=t) (el:=el) (zX1 hiy h.1 h.2))⟩
end
theorem vK4:jM (CXd P w) X EN' :=fun _ _ _ _ _ _ _ h=>by
 obtain⟨_,_,_,_,_,_,_,_,_,_,_,_,_,_,_,_,h⟩:=h;exact h.elim
noncomputable def evI:Option SV->Ev->Res (Option Int×Ev)
 |none,env=>.ok (none,env)
 |some s,env=>(s env).bind fun r=>(opt (yR r.1)).bind fun i=>.ok (some i,r.2)
noncomputable def tI(K:aQ)(c:Nat->aV)(E:XK)(s:Option SV):TO:=fun σ H Q=>∃env B W,Cf K c env σ H B W/\(evI s env).wp (fun r=>∀H' W',Step env σ H B W r.2 σ H' W' ->Cf K c r.2 σ H' B W' ->Q r.1 H') (erP K c E H B W)
structure PD(X:Cx)(c:Nat->aV)(E:XK)(e:Option Expr)(s:Option SV):Prop where
 h:PO X e (tI X.K c E s)
theorem PO.imp{e:Option Expr}{t t' :TO}(h:PO X e t)(k:∀σ H Q,t' σ H Q->t σ H Q):PO X e t' :=fun pins s σ H Q I q=>h pins s σ H Q I (k σ H Q q)
theorem zJw:PD X c E none none:=by
 refine⟨PO.imp zJk fun σ H Q=>?_⟩;rintro⟨env,B,W,cf,w⟩;exact w H W .refl cf
theorem zJv{s:SV}(h:EV X c E e s):PD X c E (some e) (some s):=by
 refine⟨PO.imp (zJj h.h) fun σ H Q=>?_⟩;rintro⟨env,B,W,cf,w⟩;refine⟨env,B,W,cf,wp_mono (fun r1 h1 u H1 W1 g=>?_) (fun _ _ he=>he) (qX.mp w)⟩;obtain⟨i,e1,h2⟩:=qC h1;exact⟨i,jF g.at_ e1,h2 H1 W1 g.st g.cf⟩
noncomputable def cutL{α:Type}(xs:List α)(lo hi:Option Int):List α:=(xs.drop (HT.sIx xs.length 0 lo)).take (HT.sIx xs.length xs.length hi - HT.sIx xs.length 0 lo)
theorem zK4{K:aQ}{F:Hp}{ds:List D}{lo hi:Option Int}(h:DsAt K c F vs ds):DsAt K c F (cutV vs lo hi) (cutL ds lo hi):=by
 unfold cutV cutL;rw[h.len];exact(h.drop _).take _
noncomputable def eSlL(o:Oe)(lo hi:Option SV):SE:=fun env=>(evO o env).bind fun r=>(evI lo r.2).bind fun r1=>(evI hi r1.2).bind fun r2=>cond r.1.st ((rsvB r2.2 r.1).bind fun x=>(opt (qQl x.1)).bind fun ds=>.ok (.ow .lst ((cutL ds r1.1 r2.1).map .fz),x.2)) .no
section
variable{X:Cx}{c:Nat->aV}{E:XK}{e:Expr}{lo hi:Option Expr}{pos p2:Pos}{o:Oe}{sl sh:Option SV}
theorem Vw.lst{K:aQ}{F:Hp}{u:V}{x:D}{ds:List D}(s:Same F H)(h:Vw K c F H u x)(e:qQl x=some ds):∃p vs,u=.ref p/\SqL K H p vs/\DsAt K c F vs ds:=by
 unfold qQl at e;split at e
 ·cases e;exact h.un s
 ·cases e
theorem zZe(he:OD X c E e o)(hl:PD X c E lo sl)(hu:PD X c E hi sh):ED X c E (.Subscript e (.Slice lo hi none p2) pos) (eSlL o sl sh):=by
 refine⟨PE.imp (zVd zZx he.h hl.h hu.h) fun σ H Q=>?_⟩;rintro⟨env,B,W,cf,w⟩;refine qVw cf (qX.mp w) fun r w1 u H1 W1 g=>?_
 refine⟨r.2,B,W1,g.cf,wp_mono (fun r2 h2 H2 W2 st2 cf2=>?_) (fun _ _ he=>he.back g.st) (qX.mp w1)⟩;refine⟨r2.2,B,W2,cf2,wp_mono (fun r3 h3 H3 W3 st3 cf3=>?_) (fun _ _ he=>he.back (g.st.trans st2)) (qX.mp h2)⟩;obtain⟨hs,w4⟩:=zE h3;have ha:=(g.at_.step st2.same hs).step st3.same hs;obtain⟨x,env4,W4,st4,cf4,vw,w5⟩:=vWj cf3 ha (qX.mp w4);obtain⟨ds,e1,w6⟩:=qC w5;obtain⟨p,vs,rfl,b1,b2⟩:=vw.lst vK e1;refine⟨p,vs,rfl,b1,fun q hq=>?_⟩;have sm:Same H3 (upd H3 q (.lst (cutV vs r2.1 r3.1))):=.upd hq;exact w6 (.ref q) _ W4 _ ((Got.lay cf4 hq sm (k:=.lst) upd_same ((zK4 b2).same (qX9 cf4 hq sm))).back (((g.st.trans st2).trans st3).trans st4))
end
section
variable{K:aQ}{c:Nat->aV}
noncomputable def lenD:List D->Option D
 |[.nd .lst ds]=>some (.int ds.length)
 |[.nd .tup ds]=>some (.int ds.length)
 |[.nd (.dct ks) _]=>some (.int ks.length)
 |[.str z]=>cond (decide (z.length<=aR)) (some (.int z.length)) none
 |_=>none
noncomputable def rLen(K:aQ):List V->Hp->VK->Prop:=fun xs H Q=>(∃p ys,xs=[.ref p]/\(SqL K H p ys\/SqT K H p ys)/\Q (.int ys.length) H)\/(∃z,xs=[.str z]/\z.length<=aR/\Q (.int z.length) H)\/(∃p ws,xs=[.ref p]/\Rd H p (.dK ws)/\Q (.int (ws.length:Nat)) H)
theorem vY4:yV X (.builtin "len") (fun xs H Q=>∃p ws,xs=[.ref p]/\Rd H p (.dK ws)/\Q (.int (ws.length:Nat)) H):=by
 intro pins s σ H xs us Q I r h;obtain⟨p,ws,rfl,hp,q⟩:=h;obtain⟨u,rfl,ru⟩:=qZw r;cases ru;exact jVf I hp fun t s' I' =>⟨.int ws.length,H,I',⟨_,rfl⟩,q⟩
theorem vY5:yV X (.builtin "len") (rLen X.K):=vQ1.or (vQ0.or vY4)
theorem zYi:PrSN K c (rLen K) lenD:=fun us H xs z Q hv e q=>by
 unfold lenD at e;split at e
 ·cases e;obtain⟨u,rfl,a⟩:=ds1 hv;obtain⟨p,vs,rfl,h1,h2⟩:=a.un;exact .inl ⟨p,vs,rfl,.inl h1,by rw[h2.len];exact q _ fun _=>.int _⟩
 ·cases e;obtain⟨u,rfl,a⟩:=ds1 hv;obtain⟨p,vs,rfl,h1,h2⟩:=a.un;exact .inl ⟨p,vs,rfl,.inr h1,by rw[h2.len];exact q _ fun _=>.int _⟩
 ·cases e;obtain⟨u,rfl,a⟩:=ds1 hv;obtain⟨p,vs,rfl,⟨h1,h2,h3⟩,h4⟩:=a.un;refine .inr (.inr ⟨p,_,rfl,h3,?_⟩);rw[List.length_zip,←h1,Nat.min_self];exact q _ fun _=>.int _
 ·rename_i z';obtain⟨q1,q2⟩:=wD e;cases q2;obtain⟨u,rfl,a⟩:=ds1 hv;cases a;exact .inr (.inl ⟨z',rfl,of_decide_eq_true q1,q _ fun _=>.int _⟩)
 ·cases e
noncomputable def intD:List D->Option D
 |[.int i]=>some (.int i)
 |[.bl k]=>some (.int (if k then 1 else 0))
 |_=>none
theorem zYk:PrSN K c (fun xs H Q=>(∃i,xs=[.int i]/\Q (.int i) H)\/∃k,xs=[.bl k]/\Q (.int (if k then 1 else 0)) H) intD:=fun us H xs z Q hv e q=>by
 unfold intD at e;split at e
 ·cases e;obtain⟨u,rfl,a⟩:=ds1 hv;cases a;exact .inl ⟨_,rfl,q _ fun _=>.int _⟩
 ·cases e;obtain⟨u,rfl,a⟩:=ds1 hv;cases a;exact .inr ⟨_,rfl,q _ fun _=>.int _⟩
 ·cases e
noncomputable def listD:List D->Option (List D)
 |[d]=>qWo d
 |_=>none
theorem vws1{F:Hp}{x:D}(h:Vws K c F H us [x]):∃u,us=[u]/\Vw K c F H u x:=by
 cases us with
 |nil=>exact h.elim
 | cons u us=>
   cases us with
   |nil=>exact⟨u,rfl,h.1⟩
   |cons _ _=>exact h.2.elim
theorem Vw.seq{F:Hp}{u:V}{d:D}{ds:List D}(s:Same F H)(h:Vw K c F H u d)(e:qWo d=some ds):∃p vs,u=.ref p/\(SqL K H p vs\/SqT K H p vs)/\DsAt K c F vs ds:=by
 unfold qWo at e;split at e
 ·cases e;obtain⟨p,vs,a,b,r⟩:=h.un s;exact⟨p,vs,a,.inl b,r⟩
 ·cases e;obtain⟨p,vs,a,b,r⟩:=h.un s;exact⟨p,vs,a,.inr b,r⟩
 ·cases e
theorem vYj{T:Fp}{p:aV}(hn:H p=none)(sm:Same H H'):Same (hide T H) (hide (hd2 T (one p)) H'):=zF fun a o z q=>⟨by
 have np:a≠p:=fun z=>by rw[z,hn]at q;cases q
 have:=yW np;dsimp only[hd2];omega,sm a o q⟩
theorem zJi:PrF K c (fun xs H Q=>∃p ys,xs=[.ref p]/\(SqL K H p ys\/SqT K H p ys)/\∀l,H l=none->Q (.ref l) (upd H l (.lst ys))) listD:=fun us H T xs ds Q hb hv e q=>by
 unfold listD at e;split at e
 ·obtain⟨u,rfl,v⟩:=vws1 hv;obtain⟨p,vs,rfl,h1,h2⟩:=v.seq vK e;exact⟨p,vs,rfl,h1,fun l hl=>q l vs _ hl (.upd hl) upd_same (h2.same (vYj hl (.upd hl)))⟩
 ·cases e
noncomputable def tupleD:List D->Option D
 |[.nd .lst ds]=>some (.tup ds)
 |_=>none
theorem zVa:PrA K c (fun xs H Q=>∃p ys,xs=[.ref p]/\((SqL K H p ys/\∀l,H l=none->Q (.ref l) (upd H l (.tup ys)))\/(SqT K H p ys/\Q (.ref p) H))) tupleD:=fun us H T xs z Q hb hv e q=>by
 unfold tupleD at e;split at e
 ·cases e;obtain⟨u,rfl,v⟩:=vws1 hv;obtain⟨p,vs,rfl,h1,h2⟩:=v.un vK;refine⟨p,vs,rfl,.inl ⟨h1,fun l hl=>?_⟩⟩;have sm:Same H (upd H l (.tup vs)):=.upd hl;have hp:T l=0:=by
   grind
  exact q _ _ sm (.of (k:=.tup) (SqT.of (by rw[v4 hp,upd_same])) (h2.same (zF fun a o z y=>⟨z,sm a o y⟩)))
 ·cases e
end
noncomputable def jQg(K:aQ):R2:=fun x y H Q=>∃l b xs zs,x=.ref l/\y=.ref b/\SqL K H l xs/\SqL K H b zs/\xs.length+zs.length<=aR/\∀p,H p=none->Q (.ref p) (upd H p (.lst (xs ++ zs)))
theorem zJ0:OpR X (binaryOp .Add) (jQg X.K):=by
 intro pins s σ H x y v u Q I rx ry h;obtain⟨l,b,xs,zs,rfl,rfl,hH,hB,hz,q⟩:=h;cases rx;cases ry;obtain⟨its,r,pl,_⟩:=I.list hH;obtain⟨its2,r2,pl2,_⟩:=I.list hB;obtain⟨⟨cls,dd,data,sl⟩,n,ho,hc,_,hd⟩:=pl;obtain⟨⟨cls2,dd2,data2,sl2⟩,n2,ho2,hc2,_,hd2⟩:=pl2;subst hc hd hc2 hd2;have hl:=r.length;have hl2:=r2.length;refine concat_meets ⟨_,ho,rfl⟩ ⟨_,ho2,rfl⟩ noFill_list_add seq_list_add PySem.F.slot_list_add PySem.F.entry_list_add (PySem.F.args_list_add_2 _ _) (list_addW l b its.toArray its2.toArray n n2 dd dd2 sl sl2 (by simp only[aF];omega)) ⟨ho,ho2,?_⟩;have ea:its.toArray ++ its2.toArray=(its ++ its2).toArray :=by simp
 rw[ea];exact⟨.ref _,_,I.lnew (t' :=s.toks) (r.append r2) (by rw[aB];omega),rfl,q _ I.fresh⟩
noncomputable def eCat(a b:Oe):SE:=fun env=>(evO a env).bind fun r1=>(evO b r1.2).bind fun r2=>cond (r1.1.st || b.isP) ((qQ2 [r1.1,r2.1] r2.2).bind fun q=>match q.1 with
 |[x,y]=>(opt (qQl x)).bind fun ds=>(opt (qQl y)).bind fun es=>cond (decide (ds.length+es.length<=lim)) (.ok (.ow .lst ((ds ++ es).map .fz),q.2)) .no
 |_=>.no) .no
theorem zQh{a b:Expr}{pos:Pos}{oa ob:Oe}(ha:OD X c E a oa)(hb:OD X c E b ob):ED X c E (.BinOp a .Add b pos) (eCat oa ob):=by
 refine⟨PE.imp (zXa zJ0 ha.h hb.h) fun σ H Q=>?_⟩;rintro⟨env,B,W,cf,w⟩;refine qVw cf (qX.mp w) fun r1 w1 u H1 W1 g1=>?_
 refine qVw g1.cf (wp_mono (fun _ q=>q) (fun C fs he=>he.back g1.st) (qX.mp w1)) fun r2 w2 v H2 W2 g2=>?_
 obtain⟨hs,w3⟩:=zE w2;obtain⟨xs,env4,W4,st4,cf4,vw,w4⟩:=rsvBs_wp (hs:=[r1.1,r2.1]) (us:=[u,v]) g2.cf ⟨g1.next g2 hs,g2.at_,trivial⟩ (qX.mp w3);obtain⟨x,xs,rfl⟩:∃x r,xs=x::r:=by cases xs with
  |nil=>exact vw.elim
  |cons x r=>grind
 obtain⟨y,rfl,v2⟩:∃y,xs=[y]/\Vw X.K c (hide (hd2 B W4) H2) H2 v y:=by
  cases xs with
  |nil=>exact vw.2.elim
  | cons y r=>cases r with
    |nil=>exact⟨y,rfl,vw.2.1⟩
    |cons _ _=>exact vw.2.2.elim
 obtain⟨ds,e1,w5⟩:=qC w4;obtain⟨es,e2,w6⟩:=qC w5;obtain⟨hl,w7⟩:=zE w6;obtain⟨p,vs,rfl,b1,b2⟩:=vw.1.lst vK e1;obtain⟨q,ws,rfl,d1,d2⟩:=v2.lst vK e2;refine⟨p,q,vs,ws,rfl,rfl,b1,d1,by have:=qXu (of_decide_eq_true hl);rw[b2.len,d2.len];omega,fun l hq=>?_⟩;have sm:Same H2 (upd H2 l (.lst (vs ++ ws))):=.upd hq;exact w7 (.ref l) _ W4 _ ((Got.lay cf4 hq sm (k:=.lst) upd_same ((b2.append d2).same (qX9 cf4 hq sm))).back ((g1.st.trans g2.st).trans st4))
section
variable{X:Cx}{c:Nat->aV}{E:XK}{e e2:Expr}{pos p:Pos}{o oa:Oe}
theorem qVy(hg:Gl X "len")(hm:X.mg "len"=none)(ha:OD X c E e o)(he:aX [e] X.env=[(false,eval e X.env)]:=by rfl)(h0:aX [] X.env=[]:=by rfl):OD X c E (.Call (.Name "len" p) [e] [] pos) (oL lenD [o]):=
 zVn vY5 zYi hg hm Boot.«len» (jQ ha qN (by rw[he,h0])) (by decide) (by decide) (by rw[he,h0]) (by rw[h0];rfl)
theorem jQz(hg:Gl X "int")(hm:X.mg "int"=none)(ha:OD X c E e o)(he:aX [e] X.env=[(false,eval e X.env)]:=by rfl)(h0:aX [] X.env=[]:=by rfl):OD X c E (.Call (.Name "int" p) [e] [] pos) (oL intD [o]):=
 vYg vY6 zYk hg hm Boot.«int» (jQ ha qN (by rw[he,h0])) (by decide) (by decide) (by rw[he,h0]) (by rw[h0];rfl)
theorem zZp(hg:Gl X "tuple")(hm:X.mg "tuple"=none)(ha:OD X c E e o)(he:aX [e] X.env=[(false,eval e X.env)]:=by rfl)(h0:aX [] X.env=[]:=by rfl):EV X c E (.Call (.Name "tuple" p) [e] [] pos) (svA tupleD [o]):=
 vYv qY1 zVa hg hm Boot.«tuple» (jQ ha qN (by rw[he,h0])) (by decide) (by decide) (by rw[he,h0]) (by rw[h0];rfl)
theorem qXv(hg:Gl X "list")(hm:X.mg "list"=none)(ha:OD X c E e o)(he:aX [e] X.env=[(false,eval e X.env)]:=by rfl)(h0:aX [] X.env=[]:=by rfl):ED X c E (.Call (.Name "list" p) [e] [] pos) (eF listD [o]):=
 vYx vQz zJi hg hm Boot.«list» (jQ ha qN (by rw[he,h0])) (by decide) (by decide) (by rw[he,h0]) (by rw[h0];rfl)
end
structure MethAt(K:aQ)(x qual:Str)(st:Stmt)(ps:List Str)(f:aV)(fd:bQ):Prop where
 F:Fun K x qual st f fd
 b:wI K fd ps []
noncomputable def pOf:Oe->SP
 |.p s=>s
 |.v _=>fun _=>none
theorem fnNo{K:aQ}{base:Heap}{k:Nat}{f:aV}:FnOk P w K mg base CX k f fd ps (spD K c n fun _=>.no):=
 ⟨fun vs H Q E z=>(by obtain⟨_,_,_,_,_,z⟩:=z;exact z.elim),fun _ _ _ _ _ _ _ _ _ _ _ _ _ z=>(by obtain⟨_,_,_,_,_,z⟩:=z;exact z.elim)⟩
theorem FnOk.lv{K:aQ}{base:Heap}{k:Nat}{f:aV}{sp:Sp}(e:j=k)(h:FnOk P w K mg base CX j f fd ps sp):FnOk P w K mg base CX k f fd ps sp:=by grind
section
variable{X:Cx}{c:Nat->aV}{E:XK}{o k e:Expr}{pos pos' apos cpos:Pos}{oo ok:Oe}{a:SE}{cs:List Nat}{f:Str}
theorem qWq(h:OD X c E e oo)(hp:oo.isP=true:=by rfl):OD X c E e (Am.b (pOf oo)).o :=by
 cases oo with
 |p s=>exact h
 |v s=>cases hp
theorem wR(ho:OD X c E o oo)(ha:ED X c E e a)(hp:oo.isP=true:=by rfl)(hbase:attributeBase o "append" X.env (eval o X.env)=eval o X.env:=by rfl)(hfew:((bI cpos (aX [e] X.env)).all (fun x=>!x.1) && (backToKw cpos (keywordEach [] X.env)).all (fun x=>x.1.isSome) && decide (([e]:List Expr).length+([]:List Keyword).length+(if([]:List Keyword).isEmpty then 0 else 1)<30))=true:=by rfl)(hline:(apos.endLine == cpos.line)=true:=by rfl)(hs:aX [e] X.env=(false,eval e X.env)::aX [] X.env:=by rfl)(hplain:(bI cpos (aX [] X.env)).any (·.1)=false:=by rfl):
  ED X c E (.Call (.Attribute o "append" apos) [e] [] cpos) (eMu1 (pOf oo) a apF):=by
 cases oo with
 |p s=>exact vYy ho ha hbase hfew hline hs hplain
 |v s=>cases hp
theorem zZk(ho:OD X c E o oo)(ha:ED X c E e a)(hp:oo.isP=true:=by rfl)(hbase:attributeBase o "extend" X.env (eval o X.env)=eval o X.env:=by rfl)(hfew:((bI cpos (aX [e] X.env)).all (fun x=>!x.1) && (backToKw cpos (keywordEach [] X.env)).all (fun x=>x.1.isSome) && decide (([e]:List Expr).length+([]:List Keyword).length+(if([]:List Keyword).isEmpty then 0 else 1)<30))=true:=by rfl)(hline:(apos.endLine == cpos.line)=true:=by rfl)(hs:aX [e] X.env=(false,eval e X.env)::aX [] X.env:=by rfl)(hplain:(bI cpos (aX [] X.env)).any (·.1)=false:=by rfl):
  ED X c E (.Call (.Attribute o "extend" apos) [e] [] cpos) (eMu1 (pOf oo) a exF):=by
 cases oo with
 |p s=>exact vYw ho ha hbase hfew hline hs hplain
 |v s=>cases hp
theorem jVe(ho:OD X c E o oo)(hp:oo.isP=true:=by rfl)(hbase:attributeBase o "pop" X.env (eval o X.env)=eval o X.env:=by rfl)(hline:(apos.endLine == cpos.line)=true:=by rfl):ED X c E (.Call (.Attribute o "pop" apos) [] [] cpos) (ePop (pOf oo)):=by
 cases oo with
 |p s=>exact zK0 ho hbase hline
 |v s=>cases hp
theorem zX5(hu:X.A.units+1<dF)(ho:OD X c E o oo)(hk:OD X c E k ok)(hv:ED X c E e a)(hp:(oo.isP && ok.isP)=true:=by rfl)(hs:swapsWith e (some (.Subscript o k pos')) pos.line X.env=pure false:=by rfl):
  SD X c E (.Assign [.Subscript o k pos'] e pos) (qY4 (pOf oo) (pOf ok) a):=by
 cases oo with
 |v s=>cases hp
 | p s=>cases ok with
   |v s=>cases hp
   |p t=>exact zZ3 hu ho hk hv hs
theorem zX4(ho:OD X c E o oo)(hk:OD X c E k ok)(hv:ED X c E e a)(hp:(oo.isP && ok.isP)=true:=by rfl)(hs:swapsWithSole [.Subscript o k pos'] e pos.line X.env=pure false:=by rfl)(hw:swappedStores [.Subscript o k pos'] e X.env=pure none:=by rfl)(h1:(assignEach [.Subscript o k pos'] X.env).map (·.2)=[assign (.Subscript o k pos') X.env]:=by rfl)(ha:∀v,assign (.Subscript o k pos') X.env v=(do
   let ov ←holding [v] (eval o X.env);let iv ←holding [v,ov] (eval k X.env);standAt pos';holding [v,ov,iv] (setItem ov iv v);release [v,ov,iv] []):=by intro _;rfl):SD X c E (.Assign [.Subscript o k pos'] e pos) (sSetI (pOf oo) (pOf ok) a):=by
 cases oo with
 |v s=>cases hp
 | p s=>cases ok with
   |v s=>cases hp
   |p t=>exact zZ1 ho hk hv hs hw h1 ha
theorem qVd(okF:yQ X.K c cs f)(ho:OD X c E o oo)(hv:ED X c E e a)(hp:oo.isP=true:=by rfl)(hs:swapsWith e (some (.Attribute o f pos')) pos.line X.env=pure false:=by rfl):SD X c E (.Assign [.Attribute o f pos'] e pos) (qQ1 cs f (pOf oo) a):=by
 cases oo with
 |v s=>cases hp
 |p s=>exact zZ2 okF ho hv hs
theorem vKy{rd:TIp}{g:D->D->Option D}{t:SV}(okF:yQ X.K c cs f)(ho:OD X c E o oo)(hv:EV X c E e t)(hop:PIp X op rd)(hpr:PrS2 X.K c rd g)(hp:oo.isP=true:=by rfl):SD X c E (.AugAssign (.Attribute o f pos') op e pos) (vQ2 cs f g (pOf oo) t):=by
 cases oo with
 |v s=>cases hp
 |p s=>exact zZ4 okF ho hv hop hpr
end
section
variable{X:Cx}{c:Nat->aV}{E:XK}{k:Nat}{f:aV}{fd:bQ}{ps:List Str}{x m:Str}{p pos apos:Pos}{e o:Expr}{es:List Expr}{F F2:Fn}{a0:Am}{as:List Am}{C C2:Nat}
theorem zV0{K:aQ}{h:Hn}{u:V}(cf:Cf K c env σ H B W)(hu:HnAt K c (hide (hd2 B W) H) σ H u h)(ho:qJh env h C m=true):∃a dx fs,u=.ref a/\H a=some (.ins (c C) dx fs)/\fs.lookup m=none:=by
 unfold qJh at ho;split at ho
 ·rename_i C' fs ds e;rw[aP,Bool.not_eq_true']at ho;obtain⟨p,vs,rfl,⟨h1,dx,h2⟩,h3⟩:=(xZ cf hu e).un;have:C' =C:=by simpa using ho.1
  subst this;exact⟨p,dx,_,rfl,h2,qWi ho.2⟩
 ·cases ho
end
noncomputable def qJ4(C:Nat)(s:SV):SS:=fun env=>(s env).bind fun _=>.er C []
theorem qX0{x:Str}{s:SV}{pos:Pos}(ce:ExcCls X.K X.mg x (c C))(hg:Gl X x)(hcalm:X.calm=true)(he:EV X c E e s)(ht:vZy X (c C) (fun H1=>E (.ref (c C)) none H1))(hs:aX [e] X.env=[(false,eval e X.env)]:=by rfl)(hdb:(x == ("__debug__":Str))=false:=by decide):SD X c E (.Raise (some (.Call (.Name x np) [e] [] cpos)) none pos) (qJ4 C s):=by
 refine⟨PS.imp (zQ9 ce hg hcalm he.h ht hs hdb) fun D σ H=>?_⟩;rintro⟨env,B,W,cf,w⟩;refine⟨env,B,W,cf,wp_mono (fun r w1 u H1 W1 g=>⟨rfl,?_⟩) (fun _ _ he=>he) (qX.mp w)⟩;exact w1 H1 W1 none ⟨g.st.same,g.st.by_,g.st.dom⟩ rfl
noncomputable def rvL:List D->Option (List D)
 |[x]=>(qQl x).bind fun ds=>some ds.reverse
 |_=>none
theorem zKq{p pos:Pos}(hg:Gl X "reversed")(hm:X.mg "reversed"=none)(ha:VsD X c E [e] ss)(hs:aX [e] X.env=[(false,eval e X.env)]:=by rfl)(hs2:aX [] X.env=[]:=by rfl):ID' X c E tg (.Call (.Name "reversed" p) [e] [] pos) (iL rvL ss):=by
 refine⟨PI.imp (zYm hg hm ha.h hs hs2) fun σ H R=>?_⟩;rintro⟨env,B,W,cf,w⟩;refine qZ4 cf (qX.mp w) fun r w1 us H1 W1 g=>?_
 obtain⟨ds,e1,w2⟩:=qC w1;have ga:=g.at_;unfold rvL at e1;split at e1
 ·rename_i x e2;rw[e2]at ga;obtain⟨u,rfl,a⟩:=ds1 ga;obtain⟨xs,q1,e3⟩:=bnd e1;cases e3;obtain⟨q,vs,rfl,c1,c2⟩:=qX8 a q1;exact⟨q,vs,rfl,j6 vK c1,w2 _ H1 W1 g.st g.cf (zWb c1 c2)⟩
 ·cases e1
noncomputable def dctD:D->Option (List Key×List D)
 |.nd (.dct ks) ds=>some (ks,ds)
 |_=>none
noncomputable def vJ2(env:Ev)(k:Key):Hn->Option (Option D)
 | .d x=>(dctD x).bind fun q=>match kidx k q.1 with
   |some j=>(q.2[j]?).bind fun d=>some (some d)
   |none=>some none
 | .p i π=>(qXr env i π).bind fun q=>match kidx k q.1 with
   | some j=>match q.2[j]? with
     |some (.fz d)=>some (some d)
     |_=>none
   |none=>some none
theorem zV3{K:aQ}{h:Hn}{u:V}{k:Key}{r:Option D}(cf:Cf K c env σ H B W)(hu:HnAt K c (hide (hd2 B W) H) σ H u h)(e:vJ2 env k h=some r):
  ∃a ov,u=.ref a/\IsD H a/\DGet H a (kV k) ov/\match r with
   |some d=>∃v,ov=some v/\DAt K c (hide (hd2 B W) H) v d
   |none=>ov=none:=by
 cases h with
 | d x=>
   obtain⟨q,e1,e2⟩:=bnd e;unfold dctD at e1;split at e1
   ·cases e1;rename_i ks ds;obtain⟨p,vs,rfl,⟨h1,h2,h3⟩,h4⟩:=DAt.un hu;have h3' :=vWl vK h3;refine⟨p,_,rfl,.inl ⟨_,h3'⟩,vZv h3',?_⟩;rw[qV3 h1];dsimp only at e2;cases e5:kidx k ks with
    |none=>rw[e5]at e2;cases e2;rfl
    | some j=>
      rw[e5]at e2;obtain⟨d,e6,e7⟩:=bnd e2;cases e7;exact h4.get e6
   ·cases e1
 | p i π=>
   have hu' :vE H σ i π=some u:=hu;obtain⟨q,e1,e2⟩:=bnd e;obtain⟨v1,Z1,R,w1,w2,w3,w4⟩:=cf.place (qKt e1);rw[hu']at w1;cases w1;rw[OAt.ow]at w2;obtain⟨p,vs,Z',rfl,⟨b1,b2,b3⟩,cc,d⟩:=w2;refine⟨p,_,rfl,.inl ⟨_,.inl b3⟩,DGet.k b3,?_⟩;rw[qV3 b1];cases e5:kidx k q.1 with
   |none=>rw[e5]at e2;cases e2;rfl
   | some j=>
     rw[e5]at e2;dsimp only at e2;split at e2
     ·rename_i d e6;cases e2;obtain⟨v,Y1,R1,g1,g2,_⟩:=cc.focus e6;rw[OAt.fz]at g2;exact⟨v,g1,g2.1⟩
     ·cases e2
noncomputable def qK4(s k:SP):SV:=fun env=>(opt (s env)).bind fun h=>(opt (k env)).bind fun hk=>(opt (rsv env hk)).bind fun y=>(opt (qWu y)).bind fun key=>(opt (vJ2 env key h)).bind fun r=>.ok (r.getD .non,env)
section
variable{X:Cx}{c:Nat->aV}{E:XK}{o k e:Expr}{apos cpos:Pos}{oo ok oe:Oe}
theorem zWs(hu:X.A.units+1<dF)(ho:OD X c E o oo)(hk:OD X c E k ok)(m:M1 X o "get" apos k cpos)(hp:(oo.isP && ok.isP)=true:=by rfl):EV X c E (.Call (.Attribute o "get" apos) [k] [] cpos) (qK4 (pOf oo) (pOf ok)):=by
 cases oo with
 |v s=>cases hp
 | p s=>cases ok with
   |v s=>cases hp
   | p t=>
     refine⟨PE.imp (zVh hu ho.h hk.h m) fun σ H Q=>?_⟩;rintro⟨env,B,W,cf,w⟩;obtain⟨h,e1,w2⟩:=qC w;obtain⟨hk1,e2,w3⟩:=qC w2;obtain⟨y,e3,w4⟩:=qC w3;obtain⟨key,e4,w5⟩:=qC w4;obtain⟨r,e5,w6⟩:=qC w5;refine⟨env,B,W,h,cf,e1,fun x hx=>?_⟩;obtain⟨a,ov,rfl,g1,g2,g3⟩:=zV3 cf hx e5;refine⟨a,rfl,g1,env,B,W,hk1,cf,e2,fun yv hy=>?_⟩;rw[qJu (xZ cf hy e3) e4];refine⟨ov,g2,?_⟩;cases r with
     |none=>rw[g3];exact w6 .non H W ⟨.refl,cf,.non⟩
     |some d=>obtain⟨v,rfl,hd⟩:=g3;exact w6 v H W ⟨.refl,cf,hd⟩
end
noncomputable def sbH(i j:Nat)(d:D):Hn->Hn
 |.p i' [j']=>if i' =i/\j' =j then .d d else .p i' [j']
 |h=>h
noncomputable def isFz:Option O->Bool
 |some (.fz _)=>true
 |_=>false
noncomputable def qXn(F:Fn)(as:List Am)(hs:List Hn)(env:Ev)(i j:Nat):Res (O×Ev):=(opt (getE env i [j])).bind fun o=>(wN F as (hs.map (sbH i j (fzO o))) (setE env i [j] (.fz (fzO o)))).bind fun q=>
 cond (stab env q.2 i [j] && ndO q.1 && (setE q.2 i [j] o).all ndS && isFz (getE q.2 i [j]) && dcFz o) (.ok (q.1,setE q.2 i [j] o)) .no
noncomputable def vJz:List Hn->Option (Nat×Nat)
 |[]=>none
 |[.p i [j]]=>some (i,j)
 |_::hs=>vJz hs
section
variable{K:aQ}{c:Nat->aV}{E:XK}
theorem SlAt.place{F:Hp}{o1:O}(h:SlAt K c F H env σ W)(e:getE env i π=some o1):∃(v1:V) (Z1 R:Fp),vE H σ i π=some v1/\OAt K c F H o1 v1 Z1/\(∀a,W a=Z1 a+R a)/\
  ∀(o1' :O) (Z1' Y:Fp),OAt K c F H o1' v1 Z1' ->(∀a,Y a=Z1' a+R a)->SlAt K c F H (setE env i π o1') σ Y:=by
 unfold getE at e;split at e
 ·rename_i io o e0;obtain⟨x,Z0,R0,h1,h2,h3,h4⟩:=h.focus e0;cases x with
  |none=>exact h2.elim
  | some v=>
    obtain⟨v1,Z1,R1,g1,g2,g3,g4⟩:=OAt.focus h2 e;refine⟨v1,Z1,fun a=>R1 a+R0 a,by unfold vE;rw[h1];exact g1,g2,fun a=>by rw[h3,g3];(try dsimp only);omega,fun o1' Z1' Y q hY=>?_⟩;have q2:=g4 _ H o1' Z1' (Same.refl _) (fun _ _=>rfl) q;have q3:=h4 F H (.s io (setP o π o1')) (some v) _ Y (Same.refl _) (fun _ _=>rfl) q2 (fun a=>by rw[hY];(try dsimp only);omega);rw[yD h1]at q3;unfold setE;rw[e0];exact q3
 ·cases e
theorem jL.sb{F:Hp}{d:D}(sm:Same F F')(hd:∀u,vE H σ i [j]=some u->DAt K c F' u d):∀{us:List V} {hs:List Hn},jL K c F σ H us hs->jL K c F' σ H us (hs.map (sbH i j d))
 |[],[],_=>trivial
 | u::us,h::hs,a=>by
   refine⟨?_,jL.sb sm hd a.2⟩;have a1:=a.1;cases h with
   |d x=>exact DAt.same sm a1
   | p i' π=>
     cases π with
     |nil=>exact a1
     | cons j' π=>
       cases π with
       |cons _ _=>exact a1
       | nil=>
         simp only[sbH];split
         ·rename_i e;obtain⟨rfl,rfl⟩:=e;exact hd u a1
         ·exact a1
 |[],_::_,a=>a.elim
 |_::_,[],a=>a.elim
theorem vY3{hs:List Hn}{F:Fn}(cf:Cf K c env σ H B W)(hh:jL K c (hide (hd2 B W) H) σ H us hs)(hw:(qXn F as hs env i j).wp (fun r=>∀u H' W' Z,Got K c env σ H B W r.2 H' W' Z r.1 u->Q u H') (erP K c E H B W)):spD K c as.length F us H Q E:=by
 obtain⟨o,e1,w1⟩:=qC hw;obtain⟨v1,Z1,R,h1,h2,h3,h4⟩:=cf.place e1;have nd:∀a,B a+(Z1 a+R a)<=1:=fun a=>by have:=cf.nd a;rw[h3]at this;exact this
 have sm:Same (hide (hd2 B W) H) (hide (hd2 B R) H):=jV fun a z=>by dsimp only[hd2]at *;rw[h3]at z;omega
 have hd:DAt K c (hide (hd2 B R) H) v1 (fzO o):=h2.dat sm fun a z=>v4 (by have:=nd a;dsimp only[hd2];omega)
 have cf2:Cf K c (setE env i [j] (.fz (fzO o))) σ H B R:=h4 H B R _ (fun _=>0) sm (fun a=>by(try dsimp only);omega) (fun _ _=>rfl) (OAt.fz.mpr ⟨hd,fun _=>rfl⟩) (fun a=>by have:=nd a;omega) cf.hb;have st2:Step env σ H B W (setE env i [j] (.fz (fzO o))) σ H R:=⟨sm,fun _ _=>rfl,fun a z=>.inl (by rw[h3];omega),fun _ z=>z,fun _ _ _=>.refl,fun j o q=>⟨qZq q,rfl⟩,qQ5⟩
 refine qQ8 cf2 (jL.sb sm (fun u hu=>by rw[h1]at hu;cases hu;exact hd) hh) (wp_mono (fun q w2 u H3 W3 Z g=>?_) (fun _ _ he=>he.back st2) (qX.mp w1));obtain⟨hc,w3⟩:=zE w2;rw[aP,aP,aP,aP]at hc;obtain⟨⟨⟨⟨c1,c2⟩,c3⟩,c4⟩,c5⟩:=hc;have st3:=st2.trans g.st;have hw3:vE H3 σ i [j]=some v1:=qWc cf st3 g.cf (fun a z=>by dsimp only[hd2];omega) c1 h1;have lz:∀a,Z1 a≠0->H3 a=H a/\B a+Z a+W3 a=0:=fun a z=>by
  obtain⟨ho,q1,_⟩:=OAt.hb h2 z;have q2:=g.st.same a ho (by rw[v4 (by have:=nd a;dsimp only[hd2];omega)];exact q1);obtain⟨q3,q4⟩:=wC q2;grind
 have flatk:∀a ho,hide (hd2 (hd2 B Z) W3) H3 a=some ho->¬isDK ho->hide (hd2 (hd2 B Z) (fun a=>W3 a+Z1 a)) H3 a=some ho:=fun a ho q1 q2=>by
  obtain⟨q3,q4⟩:=wC q1;by_cases z:Z1 a=0
  ·rw[v4 (by dsimp only[hd2]at *;omega)];exact q4
  ·obtain⟨ho',q5,q6⟩:=vXj h2 c5 a z;grind
 obtain⟨d',ed⟩:∃d',getE q.2 i [j]=some (.fz d'):=by
  unfold isFz at c4;grind
 obtain⟨v1',Y1,Y,k1,k2,k3,k4⟩:=g.cf.at_.place ed;rw[hw3]at k1;cases k1;have smF:Same (hide (hd2 B W) H) (hide (hd2 (hd2 B Z) (fun a=>W3 a+Z1 a)) H3):=zF fun a ho z q1=>by
  obtain⟨q3,q4⟩:=wC (g.st.same a ho (sm a ho (by rw[v4 z];exact q1)));grind
 have smF3:Same (hide (hd2 B W) H) (hide (hd2 (hd2 B Z) W3) H3):=smF.trans (jV fun a z=>by dsimp only[hd2]at *;omega);have sl4:=k4 o Z1 (fun a=>W3 a+Z1 a) (h2.keep smF3 fun a z=>(lz a z).1) fun a=>by have:=k3 a;have:=k2.2 a;omega
 have sl5:=sl4.nd' flatk c3;refine w3 u H3 (fun a=>W3 a+Z1 a) Z ⟨⟨?_,fun a z=>st3.by_ a z,fun a z=>?_,st3.dom,fun a z1 z2=>?_,fun k oo q=>?_,by rw[qQ5];exact st3.len⟩,⟨sl5,fun a=>?_,fun a z=>g.cf.hb a z⟩,g.at_.nd' flatk c2⟩
 ·grind
 ·by_cases y:Z1 a=0
  ·exact st3.new a (by dsimp only[hd2]at *;omega)
  ·grind
 ·by_cases y:Z1 a=0
  ·exact st3.pin a z1 (by dsimp only[hd2]at *;omega)
  ·exact .of (lz a y).1
 ·obtain⟨o0,q1⟩:=qZq q;exact⟨(st3.io k o0 q1).1,rfl⟩
 ·have n1:=g.cf.nd a;grind
noncomputable def qJg(C:Nat)(m:Str)(F:Fn)(a0:Am)(as:List Am):SE:=fun env=>(evO a0.o env).bind fun r0=>cond (qJh r0.2 r0.1 C m && (r0.1.st || (as.map Am.o).all Oe.isP)) ((evOs (as.map Am.o) r0.2).bind fun r=>(opt (vJz r.1)).bind fun ij=>qXn F (a0::as) (r0.1::r.1) r.2 ij.1 ij.2) .no
theorem vXu{F:Fn}(h:tE K c E (qJg C m F a0 as) σ H Q):vJv (c C) m (spD K c (a0::as).length F) [] E (tO K c E a0.o) (tOs K c E (as.map Am.o)) σ H Q:=by
 obtain⟨env,B,W,cf,w⟩:=h;refine qVw cf (qX.mp w) fun r0 w1 u H1 W1 g1=>?_
 obtain⟨hs,w2⟩:=zE w1;rw[aP]at hs;obtain⟨ho,hst⟩:=hs;obtain⟨a,dx,fs,rfl,h2,h3⟩:=zV0 g1.cf g1.at_ ho;refine⟨a,dx,fs,rfl,h2,h3,?_⟩;refine qVb g1.cf (wp_mono (fun _ q=>q) (fun _ _ he=>he.back g1.st) (qX.mp w2)) fun r w3 us H2 W2 g2=>?_
 obtain⟨ij,_,w4⟩:=qC w3;rw[bG];have hh:jL K c (hide (hd2 B W2) H2) σ H2 (.ref a::us) (r0.1::r.1):=by
  refine⟨?_,g2.at_⟩;cases e:r0.1.st with
  |true=>exact g1.at_.step g2.st.same e
  | false=>
    rw[e]at hst;obtain⟨e1,e2,_⟩:=g2.pu (by simpa using hst);rw[e1,e2];exact g1.at_
 exact vY3 g2.cf hh (wp_mono (fun r q v H' W' Z g=>q v H' W' Z (g.back (g1.st.trans g2.st))) (fun _ _ he=>he.back (g1.st.trans g2.st)) w4)
end
theorem qYd{k:Nat}{f:aV}{pos apos:Pos}{o:Expr}{es:List Expr}{F:Fn}(ho:OD X c E o a0.o)(hc:Cls X.K (c C))(hm:Meth X.K (c C) m f)(G:FnOk X.prog X.w X.K X.mg X.base (CXd X.prog X.w) k f fd ps (spD X.K c (a0::as).length F))(hr:Room k X.A)(hb:wI X.K fd ps [])(hx:jM (CXd X.prog X.w) X E)(ha:OsD X c E (e::es) (as.map Am.o))(hst:aX (e::es) X.env=(false,eval e X.env)::aX es X.env:=by rfl)(hpl:(bI pos (aX es X.env)).any (·.1)=false:=by rfl)(ht:eval (.Call (.Attribute o m apos) (e::es) [] pos) X.env=(do
   let ov ←eval o X.env;standAt apos.atName;let (f,first) ←holding [ov] (getMethod ov m pl);callWith pos f first (bI pos (aX (e::es) X.env)) (backToKw pos (keywordEach [] X.env))):=by rfl):
  ED X c E (.Call (.Attribute o m apos) (e::es) [] pos) (qJg C m F a0 as):=
 ⟨PE.imp (vWp ho.h hc hm G hr hb .nil hx ha.h hst hpl ht) fun _ _ _ h=>vXu h⟩
noncomputable def zpA(xs:List D):Option (List D):=match zpL xs with
 |some r=>some r
 | none=>match zpT xs with
   |some r=>some r
   |none=>zpM xs
noncomputable def sPutA(s k:SP)(a:SE):SS:=fun env=>match qY4 s k a env with
 |.no =>sSetI s k a env
 |r=>r
theorem qJ3{o k:Expr}{pos pos' :Pos}{oo ok:Oe}{a:SE}(hu:X.A.units+1<dF)(ho:OD X c E o oo)(hk:OD X c E k ok)(hv:ED X c E e a)(hp:(oo.isP && ok.isP)=true:=by rfl)(hs:swapsWith e (some (.Subscript o k pos')) pos.line X.env=pure false:=by rfl)(hs2:swapsWithSole [.Subscript o k pos'] e pos.line X.env=pure false:=by rfl)(hw:swappedStores [.Subscript o k pos'] e X.env=pure none:=by rfl)(h1:(assignEach [.Subscript o k pos'] X.env).map (·.2)=[assign (.Subscript o k pos') X.env]:=by rfl)(ha:∀v,assign (.Subscript o k pos') X.env v=(do
   let ov ←holding [v] (eval o X.env);let iv ←holding [v,ov] (eval k X.env);standAt pos';holding [v,ov,iv] (setItem ov iv v);release [v,ov,iv] []):=by intro _;rfl):SD X c E (.Assign [.Subscript o k pos'] e pos) (sPutA (pOf oo) (pOf ok) a):=by
 refine⟨fun pins s σ H D I q=>?_⟩;obtain⟨env,B,W,cf,w⟩:=q;unfold sPutA at w;split at w
 ·exact(zX4 ho hk hv hp hs2 hw h1 ha).h pins s σ H D I ⟨env,B,W,cf,w⟩
 ·exact(zX5 hu ho hk hv hp hs).h pins s σ H D I ⟨env,B,W,cf,w⟩
noncomputable def vJw(C:aV)(f:Str):Sp:=fun vs H Q _=>∃ea t v,vs=[.ref ea,v]/\H ea=some (.ext (ExcR ea (.ref C) t none))/\∀dx,H dx=none->Q .non (upd (upd H ea (.ext (ExcR ea (.ref C) t (some dx)))) dx (.xd [(f,v)]))
theorem iniD{K:aQ}{base:Heap}{x:Str}{st:Stmt}{fI C:aV}{a b f:Str}{s0:Stmt}(F:Fun K x qual st fI fd)(S:FnScope [a,b] [a,b] (qP st))(hn:bF K (.ref C) f=some none)(hb:∀(cdv:Value) (A:bS) (outer:List Env) (s:aJ) (H:Hp) (E:XK),PS (cxOf (CXd P w) P w K mg base [a,b] qual (qP st) fI cdv A outer s H E) s0 (sXF K C (tVar 0) (tVar 1) f))(hst:jW st=[s0]):
  FnOk P w K mg base (CXd P w) 1 fI fd [a,b] (vJw C f):=by
 refine F.okD S (fun vs H Q E h=>?_) (fun cdv Ar outer s H vs Q E hr h=>?_)
 ·obtain⟨ea,t,v,rfl,_⟩:=h;rfl
 ·obtain⟨ea,t,v,rfl,he,q⟩:=h;refine⟨_,by rw[hst];exact vVp (hb cdv Ar outer s H E) vWo,?_⟩;exact⟨v,rfl,.ref ea,rfl,ea,t,rfl,he,hn,fun dx hd=>q dx hd⟩
noncomputable def yK(C:Nat)(f:Str)(s:SV):SS:=fun env=>(s env).bind fun r=>.er C [(f,r.1)]
theorem vXy{x f:Str}{fI:aV}{k:Nat}{s:SV}{pos:Pos}(ce:IniCls X.K (c C) fI)(F:FnOk X.prog X.w X.K X.mg X.base (CXd X.prog X.w) k fI fd ps (vJw (c C) f))(hr:Room (k+1) X.A)(hb:wI X.K fd ps [])(hg:Gl X x)(hm:X.mg x=some (.ref (c C)))(hcalm:X.calm=true)(hex:X.ex=[])(he:EV X c E e s)(ht:qXl X (c C) (fun ea dx H1=>E (.ref (c C)) (some dx) (but1 H1 ea)))(hs:aX [e] X.env=[(false,eval e X.env)]:=by rfl)(hdb:(x == ("__debug__":Str))=false:=by decide):SD X c E (.Raise (some (.Call (.Name x np) [e] [] cpos)) none pos) (yK C f s):=by
 refine⟨PS.imp (vX1 ce F hr hb hg hm hcalm hex he.h ht hs hdb) fun D σ H=>?_⟩;rintro⟨env,B,W,cf,w⟩;refine⟨env,B,W,cf,wp_mono (fun r w1 u H1 W1 g=>⟨rfl,fun ea t hn=>?_⟩) (fun _ _ he=>he) (qX.mp w)⟩;refine⟨ea,t,u,rfl,upd_same,fun dx hd=>⟨rfl,dx,?_⟩⟩;have ne:ea≠dx:=vC upd_same hd;have hd1:H1 dx=none:=by rw[qF ne.symm]at hd;exact hd
 refine⟨by rw[qF ne,upd_same],?_⟩;have eq:but1 (upd (upd (upd H1 ea (.ext (ExcR ea (.ref (c C)) t none))) ea (.ext (ExcR ea (.ref (c C)) t (some dx)))) dx (.xd [(f,u)])) ea=upd H1 dx (.xd [(f,u)]):=by
  funext b;by_cases z:b=ea
  ·subst z;rw[qZv,qF ne,hn]
  ·rw [qJp z];by_cases y:b=dx
   ·subst y;rw[upd_same,upd_same]
   ·rw[qF y,qF y,qF z,qF z]
 dsimp only;rw[eq];have nw:hd2 B W1 dx=0:=by
  by_cases z:hd2 B W1 dx=0
  ·exact z
  ·obtain⟨o,e1,_⟩:=g.cf.hbs z;grind
 have sm:Same (hide (hd2 B W1) H1) (hide (hd2 B W1) (upd H1 dx (.xd [(f,u)]))):=zF fun a o z q=>⟨z,by rw[qF (vC q hd1)];exact q⟩
 refine w1 _ W1 (some dx) ⟨g.st.same.trans sm,fun a z=>?_,fun a z=>?_⟩ ⟨[(f,u)],upd_same,rfl,.cons (g.at_.same sm) .nil⟩
 ·rw [qF]
  ·exact g.st.by_ a z
  ·grind
 ·by_cases y:a=dx
  ·subst y;rw[upd_same]at z;cases z
  ·rw[qF y]at z;exact g.st.dom a z
section
variable{X:Cx}{c:Nat->aV}{E:XK}{e:Expr}{es:List Expr}{s:SV}{ss:List SV}{a:SE}{K:aQ}
theorem zW7{F:Hp}(t:TabF c F):∀{us:List V} {xs:List D},DsAt K c F us xs->SlAt K c F H (xs.map fun d=>Slot.s false (.fz d)) (us.map some) fun _=>0
 |us,[],h=>by rw[h.un0];exact⟨⟨rfl,t⟩,fun _=>rfl⟩
 | us,x::xs,h=>by
   obtain⟨u,r,rfl,a,b⟩:=h.un;exact⟨some u,r.map some,fun _=>0,fun _=>0,rfl,(show OAt K c F H (.fz x) u (fun _=>0) from OAt.fz.mpr ⟨a,fun _=>rfl⟩),zW7 t b,fun _=>rfl⟩
end
theorem qZt{K:aQ}{x:Str}{st:Stmt}{f:aV}{oc:Value}{od an:Option aV}{osl:Array (Option Value)}{kV doc pm cdv ct:Value}(l:K.lookup f=some ⟨oc,od,.func (bM x qual (wW st) (jW st) (qP st) .none kV doc pm an cdv ct),osl⟩)(c:PySem.W.codeIn K cdv qual=true)(k:cX K (.ref f)=true)(b:∀(kV doc pm:Value) (an:Option aV) (cdv ct:Value) (us:List Value),us.length=ps.length->bindArgs (bM x qual (wW st) (jW st) (qP st) .none kV doc pm an cdv ct) ⟨us,[]⟩=pure (ps.zip us)):
  MethAt K x qual st ps f (bM x qual (wW st) (jW st) (qP st) .none kV doc pm an cdv ct):=⟨qK7 l c k,(qK7 l c k).binds b⟩
theorem vW3{K:aQ}{f:Str}:yQ K c [] f:=fun _ h=>nomatch h
theorem vV0{K:aQ}{cs:List Nat}{f:Str}(h:Cls K (c C))(n:yX K (c C) f)(r:yQ K c cs f):yQ K c (C::cs) f:=fun D hD=>by
 rcases aA.mp hD with rfl|hD
 ·exact⟨h,n⟩
 ·exact r D hD
theorem vW9{K:aQ}{F:Hp}:∀ns:List Int,DsAt K c F (ns.map V.int) (ns.map D.int)
 |[]=>.nil
 |n::ns=>.cons (.int n) (vW9 ns)
noncomputable def zXj(K:aQ)(C:aV):Bool:=
 match K.lookup C with
 | some ⟨.type "type",_, .cls kd,zs⟩=>(match zs.toList,kd.mro with
   |[_,_,_,_,some (.builtin m),_],.ref B::rs=>PySem.W.tailIn K vErr rs && (!kd.hasDel && (m == "ValueError.__new__" && B == C))
   |_,_=>false)
 |_=>false
theorem zKp{K:aQ}{C:aV}(q:zXj K C=true):∃nm q N bs bm hdct sn sub ab col dd k0 k1 k2 k3 k5,K.lookup C=some (excClassObj nm q C N bs bm hdct sn sub ab col dd k0 k1 k2 k3 k5 "ValueError.__new__")/\PySem.W.tailIn K vErr bm=true:=by
 unfold zXj at q;split at q
 ·rename_i dd cd sl ho;split at q
  ·rename_i k0 k1 k2 k3 n k5 B bm hs hm;simp only[aP,beq_iff_eq,Bool.not_eq_true']at q;obtain⟨ht,hdel,rfl,rfl⟩:=q;obtain⟨nm,bs,mro,ns,qn,hd,sn,sub,ab,col,del⟩:=cd;dsimp only at hm hdel;subst hm hdel;have hsl:sl=#[k0,k1,k2,k3,some (.builtin "ValueError.__new__"),k5]:=by
    obtain⟨l⟩:=sl;simp only at hs;rw[hs]
   subst hsl;exact⟨nm,qn,ns,bs,bm,hd,sn,sub,ab,col,dd,k0,k1,k2,k3,k5,ho,ht⟩
  ·cases q
 ·cases q
theorem zK5{l:PySem.W.OpenLaw}{q:bV}{loose:List Str}{XP:(Str->Option Value)->Heap->Prop}{YP:bW->Heap->Prop}{d:DefRec}{K:Params->aQ}{F:Fn}{k:Nat}{x:Str}(hn:l.most=some 63)(hdf:d.params.defaults=[])(hr:Room k callerA)(hY:∀(w:bW) (h:Heap),YP w h->(K w.params).In h)(law:∀ns:List Int,ns.length<=63->∃e,F [.s false (.fz (.nd .lst (ns.map D.int)))]=.ok (.fz (.bl true),e))(hF:∀(w:bW) (mg:Str->Option Value) (fa:aV) (h:Heap),(K w.params).In h->h.Ns bO mg->mg d.name=some (.ref fa)->
   ∃(c:Nat->aV) (fd:bQ),c 77=0/\(∀(s:aJ) (u:Value),BindsTo s fd ⟨[u],[]⟩ [(x,u)])/\
    ∀base:Heap,(K w.params).In base->base.Ns bO mg->FnOk l.prog w (K w.params) mg base (CXd l.prog w) k fa fd [x] (spD (K w.params) c 1 F)):
  PySem.W.WalkO q loose XP YP l.row.toRowW d [] (fun f vs=>PySem.call f vs):=by
 refine zZo (CX:=fun w=>CXd l.prog w) (sp:=fun w vs H Q E=>∀c:Nat->aV,c 77=0->spD (K w.params) c 1 F vs H Q E) (x:=x) hn (by decide) hdf hr hY (fun w mg fa h hk hN hm=>?_) (fun w H a ns hl hO hS c h77=>?_) fun w H s e s' h=>?_
 ·obtain⟨c,fd,h77,hb,h2⟩:=hF w mg fa h hk hN hm;exact⟨fd,hb,fun base b1 b2=>FnOk.imp (h2 base b1 b2) fun vs H Q E z=>z c h77⟩
 ·obtain⟨e,he⟩:=law ns hl;have h0:hide (hd2 (fun _=>0) fun _=>0) H=H:=by funext a;unfold hide;rw[if_pos (by rfl)]
  have at_:DAt (K w.params) c (hide (hd2 (fun _=>0) fun _=>0) H) (.ref a) (.nd .lst (ns.map D.int)):=by
   exact .nd (k:=.lst) (vs:=ns.map V.int) hS (by rw[aK,aK]) (vW9 ns).r
  refine⟨[.s false (.fz (.nd .lst (ns.map D.int)))],fun _=>0,fun _=>0,rfl,⟨zW7 (fun z=>absurd h77 z) (us:=[.ref a]) (xs:=[.nd .lst (ns.map D.int)]) (.cons at_ .nil),fun a=>by show 0+0<=1;omega,fun a z=>absurd rfl z⟩,?_⟩;rw[he];intro v H' W' Z g;have:=(OAt.fz.mp g.at_).1;cases this;rfl
 ·obtain⟨_,_,_,_,_,_,_,_,_,_,_,_,_,_,_,_,h⟩:=h;exact h
noncomputable def eqFB:D->D->Option Bool
 |.int i,.int j=>some (i == j)
 |.str i,.str j=>some (decide (i=j))
 |.bl i,.bl j=>some (i == j)
 |_,_=>none
noncomputable def eqF(x y:D):Option D:=(eqFB x y).map .bl
noncomputable def neF(x y:D):Option D:=(eqFB x y).map fun b=>.bl (!b)
section
variable{X:Cx}{K:aQ}{c:Nat->aV}{E:XK}{a b:Expr}{oa ob:Oe}{pos:Pos}
theorem vQm{u w:V}{x y:D}{z:Bool}(hx:DAt K c H u x)(hy:DAt K c H w y)(e:eqFB x y=some z):scal u w=true/\decide (u=w)=z:=by
 unfold eqFB at e;split at e
 ·cases e;cases hx;cases hy;exact⟨rfl,vQn⟩
 ·cases e;cases hx;cases hy;exact⟨rfl,decide_eq_decide.mpr ⟨fun h=>by cases h;rfl,fun h=>by rw[h]⟩⟩
 ·cases e;cases hx;cases hy;exact⟨rfl,vZw⟩
 ·cases e
theorem vK3:PrS2 K c rEq eqF:=fun u w H x y z Q hx hy e q=>by
 obtain⟨b,e1,rfl⟩:=bZ.mp e;obtain⟨h1,h2⟩:=vQm hx hy e1;exact⟨h1,by rw[h2];exact q _ fun _=>.bl _⟩
theorem zYh:PrS2 K c rNe neF:=fun u w H x y z Q hx hy e q=>by
 obtain⟨b,e1,rfl⟩:=bZ.mp e;obtain⟨h1,h2⟩:=vQm hx hy e1;exact⟨h1,by rw[h2];exact q _ fun _=>.bl _⟩
theorem zXe(ha:OD X c E a oa)(hb:OD X c E b ob):OD X c E (.Compare a [.Eq] [b] pos) (o2 eqF oa ob):=vK6 zXc vK3 ha hb (qVe _)
theorem jZ(ha:OD X c E a oa)(hb:OD X c E b ob):TD X c E (.Compare a [.Eq] [b] pos) (asB (o2 eqF oa ob)):=qVa zXc vK3 ha hb (qVe _)
theorem vY7(ha:OD X c E a oa)(hb:OD X c E b ob):TD X c E (.Compare a [.NotEq] [b] pos) (asB (o2 neF oa ob)):=qVa jQq zYh ha hb (qVe _)
end
noncomputable def all2(f:D->D->Option Bool):List D->List D->Option Bool
 |[],[]=>some true
 |d::ds,e::es=>(f d e).bind fun a=>(all2 f ds es).bind fun b=>some (a && b)
 |_,_=>some false
noncomputable def deq:Nat->D->D->Option Bool
 | 0,x,y=>eqFB x y
 | n + 1,x,y=>match x,y with
   |.nd .lst ds,.nd .lst es=>all2 (deq n) ds es
   |.nd .tup ds,.nd .tup es=>all2 (deq n) ds es
   |.int _,.nd .tup _=>some false
   |.nd .tup _,.int _=>some false
   |x,y=>eqFB x y
noncomputable def eqQ(x y:D):Option D:=(deq 30 x y).map .bl
noncomputable def neQ(x y:D):Option D:=(deq 30 x y).map fun b=>.bl (!b)
theorem vQr{f:D->D->Option Bool}:∀{ds es:List D} {b:Bool},all2 f ds es=some b->∃g:Nat->Bool,(∀(j:Nat) (d e:D),ds[j]?=some d->es[j]?=some e->f d e=some (g j))/\((List.range (min ds.length es.length)).all g && ds.length == es.length)=b
 |[],[],b,h=>⟨fun _=>true,fun j d e q=>(by cases q),by cases h;rfl⟩
 |[],e::es,b,h=>⟨fun _=>true,fun j d e q=>(by cases q),by cases h;rfl⟩
 |d::ds,[],b,h=>⟨fun _=>true,fun j d e _ q=>(by cases q),by cases h;rfl⟩
 | d::ds,e::es,b,h=>by
   obtain⟨a,h1,h⟩:=cC.mp h;obtain⟨b,h2,h⟩:=cC.mp h;obtain⟨g,h3,rfl⟩:=vQr h2;cases h;refine⟨fun j=>Nat.rec a (fun j _=>g j) j,fun j x y p q=>?_,?_⟩
   ·cases j with
    |zero=>cases p;cases q;exact h1
    |succ j=>exact h3 j x y p q
   ·rw [aY,aY,show min (ds.length + 1) (es.length + 1)=min ds.length es.length + 1 by omega,List.range_succ_eq_map,dP,List.all_map,Bool.and_assoc];congr 2;rw[Bool.eq_iff_iff];simp
section
variable{X:Cx}{c:Nat->aV}{pins:List (aV×Obj)}{σ:L2.St}{H:Hp}{s:aJ}{A:bS}
theorem zZj(I:Inv X pins σ H s):∀(n:Nat) {v:V} {d e:D} {b:Bool},DAt X.K c H v d->DAt X.K c H v e->deq n d e=some b->b=true:=by
 have fl:∀{v:V} {d e:D} {b:Bool},DAt X.K c H v d->DAt X.K c H v e->eqFB d e=some b->b=true:=fun hx hy h=>by
  obtain⟨_,h2⟩:=vQm hx hy h;rw[←h2];exact decide_eq_true rfl
 intro n;induction n with
 |zero=>exact fl
 | succ n ih=>
   intro v d e b hx hy h;have go:∀{k:Kd} {ds es:List D} {vs ws:List V},vs=ws->DsAt X.K c H vs ds->DsAt X.K c H ws es->all2 (deq n) ds es=some b->b=true:=fun {_ ds es _ _} q h2 k2 h=>by
    subst q;obtain⟨g,h3,rfl⟩:=vQr h;have l1:=h2.len;have l2:=k2.len;rw[aP,List.all_eq_true];refine⟨fun j hj=>?_,by simp;omega⟩;have hj:=List.mem_range.mp hj;have g1:ds[j]?=some ds[j]:=aN (by omega);have g2:es[j]?=some es[j]:=aN (by omega);obtain⟨x,e1,hx⟩:=h2.get g1;exact ih hx (k2.r j x _ e1 g2) (h3 j _ _ g1 g2)
   unfold deq at h;split at h
   ·obtain⟨p,vs,rfl,h1,h2⟩:=hx.un;obtain⟨q,ws,e1,k1,k2⟩:=hy.un;cases e1;exact go (k:=.lst) (I.list_inj h1 k1) h2 k2 h
   ·obtain⟨p,vs,rfl,h1,h2⟩:=hx.un;obtain⟨q,ws,e1,k1,k2⟩:=hy.un;cases e1;exact go (k:=.tup) (I.tuple_inj h1 k1) h2 k2 h
   ·cases hx;cases hy
   ·cases hy;cases hx
   ·exact fl hx hy h
theorem vWv{f:D->D->Option Bool}{ds es:List D}{its its2:List Value}{b:Bool}(h:DsAt X.K c H vs ds)(k:DsAt X.K c H ws es)(r1:Vals vs its)(r2:Vals ws its2)(e:all2 f ds es=some b)(hf:∀(d e:D) (x y:V) (u v:Value) (b:Bool),DAt X.K c H x d->DAt X.K c H y e->RelV x u->RelV y v->f d e=some b->dH A.in1 s u v b):
  ∃g:Nat->Bool,(∀(j:Nat) (h1:j<its.toArray.size) (h2:j<its2.toArray.size),dH A.in1 s its.toArray[j] its2.toArray[j] (g j))/\((List.range (min its.toArray.size its2.toArray.size)).all g && its.toArray.size == its2.toArray.size)=b:=by
 obtain⟨g,h3,rfl⟩:=vQr e;have l1:=r1.length;have l2:=r2.length;have m1:=h.len;have m2:=k.len;refine⟨g,fun j h1 h2=>?_,by rw[aF,aF,←l1,←l2,m1,m2]⟩;rw[aF]at h1 h2;have g1:ds[j]?=some ds[j]:=aN (by omega);have g2:es[j]?=some es[j]:=aN (by omega);obtain⟨x,ex,hx⟩:=h.get g1;obtain⟨y,ey,hy⟩:=k.get g2;obtain⟨u,eu,ru⟩:=r1.get ex;obtain⟨v,ev,rv⟩:=r2.get ey;have f1:its.toArray[j]=u:=by simpa using (aH.mp eu).2
 have f2:its2.toArray[j]=v:=by simpa using (aH.mp ev).2
 rw[f1,f2];exact hf _ _ x y u v _ hx hy ru rv (h3 j _ _ g1 g2)
noncomputable def Bo(A:bS)(s:aJ)(u v:Value)(b:Bool):Prop:=SeqAt.RcAt A s u v b/\SeqAt.RcNeAt A s u v (!b)
theorem zW9(I:Inv X pins σ H s):∀(n:Nat) (A:bS) (d e:D) (x y:V) (u v:Value) (b:Bool),A.units+n<dF->DAt X.K c H x d->DAt X.K c H y e->RelV x u->RelV y v->deq n d e=some b->Bo A s u v b/\dH A s u v b:=by
 have fl:∀(A:bS) (d e:D) (x y:V) (u v:Value) (b:Bool),DAt X.K c H x d->DAt X.K c H y e->RelV x u->RelV y v->eqFB d e=some b->Bo A s u v b/\dH A s u v b:=fun A d e x y u v b hx hy ru rv h=>by
  unfold eqFB at h;split at h
  ·cases hx;cases hy;cases h;obtain⟨t,rfl⟩:=ru;obtain⟨t',rfl⟩:=rv;exact⟨⟨SeqAt.RcAt.int_int _ _ _ _,SeqAt.RcNeAt.int_int _ _ _ _⟩,SeqAt.EqAt.int_int _ _ _ _⟩
  ·cases hx;cases hy;cases h;obtain⟨t,rfl⟩:=ru;obtain⟨t',rfl⟩:=rv;exact⟨⟨SeqAt.RcAt.str_str _ _ _ _,SeqAt.RcNeAt.str_str _ _ _ _⟩,SeqAt.EqAt.str_str _ _ _ _⟩
  ·cases hx;cases hy;cases h;cases ru;cases rv;exact⟨⟨SeqAt.RcAt.bool_bool _ _,SeqAt.RcNeAt.bool_bool _ _⟩,SeqAt.EqAt.bool_bool _ _⟩
  ·cases h
 intro n;induction n with
 |zero=>intro A d e x y u v b _;exact fl A d e x y u v b
 | succ n ih=>
   intro A d e x y u v b hu hx hy ru rv h;have hu' :A.units<dF:=by omega
   have it:∀(d e:D) (x y:V) (u v:Value) (b:Bool),DAt X.K c H x d->DAt X.K c H y e->RelV x u->RelV y v->deq n d e=some b->dH A.in1 s u v b:=fun d e x y u v b q1 q2 q3 q4 q5=>(ih A.in1 d e x y u v b (by show A.units+1+n<dF;omega) q1 q2 q3 q4 q5).2
   have fin:∀{p q:aV},x=.ref p->y=.ref q->u=.ref p->v=.ref q->Bo A s (.ref p) (.ref q) b->Bo A s u v b/\dH A s u v b:=fun {p q} e1 e2 e3 e4 bo=>by
    subst e1 e2 e3 e4;by_cases z:p=q
    ·subst z;rw[zZj I (n+1) hx hy h]at bo⊢;exact⟨bo,SeqAt.EqAt.same _⟩
    ·exact⟨bo,SeqAt.EqAt.of_refs z bo.1⟩
   have h0:=h;unfold deq at h;split at h
   ·obtain⟨p,vs,rfl,h1,h2⟩:=hx.un;obtain⟨q,ws,rfl,k1,k2⟩:=hy.un;cases ru;cases rv;obtain⟨its,r1,p1,_⟩:=I.list h1;obtain⟨its2,r2,p2,_⟩:=I.list k1;obtain⟨g,g1,g2⟩:=vWv h2 k2 r1 r2 h it;refine fin rfl rfl rfl rfl ?_
    by_cases hsz:its.toArray.size=its2.toArray.size
    ·rw [hsz,Nat.min_self,beq_self_eq_true,Bool.and_true,←hsz] at g2;subst g2;exact⟨SeqAt.RcAt.lists p1.isList p2.isList hsz hu' g1,SeqAt.RcNeAt.lists p1.isList p2.isList hsz hu' g1⟩
    ·rw [beq_eq_false_iff_ne.mpr hsz,Bool.and_false] at g2;subst g2;exact⟨SeqAt.RcAt.lists_lengths p1.isList p2.isList (by simpa using hsz) hu',SeqAt.RcNeAt.lists_lengths p1.isList p2.isList (by simpa using hsz) hu'⟩
   ·obtain⟨p,vs,rfl,h1,h2⟩:=hx.un;obtain⟨q,ws,rfl,k1,k2⟩:=hy.un;cases ru;cases rv;obtain⟨its,r1,p1,_⟩:=I.tuple h1;obtain⟨its2,r2,p2,_⟩:=I.tuple k1;obtain⟨g,g1,rfl⟩:=vWv h2 k2 r1 r2 h it;exact fin rfl rfl rfl rfl ⟨SeqAt.RcAt.tuples p1 p2 hu' g1,SeqAt.RcNeAt.tuples p1 p2 hu' g1⟩
   ·obtain⟨q,ws,rfl,k1,_⟩:=hy.un;cases hx;cases rv;cases h;obtain⟨t,rfl⟩:=ru;obtain⟨_,_,p2,_⟩:=I.tuple k1;exact⟨⟨SeqAt.RcAt.int_tuple _ _ p2 hu',SeqAt.RcNeAt.int_tuple _ _ p2 hu'⟩,SeqAt.EqAt.int_tuple _ _ p2 hu'⟩
   ·obtain⟨q,ws,rfl,k1,_⟩:=hx.un;cases hy;cases ru;cases h;obtain⟨t,rfl⟩:=rv;obtain⟨_,_,p2,_⟩:=I.tuple k1;exact⟨⟨SeqAt.RcAt.tuple_int _ _ p2 hu',SeqAt.RcNeAt.tuple_int _ _ p2 hu'⟩,SeqAt.EqAt.tuple_int _ _ p2 hu'⟩
   ·exact fl A _ _ x y u v b hx hy ru rv h
end
noncomputable def rEqQ(K:aQ)(c:Nat->aV)(t:Bool->Bool):R2:=fun u w H Q=>∃x y b,DAt K c H u x/\DAt K c H w y/\deq 30 x y=some b/\Q (.bl (t b)) H
section
variable{X:Cx}{c:Nat->aV}{E:XK}{a b:Expr}{oa ob:Oe}{pos:Pos}{k:Nat}
theorem zY5(hu:X.A.units+64<dF):OpR X (cV .Eq) (rEqQ X.K c id):=fun pins s σ H x y u v Q I ru rv ⟨d,e,b,h1,h2,h3,q⟩=>(zW9 I 30 X.A d e x y u v b (by omega) h1 h2 ru rv h3).1.1 _ _ _ _ (vO I q rfl)
theorem zY0(hu:X.A.units+64<dF):OpR X (cV .NotEq) (rEqQ X.K c not):=fun pins s σ H x y u v Q I ru rv ⟨d,e,b,h1,h2,h3,q⟩=>(zW9 I 30 X.A d e x y u v b (by omega) h1 h2 ru rv h3).1.2 _ _ _ _ (vO I q rfl)
theorem vK2{K:aQ}(t:Bool->Bool):PrS2 K c (rEqQ K c t) fun x y=>(deq 30 x y).map fun b=>.bl (t b):=fun u w H x y z Q hx hy e q=>by
 obtain⟨b,e1,rfl⟩:=bZ.mp e;exact⟨x,y,b,hx,hy,e1,q _ fun _=>.bl _⟩
theorem zXd(hr:Room k X.A)(ha:OD X c E a oa)(hb:OD X c E b ob):OD X c E (.Compare a [.Eq] [b] pos) (o2 eqQ oa ob):=vK6 (zY5 hr.units) (vK2 id) ha hb (qVe _)
theorem zW3(hr:Room k X.A)(ha:OD X c E a oa)(hb:OD X c E b ob):TD X c E (.Compare a [.NotEq] [b] pos) (asB (o2 neQ oa ob)):=qVa (zY0 hr.units) (vK2 not) ha hb (qVe _)
end
end DX
namespace FP
open PySem L2 DX PyProof.Rows
noncomputable def qQh:Fn:=fnS 4 0 (sSeq (qQ1 [1] "steps" (pOf (oN 0)) (eF listD [(oN 1)]))
  (sSeq (qQ1 [1] "draws" (pOf (oN 0)) (compS 1 [] [0] (iV (oV (oN 2))) (gN 0) bTrue (fzS (eF listD [(oN 0)]))))
  (qQ1 [1] "slots" (pOf (oN 0)) (owS (oV (oN 3))))))
noncomputable def qO:Fn:=fnS 1 1 (sSeq (sSet 1 (owS (oV (oIx (oN 0) (oC (.int 0))))))
  (sSeq (sIf (asB (o2 eqF (oN 1) (oC (.str "if")))) (sRet (eLst [(oV (oIx (oN 0) (oC (.int 1)))),(oV (oIx (oN 0) (oC (.int 2)))),(oV (oIx (oN 0) (oC (.int 3))))])) sNil)
  (sSeq (sIf (asB (o2 inD (oN 1) (.v (svTup [(oV (oC (.str "op"))),(oV (oC (.str "bind")))])))) (sRet (eLst [(oV (oIx (oN 0) (oC (.int 2)))),(oV (oIx (oN 0) (oC (.int 3))))])) sNil)
  (sSeq (sIf (asB (o2 inD (oN 1) (.v (svTup [(oV (oC (.str "rest"))),(oV (oC (.str "field")))])))) (sRet (eLst [(oV (oIx (oN 0) (oC (.int 1))))])) sNil)
  (sSeq (sIf (asB (o2 eqF (oN 1) (oC (.str "record")))) (sRet (compS 2 [] [0,1] (iV (oV (oIx (oN 0) (oC (.int 1))))) (gT 2 (gCn (gN 0) (gCn (gN 1) gNl))) bTrue (oV (oN 1)))) sNil)
  (sSeq (sIf (asB (o2 eqF (oN 1) (oC (.str "call")))) (sRet (eF listD [(oIx (oN 0) (oC (.int 2)))])) sNil)
  (sRet (eLst []))))))))
noncomputable def jI(F_check_term_h:Fn):SS:=(jU (qG F_check_term_h [(.v (oV (oN 0))),(.v (oV (oN 5))),(.v (oV (oN 2))),(.v (oV (oN 3)))]))
noncomputable def vW:Nat->Fn
 | 0=>fun _=>.no
 | h + 1=>fnS 4 2 (sSeq (sSet 4 (owS (oV (oIx (oN 1) (oC (.int 0))))))
   (sSeq (sIf (bAnd (asB (o2 eqF (oN 4) (oC (.str "name")))) (asB (o2 niD (oIx (oN 1) (oC (.int 1))) (oN 2)))) (yK 24 "row" (oV (oN 0))) sNil)
   (sSeq (sIf (bAnd (asB (o2 eqF (oN 4) (oC (.str "call")))) (asB (o2 neF (.v (qK4 (pOf (oN 3)) (pOf (oIx (oN 1) (oC (.int 1)))))) (oL lenD [(oIx (oN 1) (oC (.int 2)))])))) (yK 24 "row" (oV (oN 0))) sNil)
   (sFor (iV (fzS (qG qO [(.v (oV (oN 1)))]))) (gN 5) (jI (vW h))))))
noncomputable def xV:SS:=(sSeq (sSet 5 (owS (oV (oIx (oN 4) (oC (.int 0))))))
  (sIf (asB (o2 eqF (oN 5) (oC (.str "def")))) (sSeq (sIf (asB (o2 inD (oIx (oN 4) (oC (.int 1))) (oN 2))) (yK 24 "row" (oV (oN 3))) sNil)
  (sSeq (jU (qG (vW 30) [(.v (oV (oN 3))),(.v (oV (oIx (oN 4) (oC (.int 3))))),(.v (oV (oIx (oN 4) (oC (.int 2))))),(.b (pOf (oN 2)))]))
  (sPutA (pOf (oN 2)) (pOf (oIx (oN 4) (oC (.int 1)))) (owS (oV (oL lenD [(oIx (oN 4) (oC (.int 2)))])))))) (sSeq (sIf (bAnd (asB (o2 eqF (oN 5) (oC (.str "again")))) (asB (o2 niD (oIx (oN 4) (oC (.int 2))) (oN 1)))) (yK 24 "row" (oV (oN 3))) sNil)
  (sSeq (jU (qG (vW 30) [(.v (oV (oN 3))),(.v (oV (oIx (oN 4) (o1 negD (oC (.int 1)))))),(.b (pOf (oN 1))),(.b (pOf (oN 2)))]))
  (sIf (asB (o2 eqF (oN 5) (oC (.str "let")))) (sPutA (pOf (oN 1)) (pOf (oIx (oN 4) (oC (.int 1)))) (owS (oV (oC (.bl true))))) sNil)))))
noncomputable def j9:Fn:=fnS 1 5 (sSeq (sSet 1 eDct0)
  (sSeq (sSet 2 eDct0)
  (sFor (iL enL [(oV (oN 0))]) (gT 2 (gCn (gN 3) (gCn (gN 4) gNl))) xV)))
noncomputable def wH:Fn:=fnS 1 0 (sIf (asB (oGt (oL lenD [(.v (fzS (compS 1 [] [0] (iV (oV (oN 0))) (gN 0) (asB (o2 eqF (oIx (oN 0) (oC (.int 0))) (oC (.str "def")))) (oV (oN 0)))))]) (oC (.int 3)))) (qJ4 25 (oV (oC (.str "a program has at most 3 defs")))) sNil)
noncomputable def xK:Fn:=fnS 1 0 (sSeq (sIf (asB (o2 eqF (oIx (oN 0) (oC (.int 0))) (oC (.str "flip")))) (sRet (eLst [(svTup [(oV (oC (.int 0))),(oV (oSub (oIx (oN 0) (oC (.int 2))) (oIx (oN 0) (oC (.int 1)))))]),(svTup [(oV (oC (.int 1))),(oV (oIx (oN 0) (oC (.int 1))))])])) sNil)
  (sRet (eF listD [(oIx (oN 0) (oC (.int 1)))])))
noncomputable def zK:Fn:=fnS 2 1 (sSeq (sSet 2 (owS (oV (oIx (oN 0) (oC (.int 0))))))
  (sSeq (sIf (asB (o2 eqF (oN 2) (oC (.str "if")))) (sRet (owS (svTup [(oV (oC (.str "if"))),(oV (oIx (oN 1) (oC (.int 0)))),(oV (oIx (oN 1) (oC (.int 1)))),(oV (oIx (oN 1) (oC (.int 2))))]))) sNil)
  (sSeq (sIf (asB (o2 eqF (oN 2) (oC (.str "op")))) (sRet (owS (svTup [(oV (oC (.str "op"))),(oV (oIx (oN 0) (oC (.int 1)))),(oV (oIx (oN 1) (oC (.int 0)))),(oV (oIx (oN 1) (oC (.int 1))))]))) sNil)
  (sSeq (sIf (asB (o2 eqF (oN 2) (oC (.str "record")))) (sRet (owS (svTup [(oV (oC (.str "record"))),(svA tupleD [(.v (fzS (compS 2 [] [0,1] (iL zpA [(oV (oIx (oN 0) (oC (.int 1)))),(oV (oN 1))]) (gT 2 (gCn (gN 0) (gCn (gN 1) gNl))) bTrue (svTup [(oV (oIx (oN 0) (oC (.int 0)))),(oV (oN 1))]))))])]))) sNil)
  (sRet (owS (svTup [(oV (oN 2)),(oV (oIx (oN 1) (oC (.int 0)))),(oV (oIx (oN 0) (oC (.int 2))))])))))))
noncomputable def qQg:Fn:=fnS 1 0 (sSeq (qQ1 [2] "helpers" (pOf (oN 0)) eDct0)
  (sSeq (qQ1 [2] "names" (pOf (oN 0)) eDct0)
  (sSeq (qQ1 [2] "steps" (pOf (oN 0)) (eLst []))
  (sSeq (qQ1 [2] "draws" (pOf (oN 0)) (eLst []))
  (sSeq (qQ1 [2] "slots" (pOf (oN 0)) (owS (oV (oC (.int 0)))))
  (qQ1 [2] "terms" (pOf (oN 0)) (owS (oV (oC (.int 0))))))))))
noncomputable def vS:Fn:=fnS 1 0 (sSeq (vQ2 [2] "terms" (i2 fun i j=>i+j) (pOf (oN 0)) (oV (oC (.int 1))))
  (sIf (asB (oGt (oFld [2] "terms" (oN 0)) (oC (.int 600)))) (qJ4 25 (oV (oC (.str "a program's size is at most 600")))) sNil))
noncomputable def zV:Fn:=fnS 1 0 (sSeq (vQ2 [2] "slots" (i2 fun i j=>i+j) (pOf (oN 0)) (oV (oC (.int 1))))
  (sRet (owS (oV (oSub (oFld [2] "slots" (oN 0)) (oC (.int 1)))))))
noncomputable def vT:Fn:=fnS 2 0 (sSeq (jU (eMu1 (pOf (oFld [2] "draws" (oN 0))) (owS (oV (oN 1))) apF))
  (sSeq (sIf (asB (oGt (oL lenD [(oFld [2] "draws" (oN 0))]) (oC (.int 60)))) (qJ4 25 (oV (oC (.str "a program has at most 60 draws")))) sNil)
  (sRet (owS (oV (oSub (oL lenD [(oFld [2] "draws" (oN 0))]) (oC (.int 1))))))))
noncomputable def zC(R_Opener_open_term:Fn):SS:=(sSeq (jU (j5 2 "count_term" vS (.io 0) []))
  (sSeq (sSet 8 (j5 2 "open_term" R_Opener_open_term (.io 0) [(.v (oV (oN 7))),(.v (oV (oN 2)))]))
  (sSeq (sPutA (pOf (oN 4)) (pOf (oN 6)) (j5 2 "new_slot" zV (.io 0) []))
  (jU (eMu1 (pOf (oN 5)) (owS (svTup [(oV (oIx (oN 4) (oN 6))),(oV (oN 8))])) apF)))))
noncomputable def yG(R_Opener_open_term:Fn):SS:=(sSet 9 (owS (svTup [(oV (oC (.str "bind"))),(oV (oN 10)),(oV (oN 8)),(oV (oN 9))])))
noncomputable def zT(R_Opener_open_term:Fn):Fn:=fnS 3 8 (sSeq (sSet 3 (owS (oV (oIx (oFld [2] "helpers" (oN 0)) (oIx (oN 1) (oC (.int 1)))))))
  (sSeq (sSet 4 eDct0)
  (sSeq (sSet 5 (eLst []))
  (sSeq (sFor (iL zpA [(oV (oIx (oN 3) (oC (.int 2)))),(oV (oIx (oN 1) (oC (.int 2))))]) (gT 2 (gCn (gN 6) (gCn (gN 7) gNl))) (zC R_Opener_open_term))
  (sSeq (sSet 9 (j5 2 "open_term" R_Opener_open_term (.io 0) [(.v (oV (oIx (oN 3) (oC (.int 3))))),(.v (oV (oN 4)))]))
  (sSeq (sFor (iL rvL [(oV (oN 5))]) (gT 2 (gCn (gN 10) (gCn (gN 8) gNl))) (yG R_Opener_open_term))
  (sRet (eMv 9))))))))
noncomputable def vI(F_Opener_open_term_h:Fn):SS:=(jU (eMu1 (pOf (oN 4)) (j5 2 "open_term" F_Opener_open_term_h (.io 0) [(.v (oV (oN 5))),(.v (oV (oN 2)))]) apF))
noncomputable def F_Opener_open_term:Nat->Fn
 | 0=>fun _=>.no
 | h + 1=>fnS 3 3 (sSeq (sSet 3 (owS (oV (oIx (oN 1) (oC (.int 0))))))
   (sSeq (sIf (asB (o2 eqF (oN 3) (oC (.str "call")))) (sRet (j5 2 "open_call" (zT (F_Opener_open_term h)) (.io 0) [(.v (oV (oN 1))),(.v (oV (oN 2)))])) sNil)
   (sSeq (jU (j5 2 "count_term" vS (.io 0) []))
   (sSeq (sIf (asB (o2 eqF (oN 3) (oC (.str "num")))) (sRet (eMv 1)) sNil)
   (sSeq (sIf (asB (o2 eqF (oN 3) (oC (.str "name")))) (sRet (owS (svTup [(oV (oC (.str "slot"))),(oV (oIx (oN 2) (oIx (oN 1) (oC (.int 1)))))]))) sNil)
   (sSeq (sIf (asB (o2 inD (oN 3) (.v (svTup [(oV (oC (.str "flip"))),(oV (oC (.str "pick")))])))) (sRet (owS (svTup [(oV (oC (.str "draw"))),(fzS (j5 2 "new_draw" vT (.io 0) [(.v (fzS (qG xK [(.v (oV (oN 1)))])))]))]))) sNil)
   (sSeq (sSet 4 (eLst []))
   (sSeq (sFor (iV (fzS (qG qO [(.v (oV (oN 1)))]))) (gN 5) (vI (F_Opener_open_term h)))
   (sRet (qG zK [(.v (oV (oN 1))),(.b (pOf (oN 4)))]))))))))))
noncomputable def zH:Fn:=fnS 3 1 (sSeq (sSet 3 (qJg 2 "open_term" (F_Opener_open_term 30) (.io 0) [(.v (oV (oN 2))),(.b (pOf (oFld [2] "names" (oN 0))))]))
  (sSeq (sPutA (pOf (oFld [2] "names" (oN 0))) (pOf (oN 1)) (j5 2 "new_slot" zV (.io 0) []))
  (jU (eMu1 (pOf (oFld [2] "steps" (oN 0))) (owS (svTup [(oV (oIx (oFld [2] "names" (oN 0)) (oN 1))),(oV (oN 3))])) apF))))
noncomputable def zM:SS:=(jU (j5 2 "open_let" zH (.io 0) [(.v (oV (oIx (oN 1) (oC (.int 2))))),(.v (oV (oIx (oN 1) (oC (.int 3)))))]))
noncomputable def zG:Fn:=fnS 2 3 (sSeq (sSet 2 (owS (oV (oIx (oN 1) (oC (.int 0))))))
  (sIf (asB (o2 eqF (oN 2) (oC (.str "def")))) (sPutA (pOf (oFld [2] "helpers" (oN 0))) (pOf (oIx (oN 1) (oC (.int 1)))) (owS (oV (oN 1)))) (sIf (asB (o2 eqF (oN 2) (oC (.str "let")))) (jU (j5 2 "open_let" zH (.io 0) [(.v (oV (oIx (oN 1) (oC (.int 1))))),(.v (oV (oIx (oN 1) (oC (.int 2)))))])) (sIf (asB (o2 eqF (oN 2) (oC (.str "again")))) (sFor (iL rg1 [(oV (oIx (oN 1) (oC (.int 1))))]) (gN 3) zM) (sIf (asB (o2 eqF (oN 2) (oC (.str "see")))) (jU (eMu1 (pOf (oFld [2] "steps" (oN 0))) (owS (svTup [(oV (o1 negD (oC (.int 1)))),(fzS (qJg 2 "open_term" (F_Opener_open_term 30) (.io 0) [(.v (oV (oIx (oN 1) (oC (.int 1))))),(.b (pOf (oFld [2] "names" (oN 0))))]))])) apF)) (sSeq (sSet 4 (qJg 2 "open_term" (F_Opener_open_term 30) (.io 0) [(.v (oV (oIx (oN 1) (oC (.int 1))))),(.b (pOf (oFld [2] "names" (oN 0))))]))
  (jU (eMu1 (pOf (oFld [2] "steps" (oN 0))) (owS (svTup [(fzS (j5 2 "new_slot" zV (.io 0) [])),(oV (oN 4))])) apF))))))))
noncomputable def qQc:SS:=(jU (j5 2 "open_row" zG (.io 1) [(.v (oV (oN 2)))]))
noncomputable def zQ:Fn:=fnS 1 2 (sSeq (jU (qG j9 [(.v (oV (oN 0)))]))
  (sSeq (jU (qG wH [(.v (oV (oN 0)))]))
  (sSeq (sSet 1 (qWs 2 qQg []))
  (sSeq (sFor (iV (oV (oN 0))) (gN 2) qQc)
  (sRet (qWs 1 qQh [(.v (oV (oFld [2] "steps" (oN 1)))),(.v (oV (oFld [2] "draws" (oN 1)))),(.v (oV (oFld [2] "slots" (oN 1))))]))))))
noncomputable def j3:SS:=(sSeq (sSet 3 (ePop (pOf (oN 2))))
  (sSeq (jU (eMu1 (pOf (oN 2)) (qG qO [(.v (oV (oN 3)))]) exF))
  (jU (eMu1 (pOf (oN 1)) (owS (oV (oN 3))) apF))))
noncomputable def qQb:Fn:=fnS 1 3 (sSeq (sSet 1 (eLst []))
  (sSeq (sSet 2 (compS 2 [] [0,1] (iV (oV (oFld [1] "steps" (oN 0)))) (gT 2 (gCn (gN 0) (gCn (gN 1) gNl))) bTrue (oV (oN 1))))
  (sSeq (yZ (asB (oGt (oL lenD [(oN 2)]) (oC (.int 0)))) j3 100000)
  (sRet (eMv 1)))))
noncomputable def qXx:Fn:=fnS 1 0 (sRet (owS (oV (oL lenD [(.v (fzS (qG qQb [(.v (oV (oN 0)))])))]))))
end FP
namespace L2
open PySem PySem.Spec PyProof.Rows
noncomputable abbrev Cx.mute(X:Cx):Cx:={X with xe:=fun _ _=>False}
section
variable{X:Cx}{pins:List (aV×Obj)}{σ:St}{H:Hp}{s:aJ}
theorem Inv.mute(I:Inv X pins σ H s):Inv X.mute pins σ H s:=
 ⟨⟨I.ok.mod,I.ok.kind,I.ok.glob,I.ok.blt,I.ok.above,I.ok.inj,I.ok.has,I.ok.cab,I.ok.hd,I.ok.frames,I.ok.stk,I.ok.exf,I.ok.bs,I.ok.bsz,I.ok.noex,I.ok.exfs,I.ok.funs,I.ok.frf⟩,
   I.os,I.bare,I.base,I.loc,I.cell,I.free,I.freeC,I.pin,I.hok,I.len⟩
theorem Inv.unmute(I:Inv X.mute pins σ H s):Inv X pins σ H s:=
 ⟨⟨I.ok.mod,I.ok.kind,I.ok.glob,I.ok.blt,I.ok.above,I.ok.inj,I.ok.has,I.ok.cab,I.ok.hd,I.ok.frames,I.ok.stk,I.ok.exf,I.ok.bs,I.ok.bsz,I.ok.noex,I.ok.exfs,I.ok.funs,I.ok.frf⟩,
   I.os,I.bare,I.base,I.loc,I.cell,I.free,I.freeC,I.pin,I.hok,I.len⟩
end
noncomputable def zK9(K:aQ)(Ch:Value)(i:Nat)(sp:Sp)(t:TA)(ts:TS):TS:=fun D σ H=>t σ H fun vs H1=>sp vs H1 (fun _ H2=>D.nx σ H2)
 (fun cls ox H2=>(∃C,cls=.ref C)/\PySem.W.exmOne K cls Ch=some true/\∀ea,H2 ea=none->ts {nx:=fun σ' H' =>D.nx (σ'.set i none) H',rt:=D.rt} (σ.set i (some (.ref ea))) (upd H2 ea (.ext (ExcD ea cls ox))))
section
variable{X:Cx}{k:Nat}{f:aV}{fd:bQ}{ps:List Str}{sp:Sp}{x c n:Str}{p cpos epos np hpos pos:Pos}{e:Expr}{es:List Expr}{t:TA}{b₀:Stmt}{suite:List Stmt}{ts:TS}{i:Nat}{Ch:Value}
theorem zJd(F:FnOk X.prog X.w X.K X.mg X.base (CXd X.prog X.w) k f fd ps sp)(hr:Room k X.A)(hg:Gl X x)(hm:X.mg x=some (.ref f))(hk:cX X.K (.ref f)=true)(hb:wI X.K fd ps [])(ha:PA X.mute (e::es) t)(hgc:Gl X c)(hmc:X.mg c=some Ch)(hN:X.N.Nodup)(hi:X.N[i]?=some n)(hn:X.env.scope.names.lookup n=some .local)(hsu:∀ea,PSs (X.marked ea) (b₀::suite) ts)(hex:X.ex=[])(hst:X.stack=X.env::X.outer)(hfr:X.env.frame=some X.env.locals)(hdb:(x == ("__debug__":Str))=false:=by decide)(hdc:(c == ("__debug__":Str))=false:=by decide)(he:aX (e::es) X.env=(false,eval e X.env)::aX es X.env:=by rfl)(hpl:(bI cpos (aX es X.env)).any (·.1)=false:=by rfl)(hs:swapsWith (.Call (.Name x p) (e::es) [] cpos) none epos.line X.env=pure false:=by rfl):
  PS X (.Try [.Expr (.Call (.Name x p) (e::es) [] cpos) epos] [.ExceptHandler (some (.Name c np)) (some n) (b₀::suite) hpos] [] [] pos) (zK9 X.K Ch i sp t ts):=by
 intro pins s σ H D I h;have frm:X.A.frames=some (X.env::X.outer):=by rw[I.ok.frames,hst]
 refine wpAny_Try_except (wpAny_execs_cons (wpAny_Expr_any ?_ I.quiet hs));refine dB (qQo I hg hm ?_ hdb);refine PySem.W.callWith_K (h₀:=X.base) I.ok.mod.kin hk (bU (ha cpos pins s σ H _ I.mute h) (fun us s1 hq=>?_) fun _ _ z=>z.elim) he hpl;obtain⟨vs,H1,I0,r,q⟩:=hq;have I1:=I0.unmute;refine⟨I1.kIn,?_⟩;have hl:(us ++ []).length =ps.length:=by rw[bG,←r.length];exact F.len _ _ _ _ q
 have hbd:=hb s1 us I1.kIn hl;rw[bG]at hbd;refine wpAny_call (codeAny_mono (F.run X.A X.stack s1 H1 ⟨us,[]⟩ us vs _ _ hr I1.env0 hbd r q) fun res s' hq=>?_);cases res with
 | ok fl=>
   cases fl with
   | ret u=>
     obtain⟨v,H2,I2,_,q2⟩:=I1.after hq;exact wpAny_execs_nil (wpAny_execs_nil ⟨σ,H2,I2,q2⟩)
   |next=>exact False.elim hq
   |brk=>exact False.elim hq
   |cont=>exact False.elim hq
 | error ev=>
   obtain⟨ea,cls,a0,H2,B,ox,rfl,hos,bare,un,hok,fl,cov,hea,sea,⟨oe,hoe,hdic⟩,⟨C,rfl⟩,hx,hsuite⟩:=hq;rw[hst]at fl;refine bU ((qJy _ _).any (wpAny_looks_onW (E:=fun _ _=>False) (Q:=fun _ t' =>∃h4,t' ={s' with heap:=h4}/\Heap.HeldW B (X.env::X.outer) ea (.ref C) a0 X.env.locals h4/\s'.heap.UpToSlots h4) frm hfr fl fun h4 held4 sm4=>⟨h4,rfl,held4,sm4⟩)) (fun _ t4 hq4=>?_) fun _ _ z=>z.1.elim
   obtain⟨⟨h4,rfl,held4,sm4⟩,dk4⟩:=hq4;refine bU ((qVm _ _).any (wpAny_landsW (E:=fun _ _=>False) (s:={s' with heap:=h4}) (Q:=fun _ t' =>∃h5,t' ={s' with heap:=h5}/\Heap.FlyingW B (X.env::X.outer) ea (.ref C) a0 h5/\h4.UpToSlots h5) held4 fun h5 fl5 sm5=>⟨h5,rfl,fl5,sm5⟩)) (fun _ t5 hq5=>?_) fun _ _ z=>z.1.elim
   obtain⟨⟨h5,rfl,fl5,sm5⟩,dk5⟩:=hq5;have fl5' :Heap.FlyingW B X.stack ea (.ref C) a0 h5:=by rw[hst];exact fl5
   have I5:Inv X pins σ H2 {s' with heap:=h5}:=vV7 I1 hos bare un hok fl5' cov (sm4.trans sm5);refine wpAny_handleBy_cons (codeAny_handlers_test (qQo (I5.marked ea) hgc hmc ?_ hdc)) (by intro q;cases q);obtain⟨ob,hob,hobc⟩:=fl5.there;have LT:PySem.W.Looks (model X.prog X.w) h5 (typeOf (.ref ea)) (.ref C):=hobc▸(PySem.W.Looks.ld hob).andThen .now;refine(PySem.W.exm_one I5.kIn LT hx).here ?_
   refine codeAny_handlers_suite_as ?_
   refine bU ((qVm _ _).any (lands_againW (E:=fun _ _=>False) (s:={s' with heap:=h5}) (Q:=fun _ t' =>∃h6,t' ={s' with heap:=h6}/\Heap.FlyingW B (X.env::X.outer) ea (.ref C) a0 h6/\h5.UpToSlots h6) fl5 fun h6 fl6 sm6=>⟨h6,rfl,fl6,sm6⟩)) (fun _ t6 hq6=>?_) fun _ _ z=>z.1.elim
   obtain⟨⟨h6,rfl,fl6,sm6⟩,dk6⟩:=hq6;have fl6' :Heap.FlyingW B X.stack ea (.ref C) a0 h6:=by rw[hst];exact fl6
   have I6:Inv X pins σ H2 {s' with heap:=h6}:=vV7 I1 hos bare un hok fl6' cov ((sm4.trans sm5).trans sm6);obtain⟨ob6,hob6,hobc6,vs6,hv6⟩:∃ob,h6.get? ea=some ob/\ob.cls=.ref C/\∃vs,ob.data=.fields vs:=by
    obtain⟨_,_,_,oe',vs',_,_,_,z1,z2,z3,_⟩:=fl6;grind
   have hd6:ob6.dict=ox:=by
    obtain⟨o',e1,e2⟩:=((dk4.trans dk5).trans dk6) ea oe hoe;grind
   have ne1:∀b o,s1.heap.get? b=some o->b≠ea:=fun b o e z=>by rw[z,sea]at e;cases e
   have I7:Inv X pins σ (upd H2 ea (.ext (ExcD ea (.ref C) ox))) {s' with heap:=h6}:=by
    refine I6.adopt hea ?_ ?_ (fun y cc e=>?_) (fun p hp=>?_) (zZb ⟨ob6,hob6,hobc6,hd6,vs6,hv6⟩)
    ·cases q:X.s₀.heap.get? ea with
     |none=>rfl
     | some o=>
       obtain⟨o',z⟩:=I1.base.there ea o q (by rw[hex];simp);grind
    ·obtain⟨m,⟨o,_,_,z,_⟩,_⟩:=I1.loc;grind
    ·obtain⟨v,o,z,_⟩:=I1.cell y cc e;grind
    ·exact ne1 _ _ (I1.pin p hp).1
   refine qV5 I7 hN hi (Or.inl hn) (v:=.ref ea) rfl (fun s8 I8=>?_) (.inr hn);refine bU (hsu ea pins s8 _ _ _ (I8.marked ea) (hsuite ea hea)) (fun fw s9 h9=>?_) fun _ _ z=>z.elim
   cases fw with
   | next=>
     obtain⟨σ9,H9,I9,q9⟩:=h9;exact qKe (I9.unmarked I.ok.hd) hN hi hn fun s10 I10=>⟨_,H9,I10,q9⟩
   | ret v=>
     obtain⟨v9,σ9,H9,I9,r9,q9⟩:=h9;exact qKe (I9.unmarked I.ok.hd) hN hi hn fun s10 I10=>⟨v9,_,H9,I10,r9,q9⟩
   |brk=>obtain⟨_,_,_,z⟩:=h9;exact z.elim
   |cont=>obtain⟨_,_,_,z⟩:=h9;exact z.elim
end
end L2
namespace L2
open PySem PySem.Spec PySem.W PySem.Calls PyProof.Rows
variable{tk:Tok}{Q:Value->aJ->Prop}{X:Cx}
section
variable{prog:bV}{w:bW}{A:bS}{E:Value->aJ->Prop}{h:Heap}{g:Array GenState}{d:Drawn}{t:Nat}{os:OsState}{a C dx:aV}{o:Obj}{K:Frag}{f:Str}{u:Value}{mA:Str->Option Value}{vs:Array Value}
theorem vJq{Q:Fin->aJ->Prop}(X:K.In h)(hh:hasDictIn K C=true)(hf:findIn K (.ref C) f=some none)(hx:h.get? a=some o)(hc:o.cls=.ref C)(hd:o.dict=some dx)(hv:o.data=.fields vs)(hn:h.Ns dx mA)(hm:mA f=some u)(hq:Q (.done (.ret u)) ⟨h,g,d,t,os⟩):
  aI (model prog w) A (Builtin.«object.__getattribute__» ⟨[.ref a,.str f tk],[]⟩) Q E ⟨h,g,d,t,os⟩:=by
 have L3:=looks_findIn (M:=model prog w) X hf;repeat (any_goals (first|assumption|with_reducible refine L3.at ?_|(with_reducible refine bA hx ?_;rw[hc])|(with_reducible refine bA hx ?_;rw[hd])|wp_step))
 rw[hv];obtain⟨cd,hcd,hdd⟩:=any_some hh;refine aZ (wpAny_loadPart hx ?_);rw[hc,hd];refine aZ ((looks_clsIn X hcd).here (s:=⟨h,g,d,t,os⟩) ?_);rw[hdd];refine aL ?_
 refine wpAny_nsGet hn ?_
 rw[hm];repeat (any_goals (first|assumption|wp_step))
theorem vYt{R:Result->aJ->Prop}(X:K.In h)(k:ExcKit K C)(hh:hasDictIn K C=true)(hf:findIn K (.ref C) f=some none)(hx:h.get? a=some o)(hc:o.cls=.ref C)(hd:o.dict=some dx)(hv:o.data=.fields vs)(hn:h.Ns dx mA)(hm:mA f=some u)(hq:R (.ok (.ret u)) ⟨h,g,d,t,os⟩):
  codeAny (model prog w) A (.call (.builtin "BaseException.__getattribute__") ⟨[.ref a,.str f tk],[]⟩) R ⟨h,g,d,t,os⟩:=
 codeAny_call_builtin F.attrBase_ValueError.ga.plain F.entry_bexc_ga (qKs X k hx hc (vJq X hh hf hx hc hd hv hn hm hq))
theorem zWr{fill expr:Bool}(X:K.In h)(k:ExcKit K C)(hh:hasDictIn K C=true)(hf:findIn K (.ref C) f=some none)(hx:h.get? a=some o)(hc:o.cls=.ref C)(hd:o.dict=some dx)(hv:o.data=.fields vs)(hn:h.Ns dx mA)(hm:mA f=some u)(hu:handedIn u=true)(hq:Q u ⟨h,g,d,t,os⟩):
  aI (model prog w) A (getAttrBy (.ref a) (.str f tk) fill expr) Q E ⟨h,g,d,t,os⟩:=by
 have f3:=F.attrBase_ValueError.ga.bind (.ref a);have hx0:(expr && onTheHeap (Value.builtin "BaseException.__getattribute__"))=false:=by cases expr <;> rfl
 have hx2:(Value.builtin "BaseException.__getattribute__" == Value.builtin "object.__getattribute__")=false:=by decide +kernel
 have L1:=looks_findIn (M:=model prog w) X k.ga;have L2:=looks_findIn (M:=model prog w) X k.gx;repeat (any_goals (first|assumption|with_reducible refine L1.at ?_|with_reducible refine L2.at ?_|(with_reducible refine bA hx ?_;rw[hc])|wp_step))
 refine vYt X k hh hf hx hc hd hv hn hm ?_
 repeat (any_goals (first|assumption|wp_step))
 have:=handedOut_of hu;unfold handedOut at this;rw[this];exact aL hq
theorem vYu{b:Bool}(X:K.In h)(k:ExcKit K C)(hh:hasDictIn K C=true)(hf:findIn K (.ref C) f=some none)(hx:h.get? a=some o)(hc:o.cls=.ref C)(hd:o.dict=some dx)(hv:o.data=.fields vs)(hn:h.Ns dx mA)(hm:mA f=some u)(hu:handedIn u=true)(hq:Q u ⟨h,g,d,t+1,os⟩):
  aI (model prog w) A (getAttr (.ref a) f b) Q E ⟨h,g,d,t,os⟩:=by
 repeat (any_goals (first|assumption|with_reducible apply zWr X k hh hf hx hc hd hv hn hm hu|wp_step))
end
noncomputable def tXF(K:Frag)(ta:TE)(f:Str):TE:=fun σ H Q=>ta σ H fun x H1=>∃p C dx fs v,x=.ref p/\H1 p=some (.ext (ExcD p (.ref C) (some dx)))/\H1 dx=some (.xd fs)/\ExcKit K C/\hasDictIn K C=true/\findIn K (.ref C) f=some none/\fs.lookup f=some v/\Q v H1
theorem jQk{e:Expr}{f:Str}{pos:Pos}{ta:TE}(he:PE X e ta)(hb:attributeBase e f X.env (eval e X.env)=eval e X.env):PE X (.Attribute e f pos) (tXF X.K ta f):=by
 intro pins s σ H Q I h;refine vXm hb (thn (he pins s σ H _ I h) fun u s1 ⟨x,H1,I1,rx,p,C,dx,fs,v,ex,e1,e2,k,hh,hf,l,q⟩=>?_);subst ex;obtain rfl:u=Value.ref p:=rx;obtain⟨⟨o,h1,h2,h3,vs,h4⟩,_,_⟩:=(show zD X.prog X.w H1 s1.heap p _ from I1.hok p _ e1)
 obtain⟨mA,n1,r⟩:=(show zD X.prog X.w H1 s1.heap dx (.xd fs) from I1.hok dx _ e2)
 obtain⟨u',hu,ru⟩:=RelO.some_of (v:=v) (o:=mA f) (by rw[←l];exact r f);exact vYu I1.kIn k hh hf h1 h2 h3 h4 n1.ns hu (qKq ru) ⟨v,H1,I1.tok _,ru,q⟩
theorem vJu:yV X (.builtin "isinstance") (fun xs H Q=>∃p c cv C ox b,xs=[.ref p,c]/\((∃n,c=.ty n)\/∃a,c=.ref a)/\RelV c cv/\H p=some (.ext (ExcD p (.ref C) ox))/\ExcKit X.K C/\kitOne X.K (.ref C) cv=some b/\Q (.bl b) H):=by
 intro pins s σ H xs us Q I r h;obtain⟨p,c,cv,C,ox,b,rfl,hk,rc,hp,k,e,q⟩:=h;obtain⟨u,w',rfl,r1,r2⟩:=zK6 r;cases(show u=Value.ref p from r1);cases zQ3 hk rc r2;obtain⟨⟨o,h1,h2,_⟩,_,_⟩:=(show zD X.prog X.w H s.heap p (.ext (ExcD p (.ref C) ox)) from I.hok p _ hp)
 exact kia_one (zVu k) I.kIn ⟨o,h1,h2⟩ e (fun z=>nomatch z) fun tk=>⟨.bl b,H,I.tok tk,rfl,q⟩
end L2
namespace DX
open PySem L2 PyProof.Rows
variable{K:aQ}{c:Nat->aV}{β:Type}
noncomputable def qXq:Slot->Slot
 |.s _ (.fz d)=>.s false (.fz d)
 |_=>.un
theorem SlAt.drop{F F' H H' :Hp}(e:Same F F'):∀{env:Ev} {σ:L2.St} {Z:Fp},SlAt K c F H env σ Z->SlAt K c F' H' (env.map qXq) σ (fun _=>0)
 |[],_,_,h=>⟨⟨h.1.1,h.1.2.same e⟩,fun _=>rfl⟩
 | s::env,_,_,h=>by
   obtain⟨x,r,Z1,Z2,a,b,cc,d⟩:=h;refine⟨x,r,fun _=>0,fun _=>0,a,?_,SlAt.drop e cc,fun _=>rfl⟩;cases s with
   |un=>exact fun _=>rfl
   | s io o=>
     cases o with
     |ow k os=>exact fun _=>rfl
     | fz y=>
       cases x with
       |none=>exact b.elim
       | some v=>
         have b' :OAt K c F H (.fz y) v Z1:=b;exact qXe (b'.1.same e)
theorem vVa{α:Type}:∀ws:List (α×β),(ws.map (·.1)).zip (ws.map (·.2))=ws
 |[]=>rfl
 |w::ws=>by rw[aS,aS,bP,vVa ws]
noncomputable def sTry(F:Fn)(as:List Am)(hd:Nat->Bool)(i:Nat)(su:SS):SS:=fun env=>match evOs (as.map Am.o) env with
 | .ok r=>match wN F as r.1 r.2 with
   |.ok q=>.ok (.nx q.2)
   | .er C fs=>cond (hd C && decide (i < env.length)) (match su ((r.2.map qXq).set i (.s false (.fz (.nd (.exc C (fs.map (·.1))) (fs.map (·.2)))))) with
     |.ok (.rt o e)=>.ok (.rt o e)
     |_=>.no) .no
   |.no =>.no
 |_=>.no
section
variable{X:Cx}{c:Nat->aV}{E:XK}{k:Nat}{f:aV}{fd:bQ}{ps:List Str}{x cn n:Str}{p cpos epos np hpos pos:Pos}{e:Expr}{es:List Expr}{b₀:Stmt}{suite:List Stmt}{su:SS}{i:Nat}{Ch:Value}{F:Fn}{as:List Am}{hd:Nat->Bool}
theorem zX2(G:FnOk X.prog X.w X.K X.mg X.base (CXd X.prog X.w) k f fd ps (spD X.K c as.length F))(hr:Room k X.A)(hg:Gl X x)(hm:X.mg x=some (.ref f))(hk:cX X.K (.ref f)=true)(hb:wI X.K fd ps [])(ha:OsD X.mute c E0 (e::es) (as.map Am.o))(hgc:Gl X cn)(hmc:X.mg cn=some Ch)(hN:X.N.Nodup)(hi:X.N[i]?=some n)(hn:X.env.scope.names.lookup n=some .local)(hx:∀C,hd C=true->PySem.W.exmOne X.K (.ref (c C)) Ch=some true)(hsu:∀ea,SDs (X.marked ea) c E0 (b₀::suite) su)(hex:X.ex=[]:=by rfl)(hst:X.stack=X.env::X.outer:=by rfl)(hfr:X.env.frame=some X.env.locals:=by rfl)(hdb:(x == ("__debug__":Str))=false:=by decide)(hdc:(cn == ("__debug__":Str))=false:=by decide)(he:aX (e::es) X.env=(false,eval e X.env)::aX es X.env:=by rfl)(hpl:(bI cpos (aX es X.env)).any (·.1)=false:=by rfl)(hs:swapsWith (.Call (.Name x p) (e::es) [] cpos) none epos.line X.env=pure false:=by rfl):
  SD X c E (.Try [.Expr (.Call (.Name x p) (e::es) [] cpos) epos] [.ExceptHandler (some (.Name cn np)) (some n) (b₀::suite) hpos] [] [] pos) (sTry F as hd i su):=by
 refine⟨PS.imp (zJd G hr hg hm hk hb ha.h hgc hmc hN hi hn (ts:=tS X.K c E0 su) (fun ea=>(hsu ea).h) hex hst hfr hdb hdc he hpl hs) fun D σ H=>?_⟩;rintro⟨env,B,W,cf,w⟩;unfold sTry at w;cases e0:evOs (as.map Am.o) env with
 |er C fs=>rw[e0]at w;exact w.elim
 |no=>rw[e0]at w;exact w.elim
 |ok r=>
 rw[e0]at w;refine qVb cf (show(evOs (as.map Am.o) env).wp (fun r' =>r' =r) _ by rw[e0];rfl) fun r' hr' us H1 W1 g=>?_
 subst hr';dsimp only at w;refine qQ8 g.cf g.at_ ?_
 cases e1:wN F as r'.1 r'.2 with
 |no=>rw[e1]at w;exact w.elim
 | ok q=>
   rw[e1]at w;exact fun u H' W' Z g2=>w σ H' W' (g.st.trans g2.fz.st) g2.fz.cf
 | er C fs=>
   rw[e1]at w;obtain⟨hc,w2⟩:=zE w;rw[aP]at hc;have hli:=of_decide_eq_true hc.2;intro H' Y ox sx er;refine⟨⟨_,rfl⟩,hx C hc.1,fun ea hea=>?_⟩;have ne:∀a o,H' a=some o->a≠ea:=fun a o q z=>by rw[z,hea]at q;cases q
   have sm:Same (hide (hd2 B Y) H') (hide (hd2 B fun _=>0) (upd H' ea (.ext (ExcD ea (.ref (c C)) ox)))):=zF fun a o z q=>⟨by dsimp only[hd2]at *;omega,by rw[qF (ne a o q)];exact q⟩
   have hb3:∀a,B a≠0->∃o,H' a=some o/\Hb o:=fun a z=>by rw[sx.by_ a z];exact g.cf.hb a z
   have cf2:Cf X.K c (r'.2.map qXq) σ (upd H' ea (.ext (ExcD ea (.ref (c C)) ox))) B (fun _=>0):=⟨SlAt.drop (sx.same.trans sm) g.cf.at_,fun a=>by have:=g.cf.nd a;(try dsimp only);omega,fun a z=>by
    obtain⟨o,q,b⟩:=hb3 a z;exact⟨o,by rw[qF (ne a o q)];exact q,b⟩⟩
   have hB0:B ea=0:=by
    by_cases z:B ea=0
    ·exact z
    ·obtain⟨o,q,_⟩:=hb3 ea z;rw[hea]at q;cases q
   have dE:DAt X.K c (hide (hd2 B fun _=>0) (upd H' ea (.ext (ExcD ea (.ref (c C)) ox)))) (.ref ea) (.nd (.exc C (fs.map (·.1))) (fs.map (·.2))):=by
    have fe:hide (hd2 B fun _=>0) (upd H' ea (.ext (ExcD ea (.ref (c C)) ox))) ea=some (.ext (ExcD ea (.ref (c C)) ox)):=by rw[v4 (by dsimp only[hd2];omega),upd_same]
    cases ox with
    | none=>
      cases(show fs=[] from er);exact .nd (k:=.exc C []) (vs:=[]) ⟨rfl,none,fe,rfl⟩ rfl fun i v d a _=>by simp at a
    | some dx=>
      obtain⟨ws,h1,h2,h3⟩:=er;refine .nd (k:=.exc C (fs.map (·.1))) (vs:=ws.map (·.2)) ⟨?_,some dx,fe,?_⟩ h3.len (h3.same sm).r
      ·rw[←h2,aK,aK]
      ·show hide _ _ dx=some (.xd ((fs.map (·.1)).zip (ws.map (·.2))));rw[←h2,vVa,v4,qF (ne dx _ h1)]
       ·exact h1
       ·by_cases z:B dx=0
        ·exact z
        ·obtain⟨o,q,b⟩:=hb3 dx z;rw[h1]at q;cases q;exact b.elim
   have hl2:i<(r'.2.map qXq).length :=by rw[aK,g.st.len];exact hli
   obtain⟨W',cf3,sm3,z3⟩:=cf2.put (B:=B) (Z:=fun _=>0) (io:=false) (i:=i) (fun _=>rfl) (OAt.fz.mpr ⟨dE,fun _=>rfl⟩) hl2;have w0:∀a,W' a=0:=fun a=>by
    by_cases z:W' a=0
    ·exact z
    ·exact absurd rfl (z3 a z)
   have st3:Step env σ H B W ((r'.2.map qXq).set i (.s false (.fz (.nd (.exc C (fs.map (·.1))) (fs.map (·.2)))))) (σ.set i (some (.ref ea))) (upd H' ea (.ext (ExcD ea (.ref (c C)) ox))) W' :=by
    refine⟨(g.st.same.trans sx.same).trans (sm.trans sm3),fun a z=>?_,fun a z=>absurd (w0 a) z,fun a z=>?_,fun a _ z=>absurd (w0 a) z,fun j o z=>?_,by rw[bT,aK,g.st.len]⟩
    ·obtain⟨o,q,_⟩:=hb3 a z;rw[qF (ne a o q),sx.by_ a z,g.st.by_ a z]
    ·by_cases y:a=ea
     ·subst y;rw[upd_same]at z;cases z
     ·rw[qF y]at z;exact g.st.dom a (sx.dom a z)
    ·rw [List.getElem?_set] at z;split at z
     ·first|cases z|(split at z <;> cases z)
     ·rw [dZ] at z;cases e2:r'.2[j]? with
      |none=>rw[e2]at z;cases z
      | some s=>
        rw[e2]at z;cases s with
        |un=>cases z
        |s io o' =>cases o' <;> cases z
   cases e3:su ((r'.2.map qXq).set i (.s false (.fz (.nd (.exc C (fs.map (·.1))) (fs.map (·.2)))))) with
   |no=>rw[e3]at w2;exact w2.elim
   |er _ _=>rw[e3]at w2;exact w2.elim
   | ok o=>
     rw[e3]at w2;cases o with
     |nx _=>exact w2.elim
     |bk _=>exact w2.elim
     |ct _=>exact w2.elim
     | rt r e' =>
       refine⟨_,B,W',cf3,?_⟩;rw[e3];exact fun v σ' H2 W2 Z g3=>w2 v σ' H2 W2 Z ⟨st3.trans g3.st,g3.cf,g3.at_⟩
end
noncomputable def isxD(tb:List (Nat×Bool)):D->Option D
 |.nd (.exc C _) _=>(tb.lookup C).map D.bl
 |_=>none
noncomputable def xfD(Cs:List Nat)(f:Str):D->Option D
 | .nd (.exc C fs) ds=>cond (Cs.contains C) (match(fs.zip ds).lookup f with
   |some (.int i)=>some (.int i)
   |_=>none) none
 |_=>none
theorem qYn:∀{l:List (Nat×β)} {a:Nat} {b:β},l.lookup a=some b->(a,b)∈l
 |[],_,_,h=>by cases h
 | (x,y)::l,a,b,h=>by
   rw[List.lookup_cons]at h;cases z:a == x with
   |true=>rw[z]at h;cases h;rw[beq_iff_eq.mp z];exact cH
   |false=>rw[z]at h;exact aC _ (qYn h)
theorem qKn{F:Hp}{f:Str}:∀{fs:List Str} {vs:List V} {ds:List D} {d:D},DsAt K c F vs ds->(fs.zip ds).lookup f=some d->∃v,(fs.zip vs).lookup f=some v/\DAt K c F v d
 |[],_,_,_,_,h=>by cases h
 |x::fs,vs,[],_,_,h=>by cases h
 | x::fs,vs,y::ds,d,hd,h=>by
   obtain⟨v,r,rfl,a,b⟩:=hd.un;rw[bP,List.lookup_cons]at h⊢;cases z:f == x with
   |true=>rw[z]at h;cases h;exact⟨v,rfl,a⟩
   |false=>rw[z]at h;exact qKn b h
section
variable{X:Cx}{c:Nat->aV}{E:XK}{e:Expr}{x y f:Str}{p q pos:Pos}{o:Oe}{cv:V}{cu:Value}{tb:List (Nat×Bool)}{Cs:List Nat}
theorem qQt(hk:(∃n,cv=.ty n)\/∃a,cv=.ref a)(rc:RelV cv cu)(hT:∀C b,(C,b)∈tb->ExcKit X.K (c C)/\cJ X.K (.ref (c C)) cu=some b)(hg:Gl X x)(hm:X.mg x=none)(hv:cI x=some (.builtin "isinstance"))(h2:PE X (.Name y q) (tC cv))(ha:OD X c E e o)(hx:x≠"__name__":=by decide)(hdb:(x == ("__debug__":Str))=false:=by decide)(he:aX [e, .Name y q] X.env=(false,eval e X.env)::aX [.Name y q] X.env:=by rfl)(hs2:aX [.Name y q] X.env=(false,eval (.Name y q) X.env)::aX [] X.env:=by rfl)(hpl:(bI pos (aX [.Name y q] X.env)).any (·.1)=false:=by rfl):
  OD X c E (.Call (.Name x p) [e, .Name y q] [] pos) (o1 (isxD tb) o):=by
 refine⟨PE.imp (vVq vJu hg hm hv (qQn ha.h (qQn h2 qZ6 hs2) he) hx hdb he hpl) fun σ H Q h=>?_⟩;refine vKb (K:=X.K) (r:=fun u H Q=>∃p c' cv' C ox b,[u,cv]=[.ref p,c']/\((∃n,c' =.ty n)\/∃a,c' =.ref a)/\RelV c' cv' /\H p=some (.ext (ExcD p (.ref C) ox))/\ExcKit X.K C/\cJ X.K (.ref C) cv' =some b/\Q (.bl b) H) (fun u H x z Q hx e q=>?_) h;unfold isxD at e;split at e
 ·rename_i C fs ds;obtain⟨p',vs,rfl,⟨_,ox,h1,_⟩,_⟩:=hx.un;cases e1:tb.lookup C with
  |none=>rw[e1]at e;cases e
  | some b=>
    rw[e1]at e;cases e;obtain⟨t1,t2⟩:=hT C b (qYn e1);exact⟨p',cv,cu,c C,ox,b,rfl,hk,rc,h1,t1,t2,q _ fun _=>.bl b⟩
 ·cases e
theorem jQv(hC:∀C∈Cs,ExcKit X.K (c C)/\PySem.W.hasDictIn X.K (c C)=true/\bF X.K (.ref (c C)) f=some none)(ha:OD X c E e o)(hb:attributeBase e f X.env (eval e X.env)=eval e X.env:=by rfl):OD X c E (.Attribute e f pos) (o1 (xfD Cs f) o):=by
 refine⟨PE.imp (jQk ha.h hb) fun σ H Q h=>?_⟩;refine vKb (K:=X.K) (r:=fun u H Q=>∃p C dx fs v,u=.ref p/\H p=some (.ext (ExcD p (.ref C) (some dx)))/\H dx=some (.xd fs)/\ExcKit X.K C/\PySem.W.hasDictIn X.K C=true/\bF X.K (.ref C) f=some none/\fs.lookup f=some v/\Q v H) (fun u H x z Q hx e q=>?_) h;unfold xfD at e;split at e
 ·rename_i C fs ds;obtain⟨p',vs,rfl,⟨_,ox,h1,h2⟩,hds⟩:=hx.un;cases hc:Cs.contains C with
  |false=>rw[hc]at e;cases e
  | true=>
    rw[hc]at e;obtain⟨k1,k2,k3⟩:=hC C (List.contains_iff_mem.mp hc);dsimp only[cond]at e;split at e
    ·rename_i i e1;cases e;cases ox with
     |none=>cases(show fs=[] from h2);cases e1
     | some dx=>
       obtain⟨v,l1,l2⟩:=qKn hds e1;cases l2;exact⟨p',c C,dx,_,_,rfl,h1,h2,k1,k2,k3,l1,q _ fun _=>.int i⟩
    ·cases e
 ·cases e
end
end DX
namespace DX
open PySem L2
variable{C0 i:Nat}{l:List Nat}{pl:Sem Bool}{o':Oe}
theorem zWm{p:Nat->Bool->Prop}:∀C b,(C,b)∈([]:List (Nat×Bool))->p C b:=fun _ _ h=>nomatch h
theorem vV2{p:Nat->Bool->Prop}{b0:Bool}{l:List (Nat×Bool)}(h0:p C0 b0)(hl:∀C b,(C,b)∈l->p C b):∀C b,(C,b)∈(C0,b0)::l->p C b:=fun C b h=>by
 grind
theorem zWn{p:Nat->Prop}:∀C∈([]:List Nat),p C:=fun _ h=>nomatch h
theorem zV8{p:Nat->Prop}(h0:p C0)(hl:∀C∈l,p C):∀C∈C0::l,p C:=fun C h=>by
 grind
theorem zWp{p:Nat->Prop}:∀C,([]:List Nat).contains C=true->p C:=fun _ h=>nomatch h
theorem vV3{p:Nat->Prop}(h0:p C0)(hl:∀C,l.contains C=true->p C):∀C,(C0::l).contains C=true->p C:=fun C h=>by
 grind
section
variable{X:Cx}{c:Nat->aV}{E:XK}{e o:Expr}{es:List Expr}{as:List Am}{a0:Am}{x m q y:Str}{C j n:Nat}{st:Stmt}{f:aV}{fd:bQ}{ps:List Str}{k k0:Nat}{F:Fn}{p pos apos np cpos:Pos}{s:SV}{tb:List (Nat×Fn)}
theorem cA(A:FnAt X.K X.mg x st ps f fd)(G:FnOk X.prog X.w X.K X.mg X.base (CXd X.prog X.w) k f fd ps (spD X.K c as.length F))(hr:Room k0 X.A)(ha:OsD X c E (e::es) (as.map Am.o))(hx:jM (CXd X.prog X.w) X E:=by exact jE)(hk:k<=k0:=by first|decide|omega)(hg:Gl X x:=by exact rfl)(hdb:(x == ("__debug__":Str))=false:=by decide)(he:aX (e::es) X.env=(false,eval e X.env)::aX es X.env:=by rfl)(hpl:(bI pos (aX es X.env)).any (·.1)=false:=by rfl):ED X c E (.Call (.Name x p) (e::es) [] pos) (qG F as):=
 qVj G (hr.mono hk) hg A.m A.F.kp A.b hx ha hdb he hpl
theorem mA(ho:OD X c E o a0.o)(hc:Cls X.K (c C))(hm:Meth X.K (c C) m f)(A:MethAt X.K m q st ps f fd)(G:FnOk X.prog X.w X.K X.mg X.base (CXd X.prog X.w) k f fd ps (spD X.K c (a0::as).length F))(hr:Room k0 X.A)(ha:OsD X c E (e::es) (as.map Am.o))(hx:jM (CXd X.prog X.w) X E:=by exact jE)(hk:k<=k0:=by first|decide|omega)(hst:aX (e::es) X.env=(false,eval e X.env)::aX es X.env:=by rfl)(hpl:(bI pos (aX es X.env)).any (·.1)=false:=by rfl)(ht:eval (.Call (.Attribute o m apos) (e::es) [] pos) X.env=(do
   let ov ←eval o X.env;standAt apos.atName;let (f,first) ←holding [ov] (getMethod ov m pl);callWith pos f first (bI pos (aX (e::es) X.env)) (backToKw pos (keywordEach [] X.env))):=by rfl):
  ED X c E (.Call (.Attribute o m apos) (e::es) [] pos) (j5 C m F a0 as):=vW8 ho hc hm G (hr.mono hk) A.b hx ha hst hpl ht
theorem m0A(ho:OD X c E o a0.o)(hc:Cls X.K (c C))(hm:Meth X.K (c C) m f)(A:MethAt X.K m q st ps f fd)(G:FnOk X.prog X.w X.K X.mg X.base (CXd X.prog X.w) k f fd ps (spD X.K c 1 F))(hr:Room k0 X.A)(hx:jM (CXd X.prog X.w) X E:=by exact jE)(hk:k<=k0:=by first|decide|omega)(ht:eval (.Call (.Attribute o m apos) [] [] pos) X.env=(do
   let ov ←eval o X.env;standAt apos.atName;let (f,first) ←holding [ov] (getMethod ov m pl);callWith pos f first (bI pos (aX [] X.env)) (backToKw pos (keywordEach [] X.env))):=by rfl):
  ED X c E (.Call (.Attribute o m apos) [] [] pos) (j5 C m F a0 []):=zZf ho hc hm G (hr.mono hk) A.b hx ht
theorem rA{fI:aV}(ce:IniCls X.K (c C) fI)(A:MethAt X.K m q st ps fI fd)(G:FnOk X.prog X.w X.K X.mg X.base (CXd X.prog X.w) k fI fd ps (vJw (c C) y))(hr:Room k0 X.A)(hm:X.mg x=some (.ref (c C)))(he:EV X c E e s)(hk:k+1<=k0:=by first|decide|omega)(hg:Gl X x:=by exact rfl)(hcalm:X.calm=true:=by rfl)(hex:X.ex=[]:=by rfl)(ht:qXl X (c C) (fun ea dx H1=>E (.ref (c C)) (some dx) (but1 H1 ea)):=by exact vZ5)(hs:aX [e] X.env=[(false,eval e X.env)]:=by rfl)(hdb:(x == ("__debug__":Str))=false:=by decide):SD X c E (.Raise (some (.Call (.Name x np) [e] [] cpos)) none pos) (yK C y s):=
 vXy ce G (hr.mono hk) A.b hg hm hcalm hex he ht hs hdb
theorem scA{N P:List Str}{sc:Scope}(a:sc.kind=.function :=by rfl)(b:sc.isCoroutine=false:=by rfl)(g:sc.isGenerator=false:=by rfl)(nd:N.Nodup:=by decide +kernel)(pre:List.take P.length N=P:=by rfl)(par:∀x∈P,List.lookup x sc.names=some .local \/List.lookup x sc.names=some .cell :=by decide +kernel)(nf:∀y∈sc.names,y.2≠ .free :=by decide +kernel):FnScope N P sc:=⟨a,b,g,nd,pre,par,nf⟩
theorem sA{s:SE}{pos' :Pos}(hN:X.N.Nodup)(he:ED X c E e s)(hi:X.N[i]?=some x:=by rfl)(hx:Loc X.env.scope x:=by exact Or.inl rfl)(hs:swapsWith e (some (.Name x pos')) pos.line X.env=pure false:=by rfl)(hf:X.fn x=true\/X.env.scope.names.lookup x=some .local :=by first|exact .inl rfl|exact .inr rfl|assumption):
  SD X c E (.Assign [.Name x pos'] e pos) (sSet i s):=zX3 hN hi hx he hs hf
theorem vA{ss:List SV}(ha:OD X c E e o')(hr:VsD X c E es ss)(hs:aX (e::es) X.env=(false,eval e X.env)::aX es X.env:=by rfl):VsD X c E (e::es) (oV o' ::ss):=vL ha.val hr hs
theorem oA{os:List Oe}(ha:OD X c E e o')(hr:OsD X c E es os)(hs:aX (e::es) X.env=(false,eval e X.env)::aX es X.env:=by rfl):OsD X c E (e::es) (.v (oV o')::os):=jQ (od_v ha.val) hr hs
end
section
variable{X:Cx}{c:Nat->aV}{E:XK}{x:Str}{b:Expr}{ob:Oe}{k:Nat}{pos p2:Pos}
theorem nA(i:Nat)(hN:X.N[i]?=some x:=by rfl)(hv:Vis X.env.scope x:=by first|exact Or.inl rfl|exact Or.inr (Or.inl rfl)|exact Or.inr (Or.inr rfl))(hd:(x == ("__debug__":Str))=false:=by decide)(hc:(x == ("__classdict__":Str))=false:=by decide):OD X c E (.Name x pos) (oN i):=zJ3 (pv i hN hv hd hc)
theorem gA(hN:X.N.Nodup:=by exact of_decide_eq_true (by kernel_rfl))(hi:X.N[i]?=some x:=by rfl)(hx:Loc X.env.scope x:=by exact Or.inl rfl)(hf:X.fn x=true\/X.env.scope.names.lookup x=some .local :=by first|exact .inl rfl|exact .inr rfl|assumption):GD X c (.Name x pos) [i] (gN i):=zWk hN hi hx hf
theorem xA(i:Nat)(hr:Room k X.A)(hb:OD X c E b ob)(hN:X.N[i]?=some x:=by rfl)(hv:Vis X.env.scope x:=by first|exact Or.inl rfl|exact Or.inr (Or.inl rfl)|exact Or.inr (Or.inr rfl))(hd:(x == ("__debug__":Str))=false:=by decide)(hc:(x == ("__classdict__":Str))=false:=by decide)(hs:qXm b:=by exact fun _ _=>rfl):OD X c E (.Subscript (.Name x pos) b p2) (oIx (oN i) ob):=o_ix hr (nA i hN hv hd hc) hb hs
end
theorem faM{K:aQ}{mg:Str->Option Value}{h:Heap}{x:Str}{st:Stmt}{ps:List Str}{f:aV}{oc:Value}{od an:Option aV}{osl:Array (Option Value)}{kV doc pm cdv ct:Value}(X:K.In h)(G:h.Ns bO mg)(a:PySem.W.nsIn K bO x=some (some (.ref f)))(l:K.lookup f=some ⟨oc,od,.func (bM x x (wW st) (jW st) (qP st) .none kV doc pm an cdv ct),osl⟩)(c:PySem.W.codeIn K cdv x=true)(k:cX K (.ref f)=true)(b:∀(kV doc pm:Value) (an:Option aV) (cdv ct:Value) (us:List Value),us.length=ps.length->bindArgs (bM x x (wW st) (jW st) (qP st) .none kV doc pm an cdv ct) ⟨us,[]⟩=pure (ps.zip us):=by first|exact(fun _ _ _ _ _ _ us hl=>match us,hl with|[_],_=>rfl)|exact(fun _ _ _ _ _ _ us hl=>match us,hl with|[_,_],_=>rfl)|exact(fun _ _ _ _ _ _ us hl=>match us,hl with|[_,_,_],_=>rfl)|exact(fun _ _ _ _ _ _ us hl=>match us,hl with|[_,_,_,_],_=>rfl)):
  FnAt K mg x st ps f (bM x x (wW st) (jW st) (qP st) .none kV doc pm an cdv ct):=zWl X G a l c k b
end DX
namespace L2
open PySem PySem.Spec PyProof.Rows
section
variable{prog:bV}{w:bW}{A:bS}{E:Value->aJ->Prop}
theorem zXm{it l:aV}{vs:Array Value}(ne:l≠it):∀(k i:Nat) (s:aJ) (Q:List Value->aJ->Prop),s.heap.IsListIter it l i->s.heap.IsList l vs->i+k<=vs.size->
  (∀g,g.IsListIter it l (i+k)->dI it s.heap g->Q ((vs.toList.drop i).take k) {s with heap:=g})->aI (model prog w) A (draw (.ref it) k) Q E s
 | 0,i,s,Q,h1,_,_,q=>by
   show aI _ _ (pure []) Q E s;exact aL (by simpa using q s.heap h1 (Heap.SameBut.refl ..))
 | k + 1,i,s,Q,h1,h2,h3,q=>by
   have lt:i<vs.size:=by omega
   show aI _ _ (pyNext (.ref it) >>=_) Q E s;refine aZ (wpAny_pyNext_list_item h1 h2 (x:=vs[i]) (by simp[lt]) fun g1 a1 b1=>?_);have h4:g1.IsList l vs:=by obtain⟨o,e,c⟩:=h2;exact⟨o,b1.extBut l o ne e,c⟩
   refine aZ (cF (zXm ne k (i+1) _ _ a1 h4 (by omega) fun g2 a2 b2=>aL ?_));have r:=q g2 (by rw[show i+(k+1)=i+1+k by omega];exact a2) (b1.trans b2);rw[show vs.toList.drop i=vs[i]::vs.toList.drop (i+1) by simp[List.drop_eq_getElem_cons,lt],List.take_succ_cons]at r;exact r
variable{s:aJ}{l:aV}{vs:Array Value}
theorem zZq{Q:List Value->aJ->Prop}(hh:A.handled=none)(hl:s.heap.IsList l vs)(q:∀g,Heap.ExtBut s.heap.objs.size s.heap g->Q vs.toList {s with heap:=g}):aI (model prog w) A (unpackItems (.ref l) vs.size none) Q E s:=by
 have ne:l≠s.heap.objs.size:=by obtain⟨o,e,_⟩:=hl;exact bJ (aU e)
 unfold unpackItems;refine aZ ?_
 unfold notIterableAtAll;refine aZ (wpAny_specialOf hl.typeIs slot_list_iter.lookup (aL ?_));simp only[Bool.false_eq_true,if_false];refine aZ (cF (wpAny_pyIter_list hl ?_));have h2:(s.heap.push {cls:=.type "list_iterator",data:=.fields #[.ref l,.int 0 0]}).IsList l vs:=by obtain⟨o,e,c⟩:=hl;exact⟨o,aW _ e,c⟩
 refine aZ (cF (zXm ne vs.size 0 _ _ ⟨_,aT _ rfl,rfl,rfl⟩ h2 (by omega) fun g1 a1 b1=>?_));rw[show List.take vs.size (List.drop 0 vs.toList)=vs.toList by rw[List.drop_zero];exact List.take_of_length_le (by simp),if_neg (by simp)];have h3:g1.IsList l vs:=by obtain⟨o,e,c⟩:=h2;exact⟨o,b1.extBut l o ne e,c⟩
 refine aZ (cF (wpAny_pyNext_list_end hh a1 h3 (by simp) fun g2 b2=>?_));simp only[Option.isSome_none,Bool.false_eq_true,if_false];exact aL (q g2 fun b o hb e=>b2 b o hb (b1.extBut b o hb (aW _ e)))
end
section
variable{X:Cx}{pos:Pos}
noncomputable def jQ7(K:aQ)(n:Nat)(t:TGs):TG:=fun v σ H Q=>∃a xs,v=.ref a/\SqL K H a xs/\xs.length=n/\t xs σ H Q
theorem zJo{es:List Expr}{k:Nat}{t:TGs}{n:Nat}(hc:X.calm=true)(h:PGs X es t)(hn:(assignEach es X.env).length =n:=by rfl)(hst:(assignEach es X.env).findIdx? (·.1)=none:=by rfl):PG X (.Tuple es k pos) (jQ7 X.K n t):=by
 intro pins s σ H v u Q I r hw;obtain⟨a,xs,rfl,hq,hl,hw⟩:=hw;cases r;obtain⟨its,rv,p,_⟩:=I.list hq;rw[assign_Tuple];refine aZ (wpAny_standAt ?_);unfold unpack;rw[hst,show(assignEach es X.env).length =its.toArray.size by simp[hn,←hl,rv.length]];refine aZ (cF (zZq (I.ok.hd hc) p.isList fun g eb=>?_));have I1:Inv X pins σ H {s with heap:=g}:=I.kept (t' :=s.toks) fun b o e=>eb b o (bJ (aU e)) e
 exact h pins _ σ H xs _ Q I1 (by simpa using rv) hw
end
end L2
namespace DX
open PySem L2 PyProof.Rows
noncomputable def gL(n:Nat)(gs:SGs):SG:=fun d env=>match d with
 |.nd .lst ds=>if ds.length=n then gs ds env else none
 |_=>none
theorem zQf{X:Cx}{c:Nat->aV}{pos:Pos}{n k:Nat}{es:List Expr}{gs:SGs}{T:List Nat}(hc:X.calm=true)(h:GDs X c es T gs)(hn:(assignEach es X.env).length =n:=by rfl)(hst:(assignEach es X.env).findIdx? (·.1)=none:=by rfl):GD X c (.Tuple es k pos) T (gL n gs):=by
 refine⟨PG.imp (zJo hc h.h hn hst) fun v σ H Q=>?_⟩;rintro⟨env,B,W,d,e,cf,hd,h1,h2⟩;unfold gL at h1;split at h1
 ·rename_i ds;split at h1
  ·rename_i hl;obtain⟨p,vs,q1,q2,q3⟩:=hd.un;exact⟨p,vs,q1,j6 vK q2,by rw[q3.len];exact hl,env,B,W,ds,e,cf,q3,h1,h2⟩
  ·cases h1
 ·cases h1
end DX
namespace X25
open PySem L2 DX FP PyProof.Rows
noncomputable def qB:Fn:=fnS 2 0 (sSeq (sIf (asB (oLt (oN 1) (oL lenD [(oN 0)]))) (sRet (owS (oV (oIx (oN 0) (oN 1))))) sNil)
  (sRet (owS (oV (oC (.int 0))))))
noncomputable def wF:Fn:=fnS 2 1 (sSeq (sSet 2 (owS (oV (oAdd (oAdd (oMod (oN 0) (oC (.int 1000000007))) (oMul (oC (.int 31)) (oN 1))) (oC (.int 1))))))
  (sRet (owS (oV (oMod (oMul (oMod (oMul (oN 2) (oN 2)) (oC (.int 2147483629))) (oAdd (oN 1) (oC (.int 7)))) (oC (.int 2147483647)))))))
noncomputable def yB:SS:=(sSeq (sSet 5 (owS (svTup [(oV (oC (.str "num"))),(oV (oMod (oN 2) (oC (.int 1000000000000))))])))
  (sSeq (sIf (asB (oLt (oN 4) (oN 1))) (sSet 5 (owS (svTup [(oV (oC (.str "flip"))),(oV (oAdd (oC (.int 1)) (oMod (oAdd (oN 2) (oN 4)) (oC (.int 900))))),(oV (oC (.int 1000)))]))) sNil)
  (sSeq (sIf (bAnd (asB (oLt (oN 4) (oN 1))) (asB (o2 eqF (oMod (oAdd (oN 2) (oN 4)) (oC (.int 3))) (oC (.int 0))))) (sSet 5 (owS (svTup [(oV (oC (.str "pick"))),(svTup [(svTup [(oV (oMod (oN 2) (oC (.int 1000)))),(oV (oAdd (oC (.int 1)) (oN 4)))]),(svTup [(oV (oAdd (oC (.int 5000)) (oN 4))),(oV (oAdd (oC (.int 1)) (oMod (oN 2) (oC (.int 1000000)))))])])]))) sNil)
  (sIf (asB (o2 isN (oN 3) (oC .non))) (sSet 3 (owS (oV (oN 5)))) (sSet 3 (owS (svTup [(oV (oC (.str "op"))),(oV (oC (.str "+"))),(oV (oN 3)),(oV (oN 5))])))))))
noncomputable def xU:Fn:=fnS 3 3 (sSeq (sSet 3 (owS (oV (oC .non))))
  (sSeq (sFor (iL rg1 [(oV (oN 0))]) (gN 4) yB)
  (sRet (eMv 3))))
noncomputable def qZ3:SS:=(sSet 3 (owS (svTup [(oV (oC (.str "op"))),(oV (oC (.str "-"))),(oV (oN 3)),(svTup [(oV (oC (.str "call"))),(oV (oN 0)),(svTup [(svTup [(oV (oC (.str "num"))),(oV (oN 4))])])])])))
noncomputable def xB:Fn:=fnS 2 3 (sSeq (sSet 2 (owS (svTup [(oV (oC (.str "num"))),(oV (oC (.int 1)))])))
  (sSeq (sIf (asB (o2 eqF (oMod (oN 1) (oC (.int 2))) (oC (.int 0)))) (sSet 2 (owS (svTup [(oV (oC (.str "op"))),(oV (oC (.str "*"))),(svTup [(oV (oC (.str "flip"))),(oV (oC (.int 1))),(oV (oC (.int 7)))]),(svTup [(oV (oC (.str "op"))),(oV (oC (.str "+"))),(svTup [(oV (oC (.str "num"))),(oV (oN 1))]),(svTup [(oV (oC (.str "num"))),(oV (oC (.int 3)))])])]))) sNil)
  (sSeq (sSet 3 (owS (svTup [(oV (oC (.str "call"))),(oV (oN 0)),(svTup [(oV (oN 2))])])))
  (sSeq (sFor (iL rg1 [(oV (oSub (oN 1) (oC (.int 1))))]) (gN 4) qZ3)
  (sRet (eMv 3))))))
noncomputable def j8:Fn:=fnS 1 6 (sSeq (sSet 1 (owS (oV (oMod (.v (fzS (qG qB [(.v (oV (oN 0))),(.v (oV (oC (.int 0))))]))) (oC (.int 5))))))
  (sSeq (sSet 2 (qG qB [(.v (oV (oN 0))),(.v (oV (oC (.int 1))))]))
  (sSeq (sSet 3 (qG qB [(.v (oV (oN 0))),(.v (oV (oC (.int 2))))]))
  (sSeq (sSet 4 (eLst [(oV (oMod (oN 2) (oC (.int 31)))),(oV (oMod (oN 3) (oC (.int 31))))]))
  (sSeq (sSet 5 (eLst [(oV (oAdd (oC (.int 1)) (oMod (oDiv (oN 2) (oC (.int 31))) (oC (.int 9))))),(oV (oAdd (oC (.int 1)) (oMod (oDiv (oN 3) (oC (.int 31))) (oC (.int 9)))))]))
  (sSeq (sSet 6 (eLst [(oV (oMod (oMod (oDiv (oN 2) (oC (.int 279))) (oC (.int 5))) (oAdd (oIx (oN 5) (oC (.int 0))) (oC (.int 1))))),(oV (oMod (oMod (oDiv (oN 3) (oC (.int 279))) (oC (.int 3))) (oAdd (oIx (oN 5) (oC (.int 1))) (oC (.int 1)))))]))
  (sSeq (sIf (asB (o2 eqF (oN 1) (oC (.int 1)))) (sSeq (sSet 4 (eLst [(oV (oC (.int 29))),(oV (oMod (oN 2) (oC (.int 4))))]))
  (sSeq (sSet 5 (eLst [(oV (oAdd (oC (.int 2)) (oMod (oN 3) (oC (.int 3))))),(oV (oC (.int 1)))]))
  (sSet 6 (eLst [(oV (oC (.int 2))),(oV (oC (.int 1)))])))) sNil)
  (sSeq (sIf (asB (o2 eqF (oN 1) (oC (.int 2)))) (sSeq (sSet 4 (eLst [(oV (oC (.int 30))),(oV (oAdd (oC (.int 27)) (oMod (oN 2) (oC (.int 4)))))]))
  (sSeq (sSet 5 (eLst [(oV (oC (.int 10))),(oV (oC (.int 1)))]))
  (sSet 6 (eLst [(oV (oMod (oN 3) (oC (.int 2)))),(oV (oC (.int 0)))])))) sNil)
  (sRet (eLst [(oV (oN 4)),(oV (oN 5)),(oV (oN 6))]))))))))))
noncomputable def yI:SS:=(sSeq (sSet 9 (qG xU [(.v (oV (oAdd (oC (.int 1)) (oMod (oN 6) (oC (.int 3)))))),(.v (oV (oMod (oN 8) (oC (.int 2))))),(.v (oV (oN 6)))]))
  (sSeq (sIf (bAnd (asB (oGt (oN 8) (oC (.int 0)))) (asB (oGe (oN 8) (oSub (oN 1) (oC (.int 2)))))) (sSet 9 (qG xB [(.v (oV (o2 mulS (oC (.str "h")) (oN 8)))),(.v (oV (oIx (oN 2) (oN 8))))])) sNil)
  (jU (eMu1 (pOf (oN 7)) (owS (svTup [(oV (oC (.str "def"))),(oV (o2 mulS (oC (.str "h")) (oAdd (oN 8) (oC (.int 1))))),(svTup [(oV (oC (.str "x")))]),(oV (oN 9))])) apF))))
noncomputable def qVv:SS:=(jU (eMu1 (pOf (oN 7)) (owS (svTup [(oV (oC (.str "again"))),(oV (oIx (oN 3) (oN 8))),(oV (oC (.str "y"))),(fzS (qG xU [(.v (oV (oIx (oN 4) (oN 8)))),(.v (oV (oIx (oN 5) (oN 8)))),(.v (oV (oAdd (oN 6) (oN 8))))]))])) apF))
noncomputable def wS:Fn:=fnS 3 8 (sSeq (sAsg (fzS (qG j8 [(.v (oV (oN 0)))])) (gL 3 (gCn (gN 3) (gCn (gN 4) (gCn (gN 5) gNl)))))
  (sSeq (sSet 6 (qG wF [(.v (fzS (qG qB [(.v (oV (oN 0))),(.v (oV (oC (.int 3))))]))),(.v (oV (oC (.int 1))))]))
  (sSeq (sSet 7 (eLst []))
  (sSeq (sFor (iL rg1 [(oV (oN 1))]) (gN 8) yI)
  (sSeq (jU (eMu1 (pOf (oN 7)) (owS (svTup [(oV (oC (.str "let"))),(oV (oC (.str "y"))),(svTup [(oV (oC (.str "num"))),(oV (oMod (oN 6) (oC (.int 1000000000000))))])])) apF))
  (sSeq (sFor (iL rg1 [(oV (oC (.int 2)))]) (gN 8) qVv)
  (sSeq (sSet 10 (owS (svTup [(oV (oC (.str "name"))),(oV (oC (.str "y")))])))
  (sSeq (sIf (bAnd (asB (oGt (oN 1) (oC (.int 0)))) (asB (oGt (oMod (oDiv (.v (fzS (qG qB [(.v (oV (oN 0))),(.v (oV (oC (.int 0))))]))) (oC (.int 5))) (oC (.int 3))) (oC (.int 0))))) (sSet 10 (qG xB [(.v (oV (o2 mulS (oC (.str "h")) (oN 1)))),(.v (oV (oIx (oN 2) (oC (.int 0)))))])) sNil)
  (sRet (eCat (oN 7) (.v (fzS (eLst [(svTup [(oV (oC (.str "see"))),(svTup [(oV (oC (.str "num"))),(oV (oC (.int 1)))])]),(svTup [(oV (oC (.str "ask"))),(oV (oN 10))])])))))))))))))
noncomputable def zU:Nat->Fn
 | 0=>fun _=>.no
 | h + 1=>fnS 2 4 (sSeq (sIf (asB (o2 eqF (oIx (oN 0) (oC (.int 0))) (oC (.str "op")))) (sSeq (sSet 2 (qG (zU h) [(.v (oV (oIx (oN 0) (oC (.int 2))))),(.v (oV (oN 1)))]))
   (sSeq (sSet 3 (qG (zU h) [(.v (oV (oIx (oN 0) (oC (.int 3))))),(.v (oV (oN 1)))]))
   (sRet (eLst [(oV (oAdd (oAdd (oC (.int 1)) (oIx (oN 2) (oC (.int 0)))) (oIx (oN 3) (oC (.int 0))))),(oV (oAdd (oIx (oN 2) (oC (.int 1))) (oIx (oN 3) (oC (.int 1)))))])))) sNil)
   (sSeq (sIf (asB (o2 eqF (oIx (oN 0) (oC (.int 0))) (oC (.str "call")))) (sSeq (sSet 4 (owS (oV (oIx (oN 1) (oIx (oN 0) (oC (.int 1)))))))
   (sSeq (sSet 5 (qG (zU h) [(.v (oV (oIx (oIx (oN 0) (oC (.int 2))) (oC (.int 0))))),(.v (oV (oN 1)))]))
   (sRet (eLst [(oV (oAdd (oAdd (oC (.int 1)) (oIx (oN 5) (oC (.int 0)))) (oIx (oN 4) (oC (.int 0))))),(oV (oAdd (oIx (oN 5) (oC (.int 1))) (oIx (oN 4) (oC (.int 1)))))])))) sNil)
   (sRet (eLst [(oV (oC (.int 1))),(oV (oL intD [(oOr (o2 eqF (oIx (oN 0) (oC (.int 0))) (oC (.str "flip"))) (o2 eqF (oIx (oN 0) (oC (.int 0))) (oC (.str "pick"))))]))]))))
noncomputable def wT:SS:=(sSeq (sSet 5 (qG (zU 30) [(.v (oV (oIx (oN 4) (o1 negD (oC (.int 1)))))),(.b (pOf (oN 1)))]))
  (sSeq (sSet 6 (owS (oV (oC (.int 1)))))
  (sSeq (sIf (asB (o2 eqF (oIx (oN 4) (oC (.int 0))) (oC (.str "def")))) (sSeq (sPutA (pOf (oN 1)) (pOf (oIx (oN 4) (oC (.int 1)))) (owS (oV (oN 5))))
  (sSet 6 (owS (oV (oC (.int 0)))))) sNil)
  (sSeq (sIf (asB (o2 eqF (oIx (oN 4) (oC (.int 0))) (oC (.str "again")))) (sSet 6 (owS (oV (oIx (oN 4) (oC (.int 1)))))) sNil)
  (sSeq (sSet 2 (owS (oV (oAdd (oN 2) (oMul (oN 6) (oIx (oN 5) (oC (.int 0))))))))
  (sSet 3 (owS (oV (oAdd (oN 3) (oMul (oN 6) (oIx (oN 5) (oC (.int 1)))))))))))))
noncomputable def yF:Fn:=fnS 1 6 (sSeq (sSet 1 eDct0)
  (sSeq (sSet 2 (owS (oV (oC (.int 0)))))
  (sSeq (sSet 3 (owS (oV (oC (.int 0)))))
  (sSeq (sFor (iV (oV (oN 0))) (gN 4) wT)
  (sRet (eLst [(oV (oN 2)),(oV (oN 3)),(oV (oL lenD [(oN 1)]))]))))))
noncomputable def qXc:SS:=(sSeq (sIf (bOr (asB (o1 (isxD [(24,false),(25,false)]) (oN 1))) (bOr (asB (o1 (isxD [(24,false),(25,false)]) (oN 1))) (bOr (asB (o1 (isxD [(24,false),(25,false)]) (oN 1))) (asB (o1 (isxD [(24,false),(25,false)]) (oN 1)))))) (sRet (eLst [(oV (oC (.str "other")))])) sNil)
  (sSeq (sIf (bOr (asB (o1 (isxD [(24,false),(25,false)]) (oN 1))) (bOr (asB (o1 (isxD [(24,false),(25,false)]) (oN 1))) (bNot (asB (o1 (isxD [(24,true),(25,true)]) (oN 1)))))) (sRet (eLst [(oV (oC (.str "other")))])) sNil)
  (sSeq (sIf (asB (o1 (isxD [(24,true),(25,false)]) (oN 1))) (sRet (eLst [(oV (oC (.str "name"))),(oV (o1 (xfD [24] "row") (oN 1))),(oV (o1 (isxD [(24,false),(25,true)]) (oN 1)))])) sNil)
  (sRet (eLst [(oV (oC (.str "much"))),(oV (o1 (isxD [(24,false),(25,true)]) (oN 1)))])))))
noncomputable def vU:Fn:=fnS 1 1 (sSeq (sTry zQ [(.v (oV (oN 0)))] (fun C=> [24,25].contains C) 1 qXc)
  (sRet (eLst [])))
noncomputable def vQs:SS:=(sIf (bOr (asB (oGt (oN 6) (oC (.int 3)))) (bOr (asB (oGt (oN 5) (oC (.int 60)))) (asB (oGt (oN 4) (oC (.int 600)))))) (sIf (asB (o2 neQ (.v (fzS (qG vU [(.v (oV (oN 7)))]))) (.v (fzS (eLst [(oV (oC (.str "much"))),(oV (oC (.bl true)))]))))) (sRet (owS (oV (oC (.bl false))))) sNil) (sIf (bOr (asB (o2 neQ (.v (fzS (qG vU [(.v (oV (oN 7)))]))) (.v (fzS (eLst []))))) (bOr (asB (o2 neF (.v (fzS (qG qXx [(.v (fzS (qG zQ [(.v (oV (oN 7)))])))]))) (oN 4))) (asB (o2 neF (oL lenD [(oFld [1] "draws" (.v (fzS (qG zQ [(.v (oV (oN 7)))]))))]) (oN 5))))) (sRet (owS (oV (oC (.bl false))))) sNil))
noncomputable def vKm:Fn:=fnS 1 8 (sSeq (sSet 1 (owS (oV (oMod (.v (fzS (qG wF [(.v (fzS (qG qB [(.v (oV (oN 0))),(.v (oV (oC (.int 4))))]))),(.v (oV (oC (.int 2))))]))) (oC (.int 6))))))
  (sSeq (sSet 2 (compS 2 [(1,0)] [0] (iL rg1 [(oV (oC (.int 6)))]) (gN 0) bTrue (oV (oAdd (oC (.int 1)) (oMod (.v (fzS (qG wF [(.v (fzS (qG qB [(.v (oV (oN 1))),(.v (oV (oC (.int 5))))]))),(.v (oV (oN 0)))]))) (oC (.int 6)))))))
  (sSeq (sIf (asB (o2 inD (oMod (.v (fzS (qG qB [(.v (oV (oN 0))),(.v (oV (oC (.int 0))))]))) (oC (.int 5))) (.v (svTup [(oV (oC (.int 1))),(oV (oC (.int 2)))])))) (sSet 1 (owS (oV (oMod (oN 1) (oC (.int 4)))))) sNil)
  (sSeq (sSet 3 (qG wS [(.v (oV (oN 0))),(.v (oV (oN 1))),(.v (oV (oN 2)))]))
  (sSeq (sIf (asB (o2 eqF (oMod (.v (fzS (qG qB [(.v (oV (oN 0))),(.v (oV (oC (.int 6))))]))) (oC (.int 5))) (oC (.int 1)))) (sSeq (sSet 3 (eCat (.v (fzS (eSlL (oN 3) none (some (oV (o1 negD (oC (.int 1)))))))) (.v (fzS (eLst [(svTup [(oV (oC (.str "ask"))),(svTup [(oV (oC (.str "op"))),(oV (oC (.str "+"))),(svTup [(oV (oC (.str "name"))),(oV (oC (.str "x")))]),(oV (oIx (oIx (oN 3) (o1 negD (oC (.int 1)))) (oC (.int 1))))])])])))))
  (sRet (owS (oV (o2 eqQ (.v (fzS (qG vU [(.v (oV (oN 3)))]))) (.v (fzS (eLst [(oV (oC (.str "name"))),(oV (oSub (oL lenD [(oN 3)]) (oC (.int 1)))),(oV (oC (.bl false)))])))))))) sNil)
  (sSeq (sAsg (fzS (qG yF [(.v (oV (oN 3)))])) (gL 3 (gCn (gN 4) (gCn (gN 5) (gCn (gN 6) gNl)))))
  (sSeq (sSet 7 (eF listD [(oN 3)]))
  (sSeq (sFor (iL rg1 [(oV (oC (.int 2)))]) (gN 8) vQs)
  (sRet (owS (oV (o2 eqQ (oN 7) (oN 3)))))))))))))
end X25
namespace DX
open PySem L2 PyProof.Rows
variable{γ:Type}{args e' env e1 e env':Ev}{C i j n:Nat}{it:SI}{g:SG}{h1 h0:Hn}{ss:List SV}{xs vs:List D}{XI:Res (List D×Ev)}{a0:Am}{body:SS}{as:List Am}{T:List Nat}{el:SV}{XV:Res (D×Ev)}{F:Fn}
section
variable{α β:Type}{X:Res β}{x:Res α}{a:α}{f:α->Res β}
theorem zW1(h:x=.ok a)(k:f a=X):x.bind f=X:=by subst h;exact k
theorem vD{b:Bool}{x y X:γ}(h:b=true)(k:x=X):cond b x y=X:=by subst h;exact k
theorem qH{b:Bool}{x y X:γ}(h:b=false)(k:y=X):cond b x y=X:=by subst h;exact k
end
section
variable{env e:Ev}{o:O}{d:D}{X:Res Out}{s t s1 s2:SS}{i n m:Nat}{a:SE}{v:SV}{b:ST}{q:Bool}
noncomputable def finO(n:Nat):Out->Res (O×Ev)
 |.nx e=>.ok (.fz .non,outs n e)
 |.rt r e=>.ok (r,outs n e)
 |_=>.no
theorem v7{o:Out}{X:Res (O×Ev)}(h:s (args ++ List.replicate m .un)=.ok o)(k:finO n o=X):fnS n m s args=X:=by
 unfold fnS;rw[h];cases o <;> exact k
theorem zI{fs:List (Str×D)}(h:s (args ++ List.replicate m .un)=.er C fs):fnS n m s args=.er C fs:=by
 unfold fnS;rw[h];rfl
theorem qM(k:t env=X):sSeq sNil t env=X:=k
theorem jH(k:sSeq s1 (sSeq s2 t) env=X):sSeq (sSeq s1 s2) t env=X:=by
 rw[←k];unfold sSeq;cases s1 env with
 |ok o=>cases o <;> rfl
 |er C fs=>rfl
 |no=>rfl
theorem qD(h:b env=.ok (q,e))(k:cond q (sSeq s1 t e) (sSeq s2 t e)=X):sSeq (sIf b s1 s2) t env=X:=by
 unfold sSeq sIf;rw[h];cases q <;> exact k
theorem qJj(h:a env=.ok (o,e))(k: .ok (.rt o e)=X):sSeq (sRet a) t env=X:=by
 unfold sSeq sRet;rw[h];exact k
theorem qZ(h:a env=.ok (o,e))(k:t (e.set i (.s false o))=X):sSeq (sSet i a) t env=X:=by
 unfold sSeq sSet;rw[h];exact k
theorem v8(h:a env=.ok (o,e))(k:t e=X):sSeq (jU a) t env=X:=by
 unfold sSeq jU;rw[h];exact k
theorem jK(h:s env=.ok (.nx e))(k:t e=X):sSeq s t env=X:=by
 unfold sSeq;rw[h];exact k
theorem jP{fs:List (Str×D)}(h:s env=.er C fs):sSeq s t env=.er C fs:=by
 unfold sSeq;rw[h];rfl
theorem vKw(h:s env=.ok (.rt o e))(k: .ok (.rt o e)=X):sSeq s t env=X:=by
 unfold sSeq;rw[h];exact k
theorem vN(h:b env=.ok (q,e))(k:cond q (s1 e) (s2 e)=X):sIf b s1 s2 env=X:=by
 unfold sIf;rw[h];exact k
theorem wX(h:a env=.ok (o,e))(k: .ok (.rt o e)=X):sRet a env=X:=by
 unfold sRet;rw[h];exact k
theorem qXd(h:a env=.ok (o,e))(k: .ok (.nx (e.set i (.s false o)))=X):sSet i a env=X:=by
 unfold sSet;rw[h];exact k
theorem wJ(h:a env=.ok (o,e))(k: .ok (.nx e)=X):jU a env=X:=by
 unfold jU;rw[h];exact k
theorem jD{ds:List D}(h:it env=.ok (ds,e))(k:forS g s ds e=X):sFor it g s env=X:=by
 unfold sFor;rw[h];exact k
theorem zQl(h:v env=.ok (d,e))(h2:g d e=some e')(k: .ok (.nx e')=X):sAsg v g env=X:=by
 unfold sAsg;rw[h];show(opt (g d e)).bind _=X;rw[h2];exact k
theorem qX2(h:v env=.ok (d,e)):qJ4 C v env=.er C []:=by
 unfold qJ4;rw[h];rfl
end
section
variable{env e e1 e2:Ev}{o:O}{d x y z:D}{a a1 a2:SE}{v v1 v2:SV}{b:ST}{q q1:Bool}{XE:Res (O×Ev)}{XV:Res (D×Ev)}{XB:Res (Bool×Ev)}{oa ob:Oe}
theorem wQ(h:v env=.ok (d,e))(k: .ok (.fz d,e)=XE):owS v env=XE:=by
 unfold owS;rw[h];exact k
theorem zR(h:a env=.ok (o,e))(k: .ok (fzO o,e)=XV):fzS a env=XV:=by
 unfold fzS;rw[h];exact k
theorem xC(h:oV oa env=.ok (d,e))(h2:blOf d=some q)(k: .ok (q,e)=XB):asB oa env=XB:=by
 unfold asB;rw[h];show(opt (blOf d)).bind _=_;rw[h2];exact k
theorem qVg{s t:ST}(h:s env=.ok (q,e))(k:cond q (t e) (.ok (false,e))=XB):bAnd s t env=XB:=by
 unfold bAnd;rw[h];exact k
theorem vQ3{s t:ST}(h:s env=.ok (q,e))(k:cond q (.ok (true,e)) (t e)=XB):bOr s t env=XB:=by
 unfold bOr;rw[h];exact k
theorem wZ{XH:Res (Hn×Ev)}(h:v env=.ok (d,e))(k: .ok (.d d,e)=XH):evO (.v v) env=XH:=by
 show(v env).bind _=_;rw[h];exact k
theorem qQ7{os:List Oe}{hs:List Hn}{XH:Res (List Hn×Ev)}(h:evO oa env=.ok (h1,e))(c:(h1.st || os.all Oe.isP)=true)(h2:evOs os e=.ok (hs,e1))(k: .ok (h1::hs,e1)=XH):evOs (oa::os) env=XH:=by
 show(evO oa env).bind _=_;rw[h];show cond (h1.st || os.all Oe.isP) ((evOs os e).bind _) _=_;rw[c,h2];exact k
theorem vV5{XH:Res (List Hn×Ev)}(k: .ok ([],env)=XH):evOs [] env=XH:=k
theorem zB{XH:Res (List D×Ev)}(k: .ok ([],env)=XH):evVs [] env=XH:=k
theorem qE{ds:List D}{XH:Res (List D×Ev)}(h:v env=.ok (d,e))(h2:evVs ss e=.ok (ds,e1))(k: .ok (d::ds,e1)=XH):evVs (v::ss) env=XH:=by
 show(v env).bind _=_;rw[h];show(evVs ss e).bind _=_;rw[h2];exact k
theorem qQ9{ds:List D}(h:evVs ss env=.ok (ds,e))(c:decide (ds.length<=1000)=true)(k: .ok (.tup ds,e)=XV):svTup ss env=XV:=by
 unfold svTup;rw[h];show cond (decide (ds.length<=1000)) _ _=_;grind
theorem vZq{ds:List D}(h:evVs ss env=.ok (ds,e))(c:decide (ds.length<=1000)=true)(k: .ok (.ow .lst (ds.map .fz),e)=XE):eLst ss env=XE:=by
 unfold eLst;rw[h];show cond (decide (ds.length<=1000)) _ _=_;grind
theorem vKv{f:D->D->Option D}{h2:Hn}(h:evO oa env=.ok (h1,e))(h' :evO ob e=.ok (h2,e1))(c:(h1.st || ob.isP)=true)(r1:rsv e1 h1=some x)(r2:rsv e1 h2=some y)(r3:f x y=some z)(k: .ok (z,e1)=XV):sv2 f oa ob env=XV:=by
 unfold sv2;rw[h];show(evO ob e).bind _=_;rw[h'];show cond (h1.st || ob.isP) ((opt (rsv e1 h1)).bind _) _=_;rw[c,r1];rw[r2];show(opt (f x y)).bind _=_;rw[r3];exact k
theorem zXy{f:List D->Option D}{os:List Oe}{hs:List Hn}(h:evOs os env=.ok (hs,e))(r1:rsvs e hs=some xs)(r3:f xs=some z)(k: .ok (z,e)=XV):svN f os env=XV:=by
 unfold svN;rw[h];show(opt (rsvs e hs)).bind _=_;rw[r1];show(opt (f xs)).bind _=_;rw[r3];exact k
theorem zXz{f:List D->Option D}{os:List Oe}{hs:List Hn}(h:evOs os env=.ok (hs,e))(r1:qQ2 hs e=.ok (xs,e1))(r3:f xs=some z)(k: .ok (z,e1)=XV):svA f os env=XV:=by
 unfold svA;rw[h];show(qQ2 hs e).bind _=_;rw[r1];show(opt (f xs)).bind _=_;rw[r3];exact k
theorem vKk{f:List D->Option (List D)}{os:List Oe}{hs:List Hn}{ds:List D}(h:evOs os env=.ok (hs,e))(r1:qQ2 hs e=.ok (xs,e1))(r3:f xs=some ds)(k: .ok (.ow .lst (ds.map .fz),e1)=XE):eF f os env=XE:=by
 unfold eF;rw[h];show(qQ2 hs e).bind _=_;rw[r1];show(opt (f xs)).bind _=_;rw[r3];exact k
theorem vJ1{ds:List D}(h:v env=.ok (d,e))(r:qWo d=some ds)(k: .ok (ds,e)=XI):iV v env=XI:=by
 unfold iV;rw[h];show(opt (qWo d)).bind _=_;rw[r];exact k
theorem qQm{f:List D->Option (List D)}{ds:List D}(h:evVs ss env=.ok (xs,e))(r:f xs=some ds)(k: .ok (ds,e)=XI):iL f ss env=XI:=by
 unfold iL;rw[h];show(opt (f xs)).bind _=_;rw[r];exact k
end
section
variable{env e e1:Ev}{F:Fn}{as:List Am}{hs:List Hn}{XE:Res (O×Ev)}{t0 t:List O×Ev}{args:Ev}{q:O×Ev}{os:List O}
theorem qU(h0:yO (jR as hs) env=some t0)(h1:yO (yM as hs) t0.2=some t)(h2:yS (jR as hs) t0.1 as hs t.1=some args)(h3:F args=.ok q)(h4:qWp as q.2=some os)(h5:qJ7 t0.1 q.1 os=true)(k: .ok (q.1,putS env (jR as hs) t0.1 (putS env (yM as hs) os t.2))=XE):wN F as hs env=XE:=by
 unfold wN;rw[h0];show(opt (yO (yM as hs) t0.2)).bind _=_;rw[h1];show(opt (yS (jR as hs) t0.1 as hs t.1)).bind _=_;rw[h2];show(F args).bind _=_;rw[h3];show(opt (qWp as q.2)).bind _=_;rw[h4];show cond (qJ7 t0.1 q.1 os) _ _=_;grind
theorem v5{fs:List (Str×D)}(h0:yO (jR as hs) env=some t0)(h1:yO (yM as hs) t0.2=some t)(h2:yS (jR as hs) t0.1 as hs t.1=some args)(h3:F args=.er C fs):wN F as hs env=.er C fs:=by
 unfold wN;rw[h0];show(opt (yO (yM as hs) t0.2)).bind _=_;rw[h1];show(opt (yS (jR as hs) t0.1 as hs t.1)).bind _=_;rw[h2];show(F args).bind _=_;rw[h3];rfl
theorem qL(h:evOs (as.map Am.o) env=.ok (hs,e))(k:wN F as hs e=XE):qG F as env=XE:=by
 unfold qG;rw[h];exact k
theorem vM{m:Str}(h:evO a0.o env=.ok (h0,e))(c:(qJh e h0 C m && (h0.st || (as.map Am.o).all Oe.isP))=true)(h2:evOs (as.map Am.o) e=.ok (hs,e1))(k:wN F (a0::as) (h0::hs) e1=XE):j5 C m F a0 as env=XE:=by
 unfold j5;rw[h];show cond (qJh e h0 C m && (h0.st || (as.map Am.o).all Oe.isP)) ((evOs (as.map Am.o) e).bind _) _=_;rw[c,h2];exact k
theorem vVy{m:Str}(h:evO a0.o env=.ok (h0,e))(c:(qJh e h0 C m && (h0.st || (as.map Am.o).all Oe.isP))=true)(h2:evOs (as.map Am.o) e=.ok (hs,e1))(h3:vJz hs=some (i,j))(k:qXn F (a0::as) (h0::hs) e1 i j=XE):qJg C m F a0 as env=XE:=by
 unfold qJg;rw[h];show cond (qJh e h0 C m && (h0.st || (as.map Am.o).all Oe.isP)) ((evOs (as.map Am.o) e).bind _) _=_;rw[c,h2];show(opt (vJz hs)).bind _=_;rw[h3];exact k
theorem zVq{o:O}{q:O×Ev}(h:getE env i [j]=some o)(h2:wN F as (hs.map (sbH i j (fzO o))) (setE env i [j] (.fz (fzO o)))=.ok q)(c:(stab env q.2 i [j] && ndO q.1 && (setE q.2 i [j] o).all ndS && isFz (getE q.2 i [j]) && dcFz o)=true)(k: .ok (q.1,setE q.2 i [j] o)=XE):qXn F as hs env i j=XE:=by
 unfold qXn;rw[h];show(wN F as (hs.map (sbH i j (fzO o))) (setE env i [j] (.fz (fzO o)))).bind _=_;rw[h2];show cond (stab env q.2 i [j] && ndO q.1 && (setE q.2 i [j] o).all ndS && isFz (getE q.2 i [j]) && dcFz o) _ _=_;rw[c];exact k
theorem vWt{q:O×Ev}{r:O×Ev}(h:evOs (as.map Am.o) env=.ok (hs,e))(h2:wN F (.io e.length::as) (.p e.length []::hs) (e ++ [.s false (.ow (.obj C []) [])])=.ok (.fz .non,e1))(h3:popL e1 e.length=some r)(k: .ok r=XE):qWs C F as env=XE:=by
 unfold qWs;rw[h];show(wN F (.io e.length::as) (.p e.length []::hs) (e ++ [.s false (.ow (.obj C []) [])])).bind _=_;rw[h2];show opt (popL e1 e.length)=_;rw[h3];exact k
end
section
variable{env e e1:Ev}{s k:SP}{a:SE}{v:SV}{i j:Nat}{π:List Nat}{o x:O}{os:List O}{XE:Res (O×Ev)}{X:Res Out}
theorem qVf{f:List O->O->Option (O×List O)}{os0:List O}{z:O×List O}(h:s env=some (.p i π))(h0:qVu env i π=some os0)(h1:a env=.ok (x,e))(h2:qVu e i π=some os)(c:stab env e i π=true)(h3:f os x=some z)(k: .ok (z.1,setE e i π (.ow .lst z.2))=XE):eMu1 s a f env=XE:=by
 unfold eMu1;rw[h];show(opt (qVu env i π)).bind _=_;rw[h0];rw[h1];show(opt (qVu e i π)).bind _=_;rw[h2];show cond (stab env e i π) ((opt (f os x)).bind _) _=_;rw[c,h3];exact k
theorem qXf{hk:Hn}{y:D}{key:Key}{q:List Key×List O}(h1:a env=.ok (x,e))(h:s e=some (.p i π))(h2:k e=some hk)(h3:rsv e hk=some y)(h4:qWu y=some key)(h5:qXr e i π=some q)(c:decide (q.2.length<=lim)=true)(w: .ok (.nx (setE e i π (putO q.1 q.2 key x)))=X):qY4 s k a env=X:=by
 unfold qY4;rw[h1];show(opt (s e)).bind _=_;rw[h];show(opt (k e)).bind _=_;rw[h2];show(opt (rsv e hk)).bind _=_;rw[h3];show(opt (qWu y)).bind _=_;rw[h4];show(opt (qXr e i π)).bind _=_;rw[h5];show cond (decide (q.2.length<=lim)) _ _=_;rw[c];exact w
theorem qK6{o:Out}(h:qY4 s k a env=.ok o)(w: .ok o=X):sPutA s k a env=X:=by
 unfold sPutA;rw[h];exact w
theorem vWg{cs:List Nat}{f:Str}{q:Nat×List Str×List O}{o' :O}(h1:a env=.ok (x,e))(h:s e=some (.p i π))(h2:qWr e i π=some q)(c:(cs.contains q.1 && decide (q.2.2.length<=999))=true)(h3:qY5 q.1 q.2.1 q.2.2 f x=some o')(w: .ok (.nx (setE e i π o'))=X):qQ1 cs f s a env=X:=by
 unfold qQ1;rw[h1];show(opt (s e)).bind _=_;rw[h];show(opt (qWr e i π)).bind _=_;rw[h2];show cond (cs.contains q.1 && decide (q.2.2.length<=999)) ((opt (qY5 q.1 q.2.1 q.2.2 f x)).bind _) _=_;rw[c,h3];exact w
end
theorem vJ{d:D}{ds:List D}{e2:Ev}{X:Res Out}(h1:g d env=some e1)(h2:body e1=.ok (.nx e2))(k:forS g body ds e2=X):forS g body (d::ds) env=X:=by
 show(opt (g d env)).bind _=_;rw[h1];show(body e1).bind _=_;rw[h2];exact k
theorem qVh{d:D}{ds:List D}{fs:List (Str×D)}(h1:g d env=some e1)(h2:body e1=.er C fs):forS g body (d::ds) env=.er C fs:=by
 show(opt (g d env)).bind _=_;rw[h1];show(body e1).bind _=_;rw[h2];rfl
section
variable{env e e1 e2:Ev}{o:O}{d x y z:D}{h1 h2 h3:Hn}{oa ob:Oe}{XV:Res (D×Ev)}{XH:Res (Hn×Ev)}{f:D->D->Option D}{f1:D->Option D}
theorem zL(h:evO oa env=.ok (h1,e))(k:hnV e h1=XV):oV oa env=XV:=by
 cases oa with
 | p s=>
   change (opt (s env)).bind _=_ at h;show(opt (s env)).bind _=_;cases q:s env with
   |none=>rw[q]at h;cases h
   |some a=>rw[q]at h;cases h;exact k
 | v s=>
   change (s env).bind _=_ at h;show s env=_;cases q:s env with
   |no=>rw[q]at h;cases h
   |er C fs=>rw[q]at h;cases h
   |ok a=>rw[q]at h;cases h;exact k
theorem qJw{s:SP}(h:s env=some h1)(k: .ok (h1,env)=XH):evO (.p s) env=XH:=by
 show(opt (s env)).bind _=_;rw[h];exact k
theorem qXj{s:SP}(h:evO (.p s) env=.ok (h1,e)):s env=some h1/\e=env:=by
 change (opt (s env)).bind _=_ at h;cases q:s env with
 |none=>rw[q]at h;cases h
 |some a=>rw[q]at h;cases h;exact⟨rfl,rfl⟩
theorem vG(h:evO oa env=.ok (h1,e))(h' :evO ob e=.ok (h2,e1))(c:(h1.st || ob.isP)=true)(r1:rsv e1 h1=some x)(r2:rsv e1 h2=some y)(r3:f x y=some z)(k: .ok (.d z,e1)=XH):evO (o2 f oa ob) env=XH:=by
 cases oa with
 |v s=>exact wZ (vKv h h' c r1 r2 r3 rfl) k
 | p s=>
   cases ob with
   |v t=>exact wZ (vKv h h' c r1 r2 r3 rfl) k
   | p t=>
     obtain⟨q1,rfl⟩:=qXj h;obtain⟨q2,rfl⟩:=qXj h';refine qJw (h1:=.d z) ?_ k;show(s _).bind _=_;grind
theorem xE(h:evO oa env=.ok (h1,e))(h' :evO ob e=.ok (h2,e1))(c:(h1.st || (oa.isP && ob.isP))=true)(r:rsv e1 h2=some y)(r3:hnIx e1 y h1=some (.d z))(k: .ok (.d z,e1)=XH):evO (oIx oa ob) env=XH:=by
 have vv:∀(hc:h1.st=true),((evO oa env).bind fun r=>(evO ob r.2).bind fun r' =>cond r.1.st ((opt (rsv r'.2 r'.1)).bind fun y=>(opt (hnIx r'.2 y r.1)).bind fun h=>hnV r'.2 h) .no)=.ok (z,e1):=fun hc=>by
  rw[h];show(evO ob e).bind _=_;rw[h'];show cond h1.st ((opt (rsv e1 h2)).bind _) _=_;rw[hc,r];show(opt (hnIx e1 y h1)).bind _=_;rw[r3];rfl
 cases oa with
 |v s=>exact wZ (vv (by simpa[Oe.isP] using c)) k
 | p s=>
   cases ob with
   |v t=>exact wZ (vv (by simpa[Oe.isP] using c)) k
   | p t=>
     obtain⟨q1,rfl⟩:=qXj h;obtain⟨q2,rfl⟩:=qXj h';refine qJw (h1:=.d z) ?_ k;grind
theorem vKi{os:List Oe}{g:List D->Option D}{hs:List Hn}(h:evOs os env=.ok (hs,e))(r1:rsvs e hs=some xs)(r3:g xs=some z)(k: .ok (.d z,e)=XH):evO (oL g os) env=XH:=by
 have vv:=zXy h r1 r3 rfl;unfold oL;split
 ·rename_i s;have h:=h;change ((opt (s env)).bind _).bind _=_ at h;cases q:s env with
  |none=>rw[q]at h;cases h
  | some a=>
    rw[q]at h;change cond (a.st || ([]:List Oe).all Oe.isP) (Res.ok ([a],env)) Res.no=_ at h;cases w:(a.st || ([]:List Oe).all Oe.isP) with
    |false=>rw[w]at h;cases h
    | true=>
      rw[w]at h;cases h;refine qJw (h1:=.d z) ?_ k;rw[q];show(rsv env a).bind _=_;change ((rsv env a).bind _)=some xs at r1;obtain⟨x,e1,r1⟩:=cC.mp r1;cases r1;rw[e1];show(g [x]).bind _=_;rw[r3];rfl
 ·exact wZ vv k
theorem vQ{XH:Res (List Hn×Ev)}(k: .ok ([],env)=XH):evOs (([]:List Am).map Am.o) env=XH:=k
theorem vZ{s:SV}{hs:List Hn}{XH:Res (List Hn×Ev)}(h:s env=.ok (d,e))(h2:evOs (as.map Am.o) e=.ok (hs,e1))(k: .ok (.d d::hs,e1)=XH):evOs ((Am.v s::as).map Am.o) env=XH:=qQ7 (wZ h rfl) rfl h2 k
theorem vKj{s:SP}{hs:List Hn}{XH:Res (List Hn×Ev)}(h:s env=some h1)(c:(h1.st || (as.map Am.o).all Oe.isP)=true)(h2:evOs (as.map Am.o) env=.ok (hs,e1))(k: .ok (h1::hs,e1)=XH):evOs ((Am.b s::as).map Am.o) env=XH:=qQ7 (qJw h rfl) c h2 k
end
theorem vX0{f:Str}{v:SV}{d:D}(h:v env=.ok (d,e)):yK C f v env=.er C [(f,d)]:=by
 unfold yK;rw[h];rfl
theorem qJo{cs:List (Nat×Nat)}{t:ST}{q:Ev}{ds:List D}{XE:Res (O×Ev)}(h:it env=.ok (ds,e))(c:(vJ6 cs T n e.length && decide (ds.length<=lim))=true)(h2:yC g t el ds (capS cs .un e 0 n)=.ok (vs,q))(k: .ok (.ow .lst (vs.map .fz),putI cs 0 q (qVs cs 0 n e))=XE):compS n cs T it g t el env=XE:=by
 unfold compS;rw[h];show cond (vJ6 cs T n e.length && decide (ds.length<=lim)) ((yC g t el ds (capS cs .un e 0 n)).bind _) _=_;rw[c,h2];exact k
theorem compL_ok{t:ST}(R:Ev->Prop)(p:D->Option D):∀{ds:List D} {env:Ev},(∀d e,d∈ds->R e->∃e1,g d e=some e1/\((∃e2 v e3,t e1=.ok (true,e2)/\el e2=.ok (v,e3)/\p d=some v/\R e3)\/(∃e2,t e1=.ok (false,e2)/\p d=none/\R e2)))->R env->∃e',yC g t el ds env=.ok (ds.filterMap p,e')/\R e'
 |[],env,_,r=>⟨env,rfl,r⟩
 | d::ds,env,h,r=>by
   obtain⟨e1,h1,h2⟩:=h d env (by simp) r;have ih:=fun {env:Ev} (r:R env)=>compL_ok R p (fun d e hd r=>h d e (aC _ hd) r) (env:=env) r
   rcases h2 with⟨e2,v,e3,a1,a2,a3,a4⟩|⟨e2,a1,a3,a4⟩
   ·obtain⟨e',b1,b2⟩:=ih a4;refine⟨e',?_,b2⟩;show(opt (g d env)).bind _=_;rw[h1];show((t e1).ne).bind _=_;rw[a1];show((el e2).ne).bind _=_;rw[a2];show(yC g t el ds e3).bind _=_;rw[b1,cG,a3];rfl
   ·obtain⟨e',b1,b2⟩:=ih a4;refine⟨e',?_,b2⟩;show(opt (g d env)).bind _=_;rw[h1];show((t e1).ne).bind _=_;rw[a1];show yC g t el ds e2=_;rw[b1,cG,a3]
theorem compL_map(R:Ev->Prop)(p:D->D){ds:List D}(h:∀d e,d∈ds->R e->∃e1 e3,g d e=some e1/\el e1=.ok (p d,e3)/\R e3)(r:R env):∃e',yC g bTrue el ds env=.ok (ds.map p,e')/\R e' :=by
 obtain⟨e',a,b⟩:=compL_ok (g:=g) (t:=bTrue) (el:=el) R (fun d=>some (p d)) (fun d e hd r=>by
  obtain⟨e1,e3,h1,h2,h3⟩:=h d e hd r;exact⟨e1,h1,.inl ⟨e1,p d,e3,rfl,h2,rfl,h3⟩⟩) r
 refine⟨e',?_,b⟩;rw[a];congr 2;rw[List.filterMap_eq_map' (f:=p)]
theorem vQl:∀ds:List D,fzOs (ds.map .fz)=ds
 |[]=>rfl
 |d::ds=>by show fzO (.fz d)::fzOs (ds.map .fz)=_;rw[vQl ds];rfl
theorem zX{k:Kd}(ds:List D):fzO (.ow k (ds.map .fz))=.nd k ds:=by show D.nd k (fzOs _)=_;rw[vQl]
theorem vYp{cs:List (Nat×Nat)}{t:ST}{q:Ev}{ds:List D}(h:it env=.ok (ds,e))(c:(vJ6 cs T n e.length && decide (ds.length<=lim))=true)(h2:yC g t el ds (capS cs .un e 0 n)=.ok (vs,q))(k: .ok (.nd .lst vs,putI cs 0 q (qVs cs 0 n e))=XV):fzS (compS n cs T it g t el) env=XV:=zR (qJo h c h2 rfl) (by rw[zX];exact k)
theorem vW2{f:List D->Option (List D)}{os:List Oe}{hs:List Hn}{ds:List D}(h:evOs os env=.ok (hs,e))(r1:qQ2 hs e=.ok (xs,e1))(r3:f xs=some ds)(k: .ok (.nd .lst ds,e1)=XV):fzS (eF f os) env=XV:=zR (vKk h r1 r3 rfl) (by rw[zX];exact k)
theorem qJv{ds:List D}(h:evVs ss env=.ok (ds,e))(c:decide (ds.length<=1000)=true)(k: .ok (.nd .lst ds,e)=XV):fzS (eLst ss) env=XV:=zR (vZq h c rfl) (by rw[zX];exact k)
section
variable{env:Ev}{o:O}{d:D}{X:Res Out}{s t s1 s2:SS}{i:Nat}{a:SE}{b:ST}{q:Bool}
theorem zZ0(h:b env=.ok (q,env))(k:cond q (sSeq s1 t env) (sSeq s2 t env)=X):sSeq (sIf b s1 s2) t env=X:=qD h k
theorem zQw(h:a env=.ok (o,env))(k:t (env.set i (.s false o))=X):sSeq (sSet i a) t env=X:=qZ h k
theorem zKx{x:SV}{hs:List Hn}{XH:Res (List Hn×Ev)}(h:x env=.ok (d,env))(h2:evOs (as.map Am.o) env=.ok (hs,e1))(k: .ok (.d d::hs,e1)=XH):evOs ((Am.v x::as).map Am.o) env=XH:=vZ h h2 k
end
theorem zKy{d:D}{a:SE}{hs:List Hn}{XH:Res (List Hn×Ev)}(h:fzS a env=.ok (d,e))(h2:evOs (as.map Am.o) e=.ok (hs,e1))(k: .ok (.d d::hs,e1)=XH):evOs ((Am.v (fzS a)::as).map Am.o) env=XH:=vZ h h2 k
theorem fnx{args':Ev}{r:Res (O×Ev)}(h:F args' =r)(e:args=args'):F args=r:=by rw[e];exact h
theorem qJn{b:SS}{ds ds' :List D}{r:Res Out}(h:forS g b ds' e' =r)(h1:ds=ds')(h2:e=e'):forS g b ds e=r:=by rw[h1,h2];exact h
theorem vYq{o:O}(h:qG F as env=.ok (o,e))(k: .ok (fzO o,e)=XV):fzS (qG F as) env=XV:=zR h k
theorem qQj{s t:SS}{X:Res Out}(h:s env' =.ok (.nx e))(he:env=env')(k:t e=X):sSeq s t env=X:=by rw[he];exact jK h k
theorem sAt{s:SS}{X:Res Out}(h:s env' =X)(he:env=env'):s env=X:=by rw[he];exact h
end DX
namespace FM
open PySem L2 DX FP PyProof.Rows
variable{i a C n m b:Nat}{os:List O}{α β:Type}{w:List (Int×Int)}{q:OT×Sd}{ν:Nm}{env e rest:Ev}{no:O}{io:Bool}{x5 x7 x8 x9 x10 k3:Slot}{g:Sg}{hk:Hn}{o':Os}{P:Os->Prop}{K:Nm->Prop}
local macro_rules | `(tactic|array_get_dec)=>`(tactic|first
 |with_reducible refine' v7 ?_ ?_
 |with_reducible refine' jH ?_
 |((with_reducible refine' zZ0 (q:=?q) ?h ?k);(case h=>rfl))
 |with_reducible refine' qD ?_ ?_
 |with_reducible refine' qM ?_
 |with_reducible refine' qJj ?_ ?_
 |((with_reducible refine' zQw (o:=?o) ?h ?k);(case h=>rfl))
 |with_reducible refine' qZ ?_ ?_
 |with_reducible refine' v8 ?_ ?_
 |with_reducible refine' jK ?_ ?_
 |with_reducible refine' vN ?_ ?_
 |with_reducible refine' wX ?_ ?_
 |with_reducible refine' qXd ?_ ?_
 |with_reducible refine' wJ ?_ ?_
 |with_reducible refine' jD ?_ ?_
 |((with_reducible refine' vD ?_ ?_);rfl)
 |((with_reducible refine' qH ?_ ?_);rfl)
 |((with_reducible refine' vD ?_ ?_);assumption)
 |((with_reducible refine' qH ?_ ?_);assumption)
 |with_reducible refine' zKy ?_ ?_ ?_
 |((with_reducible refine' zKx (d:=?d) ?h ?g ?k);(case h=>rfl))
 |with_reducible refine' vZ ?_ ?_ ?_
 |with_reducible refine' vKj ?_ ?_ ?_ ?_
 |with_reducible refine' vYp ?_ ?_ ?_ ?_
 |with_reducible refine' vW2 ?_ ?_ ?_ ?_
 |with_reducible refine' qJv ?_ ?_ ?_
 |with_reducible refine' vYq ?_ ?_
 |with_reducible refine' qL ?_ ?_
 |with_reducible refine' qU ?_ ?_ ?_ ?_ ?_ ?_ ?_
 |with_reducible refine' vM ?_ ?_ ?_ ?_
 |with_reducible refine' vWt ?_ ?_ ?_ ?_
 |with_reducible refine' vJ1 ?_ ?_ ?_
 |with_reducible refine' qQm ?_ ?_ ?_
 |rfl
 |with_reducible refine' wQ ?_ ?_
 |with_reducible refine' zR ?_ ?_
 |with_reducible refine' xC ?_ ?_ ?_
 |with_reducible refine' qVg ?_ ?_
 |with_reducible refine' vQ3 ?_ ?_
 |with_reducible refine' qQ9 ?_ ?_ ?_
 |with_reducible refine' vZq ?_ ?_ ?_
 |with_reducible refine' qE ?_ ?_ ?_
 |with_reducible refine' zL ?_ ?_
 |with_reducible refine' wZ ?_ ?_
 |with_reducible refine' vG ?_ ?_ ?_ ?_ ?_ ?_ ?_
 |with_reducible refine' xE ?_ ?_ ?_ ?_ ?_ ?_
 |with_reducible refine' vKi ?_ ?_ ?_ ?_
 |with_reducible refine' qQ7 ?_ ?_ ?_ ?_
 |with_reducible refine' vKk ?_ ?_ ?_ ?_
 |with_reducible refine' zXz ?_ ?_ ?_ ?_
 |with_reducible refine' qVf ?_ ?_ ?_ ?_ ?_ ?_ ?_
 |with_reducible refine' qK6 ?_ ?_
 |with_reducible refine' qXf ?_ ?_ ?_ ?_ ?_ ?_ ?_ ?_
 |with_reducible refine' vWg ?_ ?_ ?_ ?_ ?_ ?_
 |with_reducible refine' qJo ?_ ?_ ?_ ?_)
inductive Sg where
 |add|sub|mul|eq|lt
def Sg.s:Sg->Str
 |.add =>"+" |.sub =>"-" |.mul =>"*" |.eq =>"=" |.lt =>"<"

inductive OT where
 |num (n:Int)|slot (i:Int)|draw (i:Nat)
 |op (s:Sg) (a b:OT)|rest (a:OT) (n:Int)|field (a:OT) (x:Str)
 |ite (c a b:OT)|rcd (xs:List Str) (as:List OT)|bind (i:Int) (a b:OT)
mutual
def OT.d:OT->D
 |.num n=>.tup [.str "num",.int n]
 |.slot i=>.tup [.str "slot",.int i]
 |.draw i=>.tup [.str "draw",.int (i:Nat)]
 |.op s a b=>.tup [.str "op",.str s.s,a.d,b.d]
 |.rest a n=>.tup [.str "rest",a.d,.int n]
 |.field a x=>.tup [.str "field",a.d,.str x]
 |.ite c a b=>.tup [.str "if",c.d,a.d,b.d]
 |.rcd xs as=>.tup [.str "record",.tup (zipD (xs.map .str) (OT.ds as))]
 |.bind i a b=>.tup [.str "bind",.int i,a.d,b.d]
def OT.ds:List OT->List D
 |[]=> []
 |a::r=>a.d::OT.ds r
end
theorem zQi:∀as:List OT,OT.ds as=as.map OT.d
 |[]=>rfl
 |a::r=>by rw[OT.ds,zQi r];rfl
noncomputable def drD(w:List (Int×Int)):D:=.nd .lst (w.map fun p=>.tup [.int p.1,.int p.2])
noncomputable abbrev Dw:=List (List (Int×Int))
noncomputable def drsD(dd:Dw):D:=.nd .lst (dd.map drD)

theorem qYa{ds:List D}{d:D}(e:ds[i]?=some d):ixD (.nd .lst ds) (.int (i:Nat))=some d:=by
 have hl:=(aH.mp e).1;have:ixN ds.length (i:Int)=some i:=by
  unfold ixN;simp[hl]
 show((ixN ds.length (i:Int)).bind fun j=>ds[j]?)=_;rw[this];exact e
theorem qQ6{lo:List O}{r:O}(h1:qXo r=true)(h2:flatOs os=true):qJ7 lo r os=true:=by
 unfold qJ7;rw[h1,h2];simp

theorem qYk(x n:D):qO [.s false (.fz (.tup [.str "rest",x,n]))]=.ok (.ow .lst [.fz x],[.un]):=by kernel_rfl
theorem qWx(x n:D):qO [.s false (.fz (.tup [.str "field",x,n]))]=.ok (.ow .lst [.fz x],[.un]):=by kernel_rfl
theorem qV6(g x y:D):qO [.s false (.fz (.tup [.str "op",g,x,y]))]=.ok (.ow .lst [.fz x,.fz y],[.un]):=by kernel_rfl
section
variable{hl:List (Nat×Fn)}{dd:Dw}
noncomputable abbrev fz(d:D):Slot:=.s false (.fz d)
end

section
variable{κ α:Type}[DecidableEq κ]
def getA:List (κ×α)->κ->Option α
 |[],_=>none
 |p::r,k=>if p.1=k then some p.2 else getA r k
noncomputable def putA:List (κ×α)->κ->α->List (κ×α)
 |[],k,v=> [(k,v)]
 |p::r,k,v=>if p.1=k then(k,v)::r else p::putA r k v
theorem j7:∀{l:List (κ×α)} {i j:κ} {v:α},getA (putA l i v) j=if i=j then some v else getA l j
 |[],i,j,v=>rfl
 | p::r,i,j,v=>by
   unfold putA;by_cases h:p.1=i
   ·rw [if_pos h];show(if i=j then some v else getA r j)=if i=j then some v else(if p.1=j then some p.2 else getA r j)
    grind
   ·rw [if_neg h];show(if p.1=j then some p.2 else getA (putA r i v) j)=if i=j then some v else(if p.1=j then some p.2 else getA r j)
    rw[j7];grind
theorem xF:∀{l:List (κ×α)} {i:κ} {v:α},(putA l i v).length <=l.length+1
 |[],i,v=>by show 1<=0+1;omega
 | p::r,i,v=>by
   unfold putA;by_cases h:p.1=i
   ·rw[if_pos h];simp
   ·rw [if_neg h];have:=xF (l:=r) (i:=i) (v:=v);simp only[aY];omega
noncomputable def qR(kx:κ->Key)(l:List (κ×α)):List Key:=l.map fun p=>kx p.1
variable{kx:κ->Key}(inj:∀a b,kx a=kx b->a=b)(dv:κ×α->D)
include inj in
theorem qWt:∀{l:List (κ×α)} {i:κ} {v:α},getA l i=some v->∃j,kidx (kx i) (qR kx l)=some j/\(l.map dv)[j]?=some (dv (i,v))/\(l.map fun p=>O.fz (dv p))[j]?=some (.fz (dv (i,v)))
 |[],i,v,e=>by cases e
 | p::r,i,v,e=>by
   unfold getA at e;by_cases z:p.1=i
   ·rw [if_pos z] at e;cases e;subst z;refine⟨0,?_,rfl,rfl⟩;show(if kx p.1=kx p.1 then some 0 else _)=_;rw[if_pos rfl]
   ·rw [if_neg z] at e;obtain⟨j,h1,h2,h3⟩:=qWt e;refine⟨j+1,?_,h2,h3⟩;show(if kx p.1=kx i then some 0 else(kidx (kx i) (qR kx r)).map (· + 1))=_;rw[if_neg (fun q=>z (inj _ _ q)),h1];rfl
include inj in
theorem qJa:∀{l:List (κ×α)} {i:κ},getA l i=none->kidx (kx i) (qR kx l)=none
 |[],i,e=>rfl
 | p::r,i,e=>by
   unfold getA at e;by_cases z:p.1=i
   ·rw[if_pos z]at e;cases e
   ·rw [if_neg z] at e;show(if kx p.1=kx i then some 0 else(kidx (kx i) (qR kx r)).map (· + 1))=_;rw[if_neg (fun q=>z (inj _ _ q)),qJa e];rfl
include inj in
theorem qK5{l:List (κ×α)}{i:κ}{v:α}:putO (qR kx l) (l.map fun p=>.fz (dv p)) (kx i) (.fz (dv (i,v)))=.ow (.dct (qR kx (putA l i v))) ((putA l i v).map fun p=>.fz (dv p)):=by
 have g:∀l:List (κ×α),(∀j,kidx (kx i) (qR kx l)=some j->qR kx (putA l i v)=qR kx l/\((putA l i v).map fun p=>O.fz (dv p))=(l.map fun p=>O.fz (dv p)).set j (.fz (dv (i,v))))/\(kidx (kx i) (qR kx l)=none->qR kx (putA l i v)=qR kx l ++ [kx i]/\((putA l i v).map fun p=>O.fz (dv p))=(l.map fun p=>O.fz (dv p)) ++ [.fz (dv (i,v))]):=by
  intro l;induction l with
  |nil=>exact⟨fun j h=>(by cases h),fun _=>⟨rfl,rfl⟩⟩
  | cons p r ih=>
    have e:kidx (kx i) (qR kx (p::r))=if kx p.1=kx i then some 0 else(kidx (kx i) (qR kx r)).map (· + 1):=rfl
    unfold putA;by_cases z:p.1=i
    ·have z' :kx p.1=kx i:=by rw [z]
     rw[if_pos z,e,if_pos z'];refine⟨fun j h=>?_,fun h=>(by cases h)⟩;cases h;exact⟨by show kx i::_=kx p.1::_;rw[z],rfl⟩
    ·have z' :¬kx p.1=kx i:=fun q=>z (inj _ _ q)
     rw[if_neg z,e,if_neg z'];refine⟨fun j h=>?_,fun h=>?_⟩
     ·cases q:kidx (kx i) (qR kx r) with
      |none=>rw[q]at h;cases h
      | some k=>
        rw[q]at h;cases h;obtain⟨a,b⟩:=ih.1 k q;exact⟨by show _::qR kx (putA r i v)=_;rw[a];rfl,by show _::((putA r i v).map fun p=>O.fz (dv p))=_;rw[b];rfl⟩
     ·cases q:kidx (kx i) (qR kx r) with
      |some k=>rw[q]at h;cases h
      | none=>
        obtain⟨a,b⟩:=ih.2 q;exact⟨by show _::qR kx (putA r i v)=_;rw[a];rfl,by show _::((putA r i v).map fun p=>O.fz (dv p))=_;rw[b];rfl⟩
 unfold putO;cases q:kidx (kx i) (qR kx l) with
 |some j=>obtain⟨a,b⟩:=(g l).1 j q;dsimp only;rw[a,b]
 |none=>obtain⟨a,b⟩:=(g l).2 q;dsimp only;rw[a,b]
end
theorem wP:∀a b:Str,(Sum.inr a:Key)=Sum.inr b->a=b:=fun _ _ h=>Sum.inr.inj h
inductive Tm where
 |num (n:Int)|name (x:Str)|flip (a b:Int)|pick (ps:List (Int×Int))
 |op (s:Sg) (a b:Tm)|rest (a:Tm) (n:Int)|field (a:Tm) (x:Str)
 |ite (c a b:Tm)|rcd (xs:List Str) (as:List Tm)|call (f:Str) (as:List Tm)
abbrev prI(p:Int×Int):D:=.tup [.int p.1,.int p.2]
mutual
def Tm.d:Tm->D
 |.num n=>.tup [.str "num",.int n]
 |.name x=>.tup [.str "name",.str x]
 |.flip a b=>.tup [.str "flip",.int a,.int b]
 |.pick ps=>.tup [.str "pick",.tup (ps.map prI)]
 |.op s a b=>.tup [.str "op",.str s.s,a.d,b.d]
 |.rest a n=>.tup [.str "rest",a.d,.int n]
 |.field a x=>.tup [.str "field",a.d,.str x]
 |.ite c a b=>.tup [.str "if",c.d,a.d,b.d]
 |.rcd xs as=>.tup [.str "record",.tup (zipD (xs.map .str) (Tm.ds as))]
 |.call f as=>.tup [.str "call",.str f,.tup (Tm.ds as)]
def Tm.ds:List Tm->List D
 |[]=> []
 |a::r=>a.d::Tm.ds r
end
theorem qZp:∀as:List Tm,Tm.ds as=as.map Tm.d
 |[]=>rfl
 |a::r=>by rw[Tm.ds,qZp r];rfl
mutual
noncomputable def Tm.wf:Tm->Prop
 |.num _=>True
 |.name _=>True
 |.flip _ _=>True
 |.pick _=>True
 |.op _ a b=>a.wf/\b.wf
 |.rest a _=>a.wf
 |.field a _=>a.wf
 |.ite c a b=>c.wf/\a.wf/\b.wf
 |.rcd xs as=>xs.length=as.length/\as.length<=6/\Tm.wfs as
 |.call _ as=>as.length<=100/\Tm.wfs as
noncomputable def Tm.wfs:List Tm->Prop
 |[]=>True
 |a::r=>a.wf/\Tm.wfs r
end
structure Sd where
 dr:Dw
 sl:Int
 tm:Int
noncomputable abbrev Nm:=List (Str×Int)
noncomputable abbrev Hs:=List (Str×(List Str×Tm))
noncomputable abbrev nmv:Str×Int->D:=fun p=>.int p.2
noncomputable def rowD(p:Str×(List Str×Tm)):D:=.tup [.str "def",.str p.1,.tup (p.2.1.map .str),p.2.2.d]
noncomputable def nmD(ν:Nm):D:=.nd (.dct (qR Sum.inr ν)) (ν.map nmv)
noncomputable def opO(hs:Hs)(no:O)(st:List O)(s:Sd):O:=.ow (.obj 2 ["helpers","names","steps","draws","slots","terms"]) [.ow (.dct (qR Sum.inr hs)) (hs.map fun p=>.fz (rowD p)),no,.ow .lst st,.ow .lst (s.dr.map fun w=>.fz (drD w)),.fz (.int s.sl),.fz (.int s.tm)]
noncomputable def count(s:Sd):Res Sd:=if s.tm<600 then .ok {s with tm:=s.tm+1} else .er 25 []
noncomputable def jN(w:List (Int×Int))(s:Sd):Res (OT×Sd):=if s.dr.length<60 then .ok (.draw s.dr.length,{s with dr:=s.dr ++ [w]}) else .er 25 []
noncomputable def qVt(R:Tm->Sd->Res (OT×Sd)):List Tm->Sd->Res (List OT×Sd)
 |[],s=>.ok ([],s)
 |t::r,s=>(R t s).bind fun q=>(qVt R r q.2).bind fun z=>.ok (q.1::z.1,z.2)
noncomputable def jX(R:Tm->Sd->Res (OT×Sd)):List Str->List Tm->Sd->Nm->List (Int×OT)->Res (Nm×List (Int×OT)×Sd)
 |x::xs,t::ts,s,own,bs=>(count s).bind fun s=>(R t s).bind fun q=>jX R xs ts {q.2 with sl:=q.2.sl+1} (putA own x q.2.sl) (bs ++ [(q.2.sl,q.1)])
 |_,_,s,own,bs=>.ok (own,bs,s)
noncomputable def qVr(bs:List (Int×OT))(w:OT):OT:=bs.foldr (fun b w=>.bind b.1 b.2 w) w
noncomputable def qI(hs:Hs):Nat->Nm->Tm->Sd->Res (OT×Sd)
 | 0,_,_,_=>.no
 | h + 1,ν,t,s=>match t with
   | .call f as=>match getA hs f with
     |none=>.no
     |some p=>(jX (qI hs h ν) p.1 as s [] []).bind fun q=>(qI hs h q.1 p.2 q.2.2).bind fun w=>.ok (qVr q.2.1 w.1,w.2)
   |.num n=>(count s).bind fun s=>.ok (.num n,s)
   | .name x=>(count s).bind fun s=>match getA ν x with
     |none=>.no
     |some i=>.ok (.slot i,s)
   |.flip a b=>(count s).bind fun s=>jN [(0,b - a),(1,a)] s
   |.pick ps=>(count s).bind fun s=>jN ps s
   |.op g a b=>(count s).bind fun s=>(qI hs h ν a s).bind fun q=>(qI hs h ν b q.2).bind fun r=>.ok (.op g q.1 r.1,r.2)
   |.rest a n=>(count s).bind fun s=>(qI hs h ν a s).bind fun q=>.ok (.rest q.1 n,q.2)
   |.field a x=>(count s).bind fun s=>(qI hs h ν a s).bind fun q=>.ok (.field q.1 x,q.2)
   |.ite c a b=>(count s).bind fun s=>(qI hs h ν c s).bind fun p=>(qI hs h ν a p.2).bind fun q=>(qI hs h ν b q.2).bind fun r=>.ok (.ite p.1 q.1 r.1,r.2)
   |.rcd xs as=>(count s).bind fun s=>(qVt (qI hs h ν) as s).bind fun q=>.ok (.rcd xs q.1,q.2)
section
variable{hs:Hs}{no:O}{st:List O}{s:Sd}
theorem qKv:vQ2 [2] "terms" (i2 fun i j=>i+j) (pOf (oN 0)) (oV (oC (.int 1))) [.s true (opO hs no st s)]=.ok (.nx [.s true (opO hs no st {s with tm:=s.tm+1})]):=by kernel_rfl
theorem qKu:oV (oGt (oFld [2] "terms" (oN 0)) (oC (.int 600))) [.s true (opO hs no st {s with tm:=s.tm+1})]=.ok (.bl (decide (600<s.tm+1)),[.s true (opO hs no st {s with tm:=s.tm+1})]):=by kernel_rfl
theorem jG(h:s.tm<600):vS [.s true (opO hs no st s)]=.ok (.fz .non,[.s true (opO hs no st {s with tm:=s.tm+1})]):=by
 have h' :decide (600<s.tm+1)=false:=decide_eq_false (by omega);refine v7 (qQj qKv rfl (vN (xC qKu rfl rfl) (qH h' rfl))) rfl
theorem vQc:zV [.s true (opO hs no st s)]=.ok (.fz (.int s.sl),[.s true (opO hs no st {s with sl:=s.sl+1})]):=by
 have:zV [.s true (opO hs no st s)]=.ok (.fz (.int (s.sl+1 - 1)),[.s true (opO hs no st {s with sl:=s.sl+1})]):=by kernel_rfl
 grind
theorem vV6(w:List (Int×Int))(h:s.dr.length<=1000):eMu1 (pOf (oFld [2] "draws" (oN 0))) (owS (oV (oN 1))) apF [.s true (opO hs no st s),.s false (.fz (drD w))]=.ok (.fz .non,[.s true (opO hs no st {s with dr:=s.dr ++ [w]}),.s false (.fz (drD w))]):=by
 have ap:apF (s.dr.map fun w=>.fz (drD w)) (.fz (drD w))=some (.fz .non,(s.dr ++ [w]).map fun w=>.fz (drD w)):=by
  unfold apF;grind
 refine qVf (i:=0) (π:=[3]) (os0:=s.dr.map fun w=>.fz (drD w)) (x:=.fz (drD w)) (e:=[.s true (opO hs no st s),.s false (.fz (drD w))]) (os:=s.dr.map fun w=>.fz (drD w)) (by kernel_rfl) (by kernel_rfl) (by kernel_rfl) (by kernel_rfl) (by kernel_rfl) ap rfl
theorem zZh(w:Dw)(x:D)(s:Sd)(e:s.dr=w):oV (oSub (oL lenD [(oFld [2] "draws" (oN 0))]) (oC (.int 1))) [.s true (opO hs no st s),.s false (.fz x)]=.ok (.int ((w.map fun w=>O.fz (drD w)).length - 1),[.s true (opO hs no st s),.s false (.fz x)]):=by
 subst e;have:(fzOs (s.dr.map fun w=>O.fz (drD w))).length =(s.dr.map fun w=>O.fz (drD w)).length :=by rw[qV9,aK]
 have q:oV (oSub (oL lenD [(oFld [2] "draws" (oN 0))]) (oC (.int 1))) [.s true (opO hs no st s),.s false (.fz x)]=.ok (.int ((fzOs (s.dr.map fun w=>O.fz (drD w))).length - 1),[.s true (opO hs no st s),.s false (.fz x)]):=by kernel_rfl
 rw[q,this]
theorem vXc(x:D)(s:Sd):oV (oGt (oL lenD [(oFld [2] "draws" (oN 0))]) (oC (.int 60))) [.s true (opO hs no st s),.s false (.fz x)]=.ok (.bl (decide (60<(s.dr.length:Int))),[.s true (opO hs no st s),.s false (.fz x)]):=by
 have:(fzOs (s.dr.map fun w=>O.fz (drD w))).length =s.dr.length:=by rw[qV9,aK,aK]
 have q:oV (oGt (oL lenD [(oFld [2] "draws" (oN 0))]) (oC (.int 60))) [.s true (opO hs no st s),.s false (.fz x)]=.ok (.bl (decide (60<((fzOs (s.dr.map fun w=>O.fz (drD w))).length :Int))),[.s true (opO hs no st s),.s false (.fz x)]):=by kernel_rfl
 rw[q,this]
theorem vXb(w:List (Int×Int))(h:s.dr.length<60):vT [.s true (opO hs no st s),.s false (.fz (drD w))]=.ok (.fz (.int (s.dr.length:Nat)),[.s true (opO hs no st {s with dr:=s.dr ++ [w]}),.un]):=by
 have h' :decide (60<((s.dr ++ [w]).length :Int))=false:=decide_eq_false (by simp;omega);have e:((((s.dr ++ [w]).map fun w=>O.fz (drD w)).length :Nat):Int) - 1=(s.dr.length:Nat):=by simp
 refine v7 (v8 (vV6 w (by omega)) (qD (xC (vXc (drD w) {s with dr:=s.dr ++ [w]}) rfl rfl) (qH h' (qM (wX (wQ (zZh (s.dr ++ [w]) (drD w) {s with dr:=s.dr ++ [w]} rfl) rfl) rfl))))) ?_
 rw[e];rfl
end

theorem qY{x:Res α}{f:α->Res β}{b:β}(h:x.bind f=.ok b):∃a,x=.ok a/\f a=.ok b:=by
 cases x with
 |ok a=>exact⟨a,rfl,h⟩
 |er C fs=>cases h
 |no=>cases h
theorem vB{s s' :Sd}(h:count s=.ok s'):s.tm<600/\s' ={s with tm:=s.tm+1}:=by
 unfold count at h;by_cases z:s.tm<600
 ·rw[if_pos z]at h;cases h;exact⟨z,rfl⟩
 ·rw[if_neg z]at h;cases h
theorem qWy{s:Sd}(h:jN w s=.ok q):s.dr.length<60/\q=(.draw s.dr.length,{s with dr:=s.dr ++ [w]}):=by
 unfold jN at h;by_cases z:s.dr.length<60
 ·rw[if_pos z]at h;cases h;exact⟨z,rfl⟩
 ·rw[if_neg z]at h;cases h
theorem qKi(c x y:D):qO [.s false (.fz (.tup [.str "if",c,x,y]))]=.ok (.ow .lst [.fz c,.fz x,.fz y],[.un]):=by kernel_rfl
theorem zZn(g x y a b:D):zK [.s false (.fz (.tup [.str "op",g,x,y])),.s false (.fz (.nd .lst [a,b]))]=.ok (.fz (.tup [.str "op",g,a,b]),[.un,.un]):=by kernel_rfl
theorem zQp(x y z a b c:D):zK [.s false (.fz (.tup [.str "if",x,y,z])),.s false (.fz (.nd .lst [a,b,c]))]=.ok (.fz (.tup [.str "if",a,b,c]),[.un,.un]):=by kernel_rfl
theorem vXq(x n a:D):zK [.s false (.fz (.tup [.str "rest",x,n])),.s false (.fz (.nd .lst [a]))]=.ok (.fz (.tup [.str "rest",a,n]),[.un,.un]):=by kernel_rfl
theorem vZz(x n a:D):zK [.s false (.fz (.tup [.str "field",x,n])),.s false (.fz (.nd .lst [a]))]=.ok (.fz (.tup [.str "field",a,n]),[.un,.un]):=by kernel_rfl
theorem qYl(xs:List Str)(as:List Tm)(hl:xs.length=as.length)(h6:as.length<=6):qO [.s false (.fz (Tm.rcd xs as).d)]=.ok (.ow .lst ((Tm.ds as).map .fz),[.un]):=by
 obtain⟨e',a,b⟩:=compL_map (g:=gT 2 (gCn (gN 0) (gCn (gN 1) gNl))) (el:=oV (oN 1)) (fun e=>∃u v,e=[u,v]) (fun d=>(match d with|.nd .tup [_,y]=>y|_=>.non)) (ds:=zipD (xs.map .str) (Tm.ds as)) (env:=[.un,.un]) (fun d e hd he=>by
  obtain⟨i,hi⟩:=List.mem_iff_getElem?.mp hd;obtain⟨x,y,_,_,rfl⟩:=zipD_get hi;obtain⟨u,v,rfl⟩:=he;exact⟨_,_,rfl,rfl,_,_,rfl⟩) ⟨_,_,rfl⟩
 obtain⟨u,v,rfl⟩:=b;have em:(zipD (xs.map D.str) (Tm.ds as)).map (fun d=>(match d with|.nd .tup [_,y]=>y|_=>D.non))=Tm.ds as:=by
  rw[qZp];clear a h6;induction xs generalizing as with
  | nil=>cases as with
    |nil=>rfl
    |cons _ _=>cases hl
  | cons x xs ih=>cases as with
    |nil=>cases hl
    | cons a r=>
      show a.d::List.map _ (zipD (xs.map D.str) (r.map Tm.d))=_;rw[ih r (by simpa using hl)];rfl
 rw[em]at a;have l:(zipD (xs.map D.str) (Tm.ds as)).length <=6:=by
  rw[yE,qZp,aK,aK];omega
 have cl:decide ((zipD (xs.map D.str) (Tm.ds as)).length <=lim)=true:=decide_eq_true (aO l (by decide));show qO [.s false (.fz (.tup [.str "record",.tup (zipD (xs.map .str) (Tm.ds as))]))]=_;generalize zipD (xs.map D.str) (Tm.ds as)=zs at *;unfold qO;repeat' (first|array_get_dec|exact a|(show(true && decide (zs.length<=lim))=true;rw[cl];rfl))
theorem zQo(xs:List Str)(as:List Tm)(os:List OT)(hl:xs.length=as.length)(h6:as.length<=6)(ho:os.length=as.length):zK [.s false (.fz (Tm.rcd xs as).d),.s false (.fz (.nd .lst (os.map OT.d)))]=.ok (.fz (OT.rcd xs os).d,[.un,.un]):=by
 obtain⟨e',a,b⟩:=compL_map (g:=gT 2 (gCn (gN 0) (gCn (gN 1) gNl))) (el:=svTup [(oV (oIx (oN 0) (oC (.int 0)))),(oV (oN 1))]) (fun e=>∃u v,e=[u,v]) (fun d=>(match d with|.nd .tup [.nd .tup (x::_),y]=>.tup [x,y]|_=>.non)) (ds:=zipD (zipD (xs.map .str) (Tm.ds as)) (os.map OT.d)) (env:=[.un,.un]) (fun d e hd he=>by
  obtain⟨i,hi⟩:=List.mem_iff_getElem?.mp hd;obtain⟨p,y,h1,_,rfl⟩:=zipD_get hi;obtain⟨x,z,_,_,rfl⟩:=zipD_get h1;obtain⟨u,v,rfl⟩:=he;exact⟨_,_,rfl,rfl,_,_,rfl⟩) ⟨_,_,rfl⟩
 obtain⟨u,v,rfl⟩:=b;have em:(zipD (zipD (xs.map D.str) (Tm.ds as)) (os.map OT.d)).map (fun d=>(match d with|.nd .tup [.nd .tup (x::_),y]=>D.tup [x,y]|_=>D.non))=zipD (xs.map .str) (OT.ds os):=by
  rw[qZp,zQi];clear a h6;induction xs generalizing as os with
  |nil=>rfl
  | cons x xs ih=>cases as with
    |nil=>cases hl
    | cons a r=>cases os with
      |nil=>cases ho
      | cons o os=>
        show D.tup [.str x,o.d]::List.map _ (zipD (zipD (xs.map D.str) (r.map Tm.d)) (os.map OT.d))=_;rw[ih r os (by simpa using hl) (by simpa using ho)];rfl
 rw[em]at a;have l:(zipD (zipD (xs.map D.str) (Tm.ds as)) (os.map OT.d)).length <=6:=by
  rw[yE,yE,qZp,aK,aK];omega
 have cl:decide ((zipD (zipD (xs.map D.str) (Tm.ds as)) (os.map OT.d)).length <=lim)=true:=decide_eq_true (aO l (by decide));have zt:zpA [.tup (zipD (xs.map .str) (Tm.ds as)),.nd .lst (os.map OT.d)]=some (zipD (zipD (xs.map D.str) (Tm.ds as)) (os.map OT.d)):=rfl;show zK [.s false (.fz (.tup [.str "record",.tup (zipD (xs.map .str) (Tm.ds as))])),.s false (.fz (.nd .lst (os.map OT.d)))]=.ok (.fz (.tup [.str "record",.tup (zipD (xs.map .str) (OT.ds os))]),[.un,.un]);generalize zipD (xs.map D.str) (Tm.ds as)=zs at *;unfold zK;repeat' (first|exact zt|array_get_dec|exact a|(show(true && decide (_<=lim))=true;rw[cl];rfl))
mutual
theorem wU:∀t:OT,v6 t.d=true
 |.num n=>by rw[OT.d];rfl
 |.slot i=>by rw[OT.d];rfl
 |.draw i=>by rw[OT.d];rfl
 |.op g a b=>by rw[OT.d];show(true && (true && (v6 a.d && (v6 b.d && true))))=true;rw[wU a,wU b];rfl
 |.rest a n=>by rw[OT.d];show(true && (v6 a.d && (true && true)))=true;rw[wU a];rfl
 |.field a x=>by rw[OT.d];show(true && (v6 a.d && (true && true)))=true;rw[wU a];rfl
 |.ite c a b=>by rw[OT.d];show(true && (v6 c.d && (v6 a.d && (v6 b.d && true))))=true;rw[wU c,wU a,wU b];rfl
 |.rcd xs as=>by rw[OT.d];show(true && (flatDs (zipD (xs.map .str) (OT.ds as)) && true))=true;rw[flat_ots xs as];rfl
 |.bind i a b=>by rw[OT.d];show(true && (true && (v6 a.d && (v6 b.d && true))))=true;rw[wU a,wU b];rfl
theorem flat_ots:∀(xs:List Str) (as:List OT),flatDs (zipD (xs.map .str) (OT.ds as))=true
 |[],_=>rfl
 |x::xs,[]=>by rw[OT.ds];rfl
 | x::xs,a::as=>by
   rw[OT.ds];show((true && (v6 a.d && true)) && flatDs (zipD (xs.map .str) (OT.ds as)))=true;rw[wU a,flat_ots xs as];rfl
end
theorem qZa(t:OT):qXo (.fz t.d)=true:=wU t
theorem zKl{x:Str}{i:Int}(e:getA ν x=some i):ixD (nmD ν) (.str x)=some (.int i):=by
 obtain⟨j,h1,h2,_⟩:=qWt wP nmv e;show(((some (Sum.inr x:Key)).bind fun k=>kidx k (qR Sum.inr ν)).bind fun j=>(ν.map nmv)[j]?)=_;rw[cZ,h1];exact h2
theorem zWg{x:Str}{i:Int}(e:getA ν x=some i):hnIx env (.str x) (.d (nmD ν))=some (.d (.int i)):=by
 show(ixD (nmD ν) (.str x)).map Hn.d=_;rw[zKl e];rfl
theorem qW4(a b:Int):xK [.s false (.fz (.tup [.str "flip",.int a,.int b]))]=.ok (.ow .lst [.fz (prI (0,b - a)),.fz (prI (1,a))],[.un]):=by kernel_rfl
theorem qW3(ps:List (Int×Int)):xK [.s false (.fz (Tm.pick ps).d)]=.ok (.ow .lst ((ps.map prI).map .fz),[.un]):=by kernel_rfl
section
variable{hs:Hs}
noncomputable def xJ(hs:Hs)(h:Nat):Prop:=∀(ν:Nm) (t:Tm) (s:Sd) (no:O) (st:List O) (q:OT×Sd),t.wf->qI hs h ν t s=.ok q->
 F_Opener_open_term h [.s true (opO hs no st s),.s false (.fz t.d),.s false (.fz (nmD ν))]=.ok (.fz q.1.d,[.s true (opO hs no st q.2),.un,.un])
theorem open_loop{h:Nat}(ih:xJ hs h){st:List O}:∀(ts:List Tm) (s:Sd) (q:List OT×Sd) (a k x5:Slot) (acc:List O),Tm.wfs ts->acc.length+ts.length<=1000->qVt (qI hs h ν) ts s=.ok q->
  ∃y,forS (gN 5) (vI (F_Opener_open_term h)) (Tm.ds ts) [.s true (opO hs no st s),a,.s false (.fz (nmD ν)),k,.s false (.ow .lst acc),x5]=
   .ok (.nx [.s true (opO hs no st q.2),a,.s false (.fz (nmD ν)),k,.s false (.ow .lst (acc ++ q.1.map fun t=>.fz t.d)),y])
 | [],s,q,a,k,x5,acc,_,_,e=>by
   cases e;exact⟨x5,by rw[List.map_nil,bG];rfl⟩
 | t::ts,s,q,a,k,x5,acc,hw,hl,e=>by
   rw[Tm.wfs]at hw;obtain⟨v,e1,e⟩:=qY e;obtain⟨r,e2,e⟩:=qY e;cases e;rw[aY]at hl;have c1:=ih ν t s no st v hw.1 e1;have ap:apF acc (.fz v.1.d)=some (.fz .non,acc ++ [.fz v.1.d]):=by
    unfold apF;rw[decide_eq_true (show acc.length<=lim from aO (by omega) (show 1000<=1000000 by decide))];rfl
   obtain⟨y,hy⟩:=open_loop ih ts v.2 r a k (.s false (.fz t.d)) (acc ++ [.fz v.1.d]) hw.2 (by rw[aB];simp;omega) e2;refine⟨y,?_⟩;rw[Tm.ds];refine vJ rfl ?_ (hy.trans ?_)
   ·unfold vI;repeat' (first|((with_reducible refine' fnx c1 ?_);rfl)|array_get_dec|exact ap)
   ·rw[cK];rfl
theorem qKk{R:Tm->Sd->Res (OT×Sd)}:∀{ts:List Tm} {s:Sd} {q:List OT×Sd},qVt R ts s=.ok q->q.1.length=ts.length
 |[],s,q,e=>by cases e;rfl
 | t::ts,s,q,e=>by
   obtain⟨v,e1,e⟩:=qY e;obtain⟨r,e2,e⟩:=qY e;cases e;simp[qKk e2]
end

section
variable{hs:Hs}{h:Nat}
theorem vXe(ps:List (Int×Int)):fzO (.ow .lst ((ps.map prI).map .fz))=drD ps:=zX _
set_option maxHeartbeats 400000 in
theorem qZs(ν:Nm)(t:Tm)(s:Sd)(no:O)(st:List O)(q:OT×Sd)(ht:(∃n,t=.num n)\/(∃x,t=.name x)\/(∃a b,t=.flip a b)\/∃ps,t=.pick ps)(e:qI hs (h+1) ν t s=.ok q):
  F_Opener_open_term (h+1) [.s true (opO hs no st s),.s false (.fz t.d),.s false (.fz (nmD ν))]=.ok (.fz q.1.d,[.s true (opO hs no st q.2),.un,.un]):=by
 rcases ht with⟨n,rfl⟩|⟨x,rfl⟩|⟨a,b,rfl⟩|⟨ps,rfl⟩
 ·obtain⟨s1,e1,e⟩:=qY (show(count s).bind _=_ from e);obtain⟨h1,rfl⟩:=vB e1;cases e;have c:=jG (hs:=hs) (no:=no) (st:=st) h1;unfold F_Opener_open_term;repeat' (first|((with_reducible refine' fnx c ?_);rfl)|array_get_dec)
 ·obtain⟨s1,e1,e⟩:=qY (show(count s).bind _=_ from e);obtain⟨h1,rfl⟩:=vB e1;cases e2:getA ν x with
  |none=>rw[e2]at e;cases e
  | some i=>
    rw[e2]at e;cases e;have c:=jG (hs:=hs) (no:=no) (st:=st) h1;unfold F_Opener_open_term;repeat' (first|((with_reducible refine' fnx c ?_);rfl)|array_get_dec|exact zWg e2)
 ·obtain⟨s1,e1,e⟩:=qY (show(count s).bind _=_ from e);obtain⟨h1,rfl⟩:=vB e1;obtain⟨h2,rfl⟩:=qWy e;have c:=jG (hs:=hs) (no:=no) (st:=st) h1;have d:=vXb (hs:=hs) (no:=no) (st:=st) (s:={s with tm:=s.tm+1}) [(0,b - a),(1,a)] h2;have df:=qW4 a b;unfold F_Opener_open_term;repeat' (first|((with_reducible refine' fnx c ?_);rfl)|((with_reducible refine' fnx d ?_);rfl)|((with_reducible refine' fnx df ?_);rfl)|array_get_dec)
 ·obtain⟨s1,e1,e⟩:=qY (show(count s).bind _=_ from e);obtain⟨h1,rfl⟩:=vB e1;obtain⟨h2,rfl⟩:=qWy e;have c:=jG (hs:=hs) (no:=no) (st:=st) h1;have d:=vXb (hs:=hs) (no:=no) (st:=st) (s:={s with tm:=s.tm+1}) ps h2;have d' :=d;rw[←vXe ps]at d';have df:=qW3 ps;unfold F_Opener_open_term;repeat' (first|((with_reducible refine' fnx c ?_);rfl)|((with_reducible refine' fnx d' ?_);rfl)|((with_reducible refine' fnx df ?_);rfl)|array_get_dec)
set_option maxHeartbeats 400000 in
theorem zJy(ih:xJ hs h)(ν:Nm)(g:Sg)(x y:Tm)(s:Sd)(no:O)(st:List O)(q:OT×Sd)(hw:(Tm.op g x y).wf)(e:qI hs (h+1) ν (.op g x y) s=.ok q):
  F_Opener_open_term (h+1) [.s true (opO hs no st s),.s false (.fz (Tm.op g x y).d),.s false (.fz (nmD ν))]=.ok (.fz q.1.d,[.s true (opO hs no st q.2),.un,.un]):=by
 rw[Tm.wf]at hw;obtain⟨s1,e1,e⟩:=qY (show(count s).bind _=_ from e);obtain⟨h1,rfl⟩:=vB e1;obtain⟨v,e2,e⟩:=qY e;obtain⟨r,e3,e⟩:=qY e;cases e;have c:=jG (hs:=hs) (no:=no) (st:=st) h1;have ts:qVt (qI hs h ν) [x,y] {s with tm:=s.tm+1}=.ok ([v.1,r.1],r.2):=by
  show(qI hs h ν x _).bind _=_;rw[e2];show((qI hs h ν y v.2).bind _).bind _=_;rw[e3];rfl
 obtain⟨z,lp⟩:=open_loop ih [x,y] _ _ (fz (Tm.op g x y).d) (fz (.str "op")) .un [] (by simp only[Tm.wfs];exact⟨hw.1,hw.2,trivial⟩) (by simp) ts (no:=no) (st:=st);unfold F_Opener_open_term;repeat' (first|((with_reducible refine' fnx c ?_);rfl)|((with_reducible refine' fnx (qV6 (.str g.s) x.d y.d) ?_);rfl)|((with_reducible refine' fnx (zZn (.str g.s) x.d y.d v.1.d r.1.d) ?_);rfl)|(with_reducible refine' qJn lp ?_ ?_)|array_get_dec|exact qQ6 (qZa (.op g v.1 r.1)) rfl)
set_option maxHeartbeats 400000 in
theorem zVl(ih:xJ hs h)(ν:Nm)(c x y:Tm)(s:Sd)(no:O)(st:List O)(q:OT×Sd)(hw:(Tm.ite c x y).wf)(e:qI hs (h+1) ν (.ite c x y) s=.ok q):
  F_Opener_open_term (h+1) [.s true (opO hs no st s),.s false (.fz (Tm.ite c x y).d),.s false (.fz (nmD ν))]=.ok (.fz q.1.d,[.s true (opO hs no st q.2),.un,.un]):=by
 rw[Tm.wf]at hw;obtain⟨s1,e1,e⟩:=qY (show(count s).bind _=_ from e);obtain⟨h1,rfl⟩:=vB e1;obtain⟨u,e0,e⟩:=qY e;obtain⟨v,e2,e⟩:=qY e;obtain⟨r,e3,e⟩:=qY e;cases e;have cc:=jG (hs:=hs) (no:=no) (st:=st) h1;have ts:qVt (qI hs h ν) [c,x,y] {s with tm:=s.tm+1}=.ok ([u.1,v.1,r.1],r.2):=by
  show(qI hs h ν c _).bind _=_;rw[e0];show((qI hs h ν x u.2).bind _).bind _=_;rw[e2];show(((qI hs h ν y v.2).bind _).bind _).bind _=_;rw[e3];rfl
 obtain⟨z,lp⟩:=open_loop ih [c,x,y] _ _ (fz (Tm.ite c x y).d) (fz (.str "if")) .un [] (by simp only[Tm.wfs];exact⟨hw.1,hw.2.1,hw.2.2,trivial⟩) (by simp) ts (no:=no) (st:=st);unfold F_Opener_open_term;repeat' (first|((with_reducible refine' fnx cc ?_);rfl)|((with_reducible refine' fnx (qKi c.d x.d y.d) ?_);rfl)|((with_reducible refine' fnx (zQp c.d x.d y.d u.1.d v.1.d r.1.d) ?_);rfl)|(with_reducible refine' qJn lp ?_ ?_)|array_get_dec|exact qQ6 (qZa (.ite u.1 v.1 r.1)) rfl)
set_option maxHeartbeats 400000 in
theorem vYb(ih:xJ hs h)(ν:Nm)(x:Tm)(n:Int)(s:Sd)(no:O)(st:List O)(q:OT×Sd)(hw:(Tm.rest x n).wf)(e:qI hs (h+1) ν (.rest x n) s=.ok q):
  F_Opener_open_term (h+1) [.s true (opO hs no st s),.s false (.fz (Tm.rest x n).d),.s false (.fz (nmD ν))]=.ok (.fz q.1.d,[.s true (opO hs no st q.2),.un,.un]):=by
 rw[Tm.wf]at hw;obtain⟨s1,e1,e⟩:=qY (show(count s).bind _=_ from e);obtain⟨h1,rfl⟩:=vB e1;obtain⟨v,e2,e⟩:=qY e;cases e;have c:=jG (hs:=hs) (no:=no) (st:=st) h1;have ts:qVt (qI hs h ν) [x] {s with tm:=s.tm+1}=.ok ([v.1],v.2):=by
  show(qI hs h ν x _).bind _=_;rw[e2];rfl
 obtain⟨z,lp⟩:=open_loop ih [x] _ _ (fz (Tm.rest x n).d) (fz (.str "rest")) .un [] (by simp only[Tm.wfs];exact⟨hw,trivial⟩) (by simp) ts (no:=no) (st:=st);unfold F_Opener_open_term;repeat' (first|((with_reducible refine' fnx c ?_);rfl)|((with_reducible refine' fnx (qYk x.d (.int n)) ?_);rfl)|((with_reducible refine' fnx (vXq x.d (.int n) v.1.d) ?_);rfl)|(with_reducible refine' qJn lp ?_ ?_)|array_get_dec|exact qQ6 (qZa (.rest v.1 n)) rfl)
set_option maxHeartbeats 400000 in
theorem vJi(ih:xJ hs h)(ν:Nm)(x:Tm)(n:Str)(s:Sd)(no:O)(st:List O)(q:OT×Sd)(hw:(Tm.field x n).wf)(e:qI hs (h+1) ν (.field x n) s=.ok q):
  F_Opener_open_term (h+1) [.s true (opO hs no st s),.s false (.fz (Tm.field x n).d),.s false (.fz (nmD ν))]=.ok (.fz q.1.d,[.s true (opO hs no st q.2),.un,.un]):=by
 rw[Tm.wf]at hw;obtain⟨s1,e1,e⟩:=qY (show(count s).bind _=_ from e);obtain⟨h1,rfl⟩:=vB e1;obtain⟨v,e2,e⟩:=qY e;cases e;have c:=jG (hs:=hs) (no:=no) (st:=st) h1;have ts:qVt (qI hs h ν) [x] {s with tm:=s.tm+1}=.ok ([v.1],v.2):=by
  show(qI hs h ν x _).bind _=_;rw[e2];rfl
 obtain⟨z,lp⟩:=open_loop ih [x] _ _ (fz (Tm.field x n).d) (fz (.str "field")) .un [] (by simp only[Tm.wfs];exact⟨hw,trivial⟩) (by simp) ts (no:=no) (st:=st);unfold F_Opener_open_term;repeat' (first|((with_reducible refine' fnx c ?_);rfl)|((with_reducible refine' fnx (qWx x.d (.str n)) ?_);rfl)|((with_reducible refine' fnx (vZz x.d (.str n) v.1.d) ?_);rfl)|(with_reducible refine' qJn lp ?_ ?_)|array_get_dec|exact qQ6 (qZa (.field v.1 n)) rfl)
set_option maxHeartbeats 400000 in
theorem zVk(ih:xJ hs h)(ν:Nm)(xs:List Str)(as:List Tm)(s:Sd)(no:O)(st:List O)(q:OT×Sd)(hw:(Tm.rcd xs as).wf)(e:qI hs (h+1) ν (.rcd xs as) s=.ok q):
  F_Opener_open_term (h+1) [.s true (opO hs no st s),.s false (.fz (Tm.rcd xs as).d),.s false (.fz (nmD ν))]=.ok (.fz q.1.d,[.s true (opO hs no st q.2),.un,.un]):=by
 rw[Tm.wf]at hw;obtain⟨s1,e1,e⟩:=qY (show(count s).bind _=_ from e);obtain⟨h1,rfl⟩:=vB e1;obtain⟨v,e2,e⟩:=qY e;cases e;have c:=jG (hs:=hs) (no:=no) (st:=st) h1;have hv:=qKk e2;obtain⟨z,lp⟩:=open_loop ih as _ v (fz (Tm.rcd xs as).d) (fz (.str "record")) .un [] hw.2.2 (by simp;omega) e2 (no:=no) (st:=st);have pp:=qYl xs as hw.1 hw.2.1;have fm:fzO (.ow .lst ([] ++ v.1.map fun t=>.fz t.d))=.nd .lst (v.1.map OT.d):=by
  have:=zX (k:=.lst) (v.1.map OT.d);rw[cU]at this;exact this
 have ww:zK [.s false (.fz (Tm.rcd xs as).d),.s false (.fz (fzO (.ow .lst ([] ++ v.1.map fun t=>.fz t.d))))]=.ok (.fz (OT.rcd xs v.1).d,[.un,.un]):=by rw[fm];exact zQo xs as v.1 hw.1 hw.2.1 hv
 unfold F_Opener_open_term;repeat' (first|((with_reducible refine' fnx c ?_);rfl)|((with_reducible refine' fnx pp ?_);rfl)|((with_reducible refine' fnx ww ?_);rfl)|(with_reducible refine' qJn lp ?_ ?_)|array_get_dec|exact vQl _|exact qQ6 (qZa (.rcd xs v.1)) rfl)
end

section
variable{hs:Hs}{h:Nat}
noncomputable def bindO(bs:List (Int×OT)):List O:=bs.map fun b=>.fz (.tup [.int b.1,b.2.d])
theorem vKg(own:Nm):fzO (.ow (.dct (qR Sum.inr own)) (own.map fun p=>.fz (nmv p)))=nmD own:=by
 have:=zX (k:=.dct (qR Sum.inr own)) (own.map nmv);rw[cU]at this;exact this
theorem zKj{own:Nm}{x:Str}{i:Int}{a:O}{x1 x2 x3:Slot}(e:getA own x=some i):oV (oIx (oN 4) (oN 6)) [.s io a,x1,x2,x3,.s false (.ow (.dct (qR Sum.inr own)) (own.map fun p=>.fz (nmv p))),x5,.s false (.fz (.str x)),x7,x8,x9,x10]=.ok (.int i,[.s io a,x1,x2,x3,.s false (.ow (.dct (qR Sum.inr own)) (own.map fun p=>.fz (nmv p))),x5,.s false (.fz (.str x)),x7,x8,x9,x10]):=by
 obtain⟨j,h1,_,h3⟩:=qWt wP nmv e;refine zL (h1:=.d (.int i)) (e:=[.s io a,x1,x2,x3,.s false (.ow (.dct (qR Sum.inr own)) (own.map fun p=>.fz (nmv p))),x5,.s false (.fz (.str x)),x7,x8,x9,x10]) ?_ rfl;refine xE (h1:=.p 4 []) (h2:=.d (.str x)) rfl rfl rfl (y:=.str x) rfl ?_ rfl;show(((some (Sum.inr x:Key)).bind fun k=>kidx k (qR Sum.inr own)).bind fun j=>((own.map fun p=>O.fz (nmv p))[j]?).bind fun o=>some (hnO o 4 ([] ++ [j])))=_;rw[cZ,h1,cZ,h3];rfl
set_option maxHeartbeats 400000 in
theorem qKx(ih:xJ hs h){own:Nm}{x:Str}{t:Tm}{s s1:Sd}{st:List O}{bs:List (Int×OT)}{a:Slot}(hw:t.wf)(ho:own.length<=1000)(hb:bs.length<=1000)(e1:count s=.ok s1)(e2:qI hs h ν t s1=.ok q):
  zC (F_Opener_open_term h) [.s true (opO hs no st s),a,.s false (.fz (nmD ν)),k3,.s false (.ow (.dct (qR Sum.inr own)) (own.map fun p=>.fz (nmv p))),.s false (.ow .lst (bindO bs)),.s false (.fz (.str x)),.s false (.fz t.d),x8,x9,x10]=
   .ok (.nx [.s true (opO hs no st {q.2 with sl:=q.2.sl+1}),a,.s false (.fz (nmD ν)),k3,.s false (.ow (.dct (qR Sum.inr (putA own x q.2.sl))) ((putA own x q.2.sl).map fun p=>.fz (nmv p))),.s false (.ow .lst (bindO (bs ++ [(q.2.sl,q.1)]))),.s false (.fz (.str x)),.s false (.fz t.d),.s false (.fz q.1.d),x9,x10]):=by
 obtain⟨h1,rfl⟩:=vB e1;have c:=jG (hs:=hs) (no:=no) (st:=st) h1;have c1:=ih ν t _ no st q hw e2;have sl:=vQc (hs:=hs) (no:=no) (st:=st) (s:=q.2);have ap:apF (bindO bs) (.fz (.tup [.int q.2.sl,q.1.d]))=some (.fz .non,bindO (bs ++ [(q.2.sl,q.1)])):=by
  unfold apF;rw[decide_eq_true (show(bindO bs).length <=lim by unfold bindO;rw[aK];exact aO hb (show 1000<=1000000 by decide))];unfold bindO;rw[bN];rfl
 have dl:decide ((own.map fun p=>O.fz (nmv p)).length <=lim)=true:=decide_eq_true (by rw[aK];exact aO ho (show 1000<=1000000 by decide))
 have put:sPutA (pOf (oN 4)) (pOf (oN 6)) (j5 2 "new_slot" zV (.io 0) []) [.s true (opO hs no st q.2),a,.s false (.fz (nmD ν)),k3,.s false (.ow (.dct (qR Sum.inr own)) (own.map fun p=>.fz (nmv p))),.s false (.ow .lst (bindO bs)),.s false (.fz (.str x)),.s false (.fz t.d),.s false (.fz q.1.d),x9,x10]=
   .ok (.nx [.s true (opO hs no st {q.2 with sl:=q.2.sl+1}),a,.s false (.fz (nmD ν)),k3,.s false (.ow (.dct (qR Sum.inr (putA own x q.2.sl))) ((putA own x q.2.sl).map fun p=>.fz (nmv p))),.s false (.ow .lst (bindO bs)),.s false (.fz (.str x)),.s false (.fz t.d),.s false (.fz q.1.d),x9,x10]):=by
  rw[←qK5 wP nmv];repeat' (first|((with_reducible refine' fnx sl ?_);rfl)|array_get_dec|exact dl)
 have gx:getA (putA own x q.2.sl) x=some q.2.sl:=by rw[j7,if_pos rfl]
 unfold zC;refine v8 (o:=.fz .non) (e:=[.s true (opO hs no st {s with tm:=s.tm+1}),a,.s false (.fz (nmD ν)),k3,.s false (.ow (.dct (qR Sum.inr own)) (own.map fun p=>.fz (nmv p))),.s false (.ow .lst (bindO bs)),.s false (.fz (.str x)),.s false (.fz t.d),x8,x9,x10]) ?_ ?_
 ·repeat' (first|((with_reducible refine' fnx c ?_);rfl)|array_get_dec)
 refine qZ (o:=.fz q.1.d) (e:=[.s true (opO hs no st q.2),a,.s false (.fz (nmD ν)),k3,.s false (.ow (.dct (qR Sum.inr own)) (own.map fun p=>.fz (nmv p))),.s false (.ow .lst (bindO bs)),.s false (.fz (.str x)),.s false (.fz t.d),x8,x9,x10]) ?_ ?_
 ·repeat' (first|((with_reducible refine' fnx c1 ?_);rfl)|array_get_dec)
 refine qQj put rfl ?_
 refine wJ (qVf (i:=5) (π:=[]) (x:=.fz (.tup [.int q.2.sl,q.1.d])) rfl rfl (wQ (qQ9 (qE (zKj gx) (qE rfl (zB rfl) rfl) rfl) rfl rfl) rfl) rfl rfl ap rfl) rfl
theorem call_loop(ih:xJ hs h){no:O}{st:List O}{a k3 x9 x10:Slot}:∀(xs:List Str) (ts:List Tm) (s:Sd) (own:Nm) (bs:List (Int×OT)) (q:Nm×List (Int×OT)×Sd) (x6 x7 x8:Slot),Tm.wfs ts->own.length+ts.length<=1000->bs.length+ts.length<=1000->jX (qI hs h ν) xs ts s own bs=.ok q->
  ∃y6 y7 y8,forS (gT 2 (gCn (gN 6) (gCn (gN 7) gNl))) (zC (F_Opener_open_term h)) (zipD (xs.map .str) (Tm.ds ts)) [.s true (opO hs no st s),a,.s false (.fz (nmD ν)),k3,.s false (.ow (.dct (qR Sum.inr own)) (own.map fun p=>.fz (nmv p))),.s false (.ow .lst (bindO bs)),x6,x7,x8,x9,x10]=
   .ok (.nx [.s true (opO hs no st q.2.2),a,.s false (.fz (nmD ν)),k3,.s false (.ow (.dct (qR Sum.inr q.1)) (q.1.map fun p=>.fz (nmv p))),.s false (.ow .lst (bindO q.2.1)),y6,y7,y8,x9,x10])
 |[],ts,s,own,bs,q,x6,x7,x8,_,_,_,e=>by cases e;exact⟨x6,x7,x8,rfl⟩
 |x::xs,[],s,own,bs,q,x6,x7,x8,_,_,_,e=>by cases e;exact⟨x6,x7,x8,rfl⟩
 | x::xs,t::ts,s,own,bs,q,x6,x7,x8,hw,ho,hb,e=>by
   rw[aY]at ho hb;obtain⟨s1,e1,e⟩:=qY (show(count s).bind _=_ from e);obtain⟨v,e2,e⟩:=qY e;have hl:=xF (l:=own) (i:=x) (v:=v.2.sl);obtain⟨y6,y7,y8,hy⟩:=call_loop ih (x9:=x9) (x10:=x10) (a:=a) (k3:=k3) (no:=no) (st:=st) xs ts _ _ _ q (.s false (.fz (.str x))) (.s false (.fz t.d)) (.s false (.fz v.1.d)) hw.2 (by omega) (by rw[aB];simp;omega) e;refine⟨y6,y7,y8,?_⟩;exact vJ rfl (qKx ih hw.1 (by omega) (by omega) e1 e2) hy
theorem wrap_loop{R:Fn}{a0 a1 a2 a3 a4 a5 a6 a7:Slot}:∀(bs:List (Int×OT)) (w:OT) (x8 x10:Slot),∃y8 y10,forS (gT 2 (gCn (gN 10) (gCn (gN 8) gNl))) (yG R) (bs.map fun b=>.tup [.int b.1,b.2.d]) [a0,a1,a2,a3,a4,a5,a6,a7,x8,.s false (.fz w.d),x10]=
   .ok (.nx [a0,a1,a2,a3,a4,a5,a6,a7,y8,.s false (.fz (bs.foldl (fun w b=>OT.bind b.1 b.2 w) w).d),y10])
 |[],w,x8,x10=>⟨x8,x10,rfl⟩
 | b::bs,w,x8,x10=>by
   obtain⟨y8,y10,hy⟩:=wrap_loop (R:=R) (a0:=a0) (a1:=a1) (a2:=a2) (a3:=a3) (a4:=a4) (a5:=a5) (a6:=a6) (a7:=a7) bs (.bind b.1 b.2 w) (.s false (.fz b.2.d)) (.s false (.fz (.int b.1)));refine⟨y8,y10,?_⟩;refine vJ rfl ?_ hy;exact qXd (o:=.fz (OT.bind b.1 b.2 w).d) (e:=[a0,a1,a2,a3,a4,a5,a6,a7,.s false (.fz b.2.d),.s false (.fz w.d),.s false (.fz (.int b.1))]) rfl rfl
noncomputable def okHs(hs:Hs):Prop:=∀p∈hs,p.2.2.wf
theorem okHs.get{f:Str}{p:List Str×Tm}(hw:okHs hs)(e:getA hs f=some p):p.2.wf:=by
 induction hs with
 |nil=>cases e
 | cons q r ih=>
   unfold getA at e;by_cases z:q.1=f
   ·rw[if_pos z]at e;cases e;exact hw q (by simp)
   ·rw[if_neg z]at e;exact ih (fun p hp=>hw p (aC _ hp)) e
end

section
variable{hs:Hs}{h:Nat}
theorem qWk{f:Str}{p:List Str×Tm}{st:List O}{s:Sd}{as:List Tm}{x2 x3 x4 x6:Slot}(e:getA hs f=some p):oV (oIx (oFld [2] "helpers" (oN 0)) (oIx (oN 1) (oC (.int 1)))) [.s true (opO hs no st s),.s false (.fz (Tm.call f as).d),x2,x3,x4,x5,x6,x7,x8,x9,x10]=.ok (rowD (f,p),[.s true (opO hs no st s),.s false (.fz (Tm.call f as).d),x2,x3,x4,x5,x6,x7,x8,x9,x10]):=by
 obtain⟨j,h1,_,h3⟩:=qWt wP rowD e;refine zL (h1:=.d (rowD (f,p))) (e:=[.s true (opO hs no st s),.s false (.fz (Tm.call f as).d),x2,x3,x4,x5,x6,x7,x8,x9,x10]) ?_ rfl;refine xE (h1:=.p 0 [0]) (h2:=.d (.str f)) (e:=[.s true (opO hs no st s),.s false (.fz (Tm.call f as).d),x2,x3,x4,x5,x6,x7,x8,x9,x10]) (e1:=[.s true (opO hs no st s),.s false (.fz (Tm.call f as).d),x2,x3,x4,x5,x6,x7,x8,x9,x10]) (by kernel_rfl) (by kernel_rfl) rfl (y:=.str f) rfl ?_ rfl;show(((some (Sum.inr f:Key)).bind fun k=>kidx k (qR Sum.inr hs)).bind fun j=>((hs.map fun p=>O.fz (rowD p))[j]?).bind fun o=>some (hnO o 0 ([0] ++ [j])))=_;rw[cZ,h1,cZ,h3];rfl
theorem vQv(hh:okHs hs)(ih:xJ hs h)(ν:Nm)(f:Str)(as:List Tm)(s:Sd)(no:O)(st:List O)(p:List Str×Tm)(q:Nm×List (Int×OT)×Sd)(w:OT×Sd)(hw:(Tm.call f as).wf)(e0:getA hs f=some p)(e1:jX (qI hs h ν) p.1 as s [] []=.ok q)(e2:qI hs h q.1 p.2 q.2.2=.ok w):
  zT (F_Opener_open_term h) [.s true (opO hs no st s),.s false (.fz (Tm.call f as).d),.s false (.fz (nmD ν))]=.ok (.fz (qVr q.2.1 w.1).d,[.s true (opO hs no st w.2),.un,.un]):=by
 rw[Tm.wf]at hw;obtain⟨y6,y7,y8,lp⟩:=call_loop ih (x9:=.un) (x10:=.un) (a:=.s false (.fz (Tm.call f as).d)) (k3:=.s false (.fz (rowD (f,p)))) (no:=no) (st:=st) p.1 as s [] [] q .un .un .un hw.2 (by simp;omega) (by simp;omega) e1;have c2:=ih q.1 p.2 q.2.2 no st w (hh.get e0) e2;have c2' :=c2;obtain⟨z8,z10,wl⟩:=wrap_loop (R:=F_Opener_open_term h) (a0:=.s true (opO hs no st w.2)) (a1:=.s false (.fz (Tm.call f as).d)) (a2:=.s false (.fz (nmD ν))) (a3:=.s false (.fz (rowD (f,p)))) (a4:=.s false (.fz (nmD q.1))) (a5:=.s false (.fz (fzO (.ow .lst (bindO q.2.1))))) (a6:=y6) (a7:=y7) q.2.1.reverse w.1 y8 .un;have bf:fzO (.ow .lst (bindO q.2.1))=.nd .lst (q.2.1.map fun b=>.tup [.int b.1,b.2.d]):=by
  have:=zX (k:=.lst) (q.2.1.map fun b=>D.tup [.int b.1,b.2.d]);rw[cU]at this;exact this
 have wr:(q.2.1.reverse.foldl (fun w b=>OT.bind b.1 b.2 w) w.1)=qVr q.2.1 w.1:=by
  unfold qVr;grind
 rw[wr]at wl;refine v7 (o:=.rt (.fz (qVr q.2.1 w.1).d) [.s true (opO hs no st w.2),.s false (.fz (Tm.call f as).d),.s false (.fz (nmD ν)),.s false (.fz (rowD (f,p))),.s false (.fz (nmD q.1)),.s false (.fz (fzO (.ow .lst (bindO q.2.1)))),y6,y7,z8,.un,z10]) ?_ rfl;refine qZ (o:=.fz (rowD (f,p))) (wQ (qWk e0) rfl) ?_
 refine qZ (o:=.ow (.dct []) []) rfl ?_
 refine qZ (o:=.ow .lst []) rfl ?_
 refine jK (jD (ds:=zipD (p.1.map .str) (Tm.ds as)) (qQm (xs:=[.tup (p.1.map .str),.tup (Tm.ds as)]) (qE rfl (qE rfl (zB rfl) rfl) rfl) rfl rfl) lp) ?_
 refine qZ (o:=.fz w.1.d) (e:=[.s true (opO hs no st w.2),.s false (.fz (Tm.call f as).d),.s false (.fz (nmD ν)),.s false (.fz (rowD (f,p))),.s false (.fz (nmD q.1)),.s false (.ow .lst (bindO q.2.1)),y6,y7,y8,.un,.un]) ?_ ?_
 ·refine vM (h0:= .p 0 []) rfl (by kernel_rfl) (hs:=[.d p.2.d, .d (nmD q.1)]) (e1:=[.s true (opO hs no st q.2.2), .s false (.fz (Tm.call f as).d), .s false (.fz (nmD ν)), .s false (.fz (rowD (f,p))), .s false (.fz (nmD q.1)), .s false (.ow .lst (bindO q.2.1)),y6,y7,y8, .un, .un]) ?_ ?_
  ·refine vZ (d:=p.2.d) rfl (vZ (d:=nmD q.1) (e:=[.s true (opO hs no st q.2.2), .s false (.fz (Tm.call f as).d), .s false (.fz (nmD ν)), .s false (.fz (rowD (f,p))), .s false (.fz (nmD q.1)), .s false (.ow .lst (bindO q.2.1)),y6,y7,y8, .un, .un]) ?_ (vQ rfl) rfl) rfl;have g:∀e:Ev,e=[.s true (opO hs no st q.2.2),.s false (.fz (Tm.call f as).d),.s false (.fz (nmD ν)),.s false (.fz (rowD (f,p))),.s false (.ow (.dct (qR Sum.inr q.1)) (q.1.map fun p=>.fz (nmv p))),.s false (.ow .lst (bindO q.2.1)),y6,y7,y8,.un,.un]->oV (oN 4) e=.ok (nmD q.1,[.s true (opO hs no st q.2.2),.s false (.fz (Tm.call f as).d),.s false (.fz (nmD ν)),.s false (.fz (rowD (f,p))),.s false (.fz (nmD q.1)),.s false (.ow .lst (bindO q.2.1)),y6,y7,y8,.un,.un]):=fun e he=>by
    rw[←vKg,he];rfl
   exact g _ rfl
  ·exact qU rfl rfl rfl c2 rfl rfl rfl
 have rv:rvL [.nd .lst (q.2.1.map fun b=>.tup [.int b.1,b.2.d])]=some (q.2.1.reverse.map fun b=>D.tup [.int b.1,b.2.d]):=by
  show some (List.reverse _)=_;simp_all
 refine jK (jD (ds:=q.2.1.reverse.map fun b=>D.tup [.int b.1,b.2.d]) (e:=[.s true (opO hs no st w.2),.s false (.fz (Tm.call f as).d),.s false (.fz (nmD ν)),.s false (.fz (rowD (f,p))),.s false (.fz (nmD q.1)),.s false (.fz (fzO (.ow .lst (bindO q.2.1)))),y6,y7,y8,.s false (.fz w.1.d),.un]) (qQm (xs:=[.nd .lst (q.2.1.map fun b=>.tup [.int b.1,b.2.d])]) ?_ rv rfl) wl) ?_
 ·rw[←bf];exact qE rfl (zB rfl) rfl
 ·exact wX rfl rfl
theorem vQf(hh:okHs hs):∀h:Nat,xJ hs h
 | 0=>fun ν t s no st q _ e=>by cases e
 | h + 1=>fun ν t s no st q hw e=>by
   have ih:=vQf hh h;cases t with
   |num n=>exact qZs ν _ s no st q (.inl ⟨n,rfl⟩) e
   |name x=>exact qZs ν _ s no st q (.inr (.inl ⟨x,rfl⟩)) e
   |flip a b=>exact qZs ν _ s no st q (.inr (.inr (.inl ⟨a,b,rfl⟩))) e
   |pick ps=>exact qZs ν _ s no st q (.inr (.inr (.inr ⟨ps,rfl⟩))) e
   |op g x y=>exact zJy ih ν g x y s no st q hw e
   |rest x n=>exact vYb ih ν x n s no st q hw e
   |field x n=>exact vJi ih ν x n s no st q hw e
   |ite c x y=>exact zVl ih ν c x y s no st q hw e
   |rcd xs as=>exact zVk ih ν xs as s no st q hw e
   | call f as=>
     have e' :(match getA hs f with|none=>Res.no|some p=>(jX (qI hs h ν) p.1 as s [] []).bind fun q=>(qI hs h q.1 p.2 q.2.2).bind fun w=>.ok (qVr q.2.1 w.1,w.2))=.ok q:=e;cases e0:getA hs f with
     |none=>rw[e0]at e';cases e'
     | some p=>
       rw[e0]at e';obtain⟨r,e1,e'⟩:=qY e';obtain⟨w,e2,e'⟩:=qY e';cases e';have c:=vQv hh ih ν f as s no st p r w hw e0 e1 e2;unfold F_Opener_open_term;repeat' (first|((with_reducible refine' fnx c ?_);rfl)|array_get_dec)
end
theorem vV{x:Res α}{f:α->Res β}{fs:List (Str×D)}(h:x=.er C fs):x.bind f=.er C fs:=by rw[h];rfl
section
variable{hs:Hs}{no:O}{st:List O}{s:Sd}
theorem vV8(h:¬s.tm<600):vS [.s true (opO hs no st s)]=.er 25 []:=by
 have h' :decide (600<s.tm+1)=true:=decide_eq_true (by omega);unfold vS;exact zI (qQj qKv rfl (vN (xC qKu rfl rfl) (vD h' (qX2 rfl))))
theorem zWv(w:List (Int×Int))(h:¬s.dr.length<60)(h2:s.dr.length<=1000):vT [.s true (opO hs no st s),.s false (.fz (drD w))]=.er 25 []:=by
 have h' :decide (60<((s.dr ++ [w]).length :Int))=true:=decide_eq_true (by simp;omega);unfold vT;exact zI (v8 (vV6 w h2) (qD (xC (vXc (drD w) {s with dr:=s.dr ++ [w]}) rfl rfl) (vD h' (jP (qX2 rfl)))))
end
section
variable{hs:Hs}{h:Nat}{ν:Nm}{s:Sd}{no:O}{st:List O}
inductive Sm5:Tm->Prop
 |num (n:Int):Sm5 (.num n)
 |name (x:Str):Sm5 (.name x)
 |flip (a b:Int):Sm5 (.flip a b)
 |pick (ps:List (Int×Int)):Sm5 (.pick ps)
 |op {g:Sg} {x y:Tm} (hx:Sm5 x) (hy:Sm5 y):Sm5 (.op g x y)
 |call {f:Str} {as:List Tm} (ha:∀a∈as,Sm5 a):Sm5 (.call f as)
noncomputable abbrev oE(hs:Hs)(no:O)(st:List O)(s:Sd)(t:Tm)(ν:Nm):Ev:=[.s true (opO hs no st s),.s false (.fz t.d),.s false (.fz (nmD ν))]
theorem qZb{t:Tm}(ht:Sm5 t)(nc:∀f as,t≠ .call f as)(hc:¬s.tm<600):F_Opener_open_term (h+1) (oE hs no st s t ν)=.er 25 []:=by
 have ce:=vV8 (hs:=hs) (no:=no) (st:=st) hc;cases ht with
 |call ha=>exact absurd rfl (nc _ _)
 |num n=>exact zI (qZ (o:=.fz (.str "num")) (e:=oE hs no st s (.num n) ν ++ [.un,.un,.un]) rfl (qD (q:=false) rfl (qM (jP (vV (vM rfl rfl rfl (v5 rfl rfl rfl ce)))))))
 |name x=>exact zI (qZ (o:=.fz (.str "name")) (e:=oE hs no st s (.name x) ν ++ [.un,.un,.un]) rfl (qD (q:=false) rfl (qM (jP (vV (vM rfl rfl rfl (v5 rfl rfl rfl ce)))))))
 |flip a b=>exact zI (qZ (o:=.fz (.str "flip")) (e:=oE hs no st s (.flip a b) ν ++ [.un,.un,.un]) rfl (qD (q:=false) rfl (qM (jP (vV (vM rfl rfl rfl (v5 rfl rfl rfl ce)))))))
 |pick ps=>exact zI (qZ (o:=.fz (.str "pick")) (e:=oE hs no st s (.pick ps) ν ++ [.un,.un,.un]) rfl (qD (q:=false) rfl (qM (jP (vV (vM rfl rfl rfl (v5 rfl rfl rfl ce)))))))
 |@op g x y hx hy=>exact zI (qZ (o:=.fz (.str "op")) (e:=oE hs no st s (.op g x y) ν ++ [.un,.un,.un]) rfl (qD (q:=false) rfl (qM (jP (vV (vM rfl rfl rfl (v5 rfl rfl rfl ce)))))))
end
section
variable{hs:Hs}{h:Nat}{ν:Nm}{s:Sd}{no:O}{st:List O}
noncomputable abbrev oF(hs:Hs)(no:O)(st:List O)(s:Sd)(t:Tm)(ν:Nm)(k:Str):Ev:=[.s true (opO hs no st {s with tm:=s.tm+1}),.s false (.fz t.d),.s false (.fz (nmD ν)),.s false (.fz (.str k)),.un,.un]
theorem vW7{t:Tm}{k:Str}(ht:(∃a b,t=.flip a b/\k="flip"/\w=[(0,b - a),(1,a)])\/∃ps,t=.pick ps/\k="pick"/\w=ps)(hc:s.tm<600)(hd:¬s.dr.length<60)(hd2:s.dr.length<=1000):F_Opener_open_term (h+1) (oE hs no st s t ν)=.er 25 []:=by
 have c:=jG (hs:=hs) (no:=no) (st:=st) hc;have de:=zWv (hs:=hs) (no:=no) (st:=st) (s:={s with tm:=s.tm+1}) w hd hd2;have fin:fzS (qG xK [(.v (oV (oN 1)))]) (oF hs no st s t ν k)=.ok (drD w,oF hs no st s t ν k)->F_Opener_open_term (h+1) (oE hs no st s t ν)=.er 25 []:=fun df=>by
  have m:j5 2 "new_draw" vT (.io 0) [(.v (fzS (qG xK [(.v (oV (oN 1)))])))] (oF hs no st s t ν k)=.er 25 []:=vM rfl rfl (vZ df (vQ rfl) rfl) (v5 rfl rfl rfl de);have v:evVs [(oV (oC (.str "draw"))),(fzS (j5 2 "new_draw" vT (.io 0) [(.v (fzS (qG xK [(.v (oV (oN 1)))])))]))] (oF hs no st s t ν k)=.er 25 []:=by
   show(evVs [(fzS (j5 2 "new_draw" vT (.io 0) [(.v (fzS (qG xK [(.v (oV (oN 1)))])))]))] (oF hs no st s t ν k)).bind _=_;exact vV (vV (vV m))
  rcases ht with⟨a,b,rfl,rfl,_⟩|⟨ps,rfl,rfl,_⟩
  ·exact zI (qZ (o:=.fz (.str "flip")) (e:=oE hs no st s (.flip a b) ν ++ [.un,.un,.un]) rfl (qD (q:=false) rfl (qM (v8 (o:=.fz .non) (e:=oF hs no st s (.flip a b) ν "flip") (vM rfl rfl rfl (qU rfl rfl rfl c rfl rfl rfl)) (qD (q:=false) rfl (qM (qD (q:=false) rfl (qM (qD (q:=true) rfl (jP (vV (vV (vV v)))))))))))))
  ·exact zI (qZ (o:=.fz (.str "pick")) (e:=oE hs no st s (.pick ps) ν ++ [.un,.un,.un]) rfl (qD (q:=false) rfl (qM (v8 (o:=.fz .non) (e:=oF hs no st s (.pick ps) ν "pick") (vM rfl rfl rfl (qU rfl rfl rfl c rfl rfl rfl)) (qD (q:=false) rfl (qM (qD (q:=false) rfl (qM (qD (q:=true) rfl (jP (vV (vV (vV v)))))))))))))
 refine fin ?_
 rcases ht with⟨a,b,rfl,rfl,rfl⟩|⟨ps,rfl,rfl,rfl⟩
 ·exact zR (qL (vZ (d:=(Tm.flip a b).d) rfl (vQ rfl) rfl) (qU rfl rfl rfl (qW4 a b) rfl rfl rfl)) rfl
 ·exact zR (qL (vZ (d:=(Tm.pick w).d) rfl (vQ rfl) rfl) (qU rfl rfl rfl (qW3 w) rfl rfl rfl)) (by rw[vXe];rfl)
end

theorem vY{x:Res α}{f:α->Res β}{fs:List (Str×D)}(h:x.bind f=.er C fs):x=.er C fs\/∃a,x=.ok a/\f a=.er C fs:=by
 cases x with
 |ok a=>exact .inr ⟨a,rfl,h⟩
 |er D gs=>exact .inl (by cases h;rfl)
 |no=>cases h
theorem vK7{sp:SP}{a:SE}{f:List O->O->Option (O×List O)}{π:List Nat}{fs:List (Str×D)}(h1:sp env=some (.p i π))(h2:qVu env i π=some os)(h3:a env=.er C fs):eMu1 sp a f env=.er C fs:=by
 unfold eMu1;rw[h1];show(opt (qVu env i π)).bind _=_;rw[h2];show(a env).bind _=_;exact vV h3
section
variable{hs:Hs}{h:Nat}
noncomputable def qKa(hs:Hs)(h:Nat):Prop:=∀(ν:Nm) (t:Tm) (s:Sd) (no:O) (st:List O) (C:Nat) (fs:List (Str×D)),Sm5 t->t.wf->s.dr.length<=60->qI hs h ν t s=.er C fs->F_Opener_open_term h (oE hs no st s t ν)=.er C fs
noncomputable def qV1(hs:Hs)(h:Nat):Prop:=∀(ν:Nm) (t:Tm) (s:Sd) (q:OT×Sd),s.dr.length<=60->qI hs h ν t s=.ok q->q.2.dr.length<=60
theorem vWu(ih:xJ hs h)(ie:qKa hs h)(kd:qV1 hs h){st:List O}{fs:List (Str×D)}:∀(ts:List Tm) (s:Sd) (a k x5:Slot) (acc:List O),(∀t∈ts,Sm5 t)->Tm.wfs ts->s.dr.length<=60->acc.length+ts.length<=1000->qVt (qI hs h ν) ts s=.er C fs->
  forS (gN 5) (vI (F_Opener_open_term h)) (Tm.ds ts) [.s true (opO hs no st s),a,.s false (.fz (nmD ν)),k,.s false (.ow .lst acc),x5]=.er C fs
 |[],s,a,k,x5,acc,_,_,_,_,e=>by cases e
 | t::ts,s,a,k,x5,acc,hm,hw,hd,hl,e=>by
   rw[Tm.wfs]at hw;rw[aY]at hl;rw[Tm.ds];rcases vY e with e1|⟨v,e1,e⟩
   ·refine qVh (e1:=[.s true (opO hs no st s),a, .s false (.fz (nmD ν)),k, .s false (.ow .lst acc), .s false (.fz t.d)]) rfl (vV (vK7 (i:=4) (π:=[]) (os:=acc) rfl rfl ?_));exact vM rfl rfl rfl (v5 rfl rfl rfl (ie ν t s no st C fs (hm t (by simp)) hw.1 hd e1))
   ·rcases vY e with e2 | ⟨r,e2,e⟩
    ·have c1:=ih ν t s no st v hw.1 e1;have ap:apF acc (.fz v.1.d)=some (.fz .non,acc ++ [.fz v.1.d]):=by
      unfold apF;rw[decide_eq_true (show acc.length<=lim from aO (by omega) (show 1000<=1000000 by decide))];rfl
     have lp:=vWu ih ie kd (fs:=fs) (st:=st) ts v.2 a k (.s false (.fz t.d)) (acc ++ [.fz v.1.d]) (fun x hx=>hm x (aC _ hx)) hw.2 (kd ν t s v hd e1) (by rw[aB];simp;omega) e2;refine vJ rfl ?_ lp;unfold vI;repeat' (first|((with_reducible refine' fnx c1 ?_);rfl)|array_get_dec|exact ap)
    ·cases e
set_option maxHeartbeats 4000000 in
theorem jVa(ih:xJ hs h)(ie:qKa hs h)(kd:qV1 hs h){x y:Tm}{s:Sd}{st:List O}{fs:List (Str×D)}(hx:Sm5 x)(hy:Sm5 y)(hw:(Tm.op g x y).wf)(hc:s.tm<600)(hd:s.dr.length<=60)(e:qVt (qI hs h ν) [x,y] {s with tm:=s.tm+1}=.er C fs):F_Opener_open_term (h+1) (oE hs no st s (.op g x y) ν)=.er C fs:=by
 rw[Tm.wf]at hw;have c:=jG (hs:=hs) (no:=no) (st:=st) hc;have lp:=vWu ih ie kd (no:=no) (st:=st) [x,y] {s with tm:=s.tm+1} (.s false (.fz (Tm.op g x y).d)) (.s false (.fz (.str "op"))) .un [] (by simp[hx,hy]) (by simp only[Tm.wfs];exact⟨hw.1,hw.2,trivial⟩) hd (by simp) e;have pt:fzS (qG qO [(.v (oV (oN 1)))]) [.s true (opO hs no st {s with tm:=s.tm+1}),.s false (.fz (Tm.op g x y).d),.s false (.fz (nmD ν)),.s false (.fz (.str "op")),.s false (.ow .lst []),.un]=.ok (.nd .lst (Tm.ds [x,y]),[.s true (opO hs no st {s with tm:=s.tm+1}),.s false (.fz (Tm.op g x y).d),.s false (.fz (nmD ν)),.s false (.fz (.str "op")),.s false (.ow .lst []),.un]):=zR (qL (vZ (d:=(Tm.op g x y).d) rfl (vQ rfl) rfl) (qU rfl rfl rfl (qV6 (.str g.s) x.d y.d) rfl rfl rfl)) rfl;have l4:sFor (iV (fzS (qG qO [(.v (oV (oN 1)))]))) (gN 5) (vI (F_Opener_open_term h)) [.s true (opO hs no st {s with tm:=s.tm+1}),.s false (.fz (Tm.op g x y).d),.s false (.fz (nmD ν)),.s false (.fz (.str "op")),.s false (.ow .lst []),.un]=.er C fs:=jD (vJ1 pt rfl rfl) lp;have c1:jU (j5 2 "count_term" vS (.io 0) []) (oE hs no st s (.op g x y) ν ++ [.s false (.fz (.str "op")),.un,.un])=.ok (.nx (oF hs no st s (.op g x y) ν "op")):=wJ (vM rfl rfl rfl (qU rfl rfl rfl c rfl rfl rfl)) rfl;have tl:∀{t:SS},sSeq (sSet 4 (eLst [])) (sSeq (sFor (iV (fzS (qG qO [(.v (oV (oN 1)))]))) (gN 5) (vI (F_Opener_open_term h))) t) (oF hs no st s (.op g x y) ν "op")=.er C fs:=fun {t}=>qZ (o:=.ow .lst []) rfl (jP l4)
 refine zI (qZ (o:=.fz (.str "op")) (e:=oE hs no st s (.op g x y) ν ++ [.un,.un,.un]) rfl (qD (q:=false) rfl (qH rfl (qM (jK c1 ?_)))));refine qD (q:=false) rfl (qH rfl (qM (qD (q:=false) rfl (qH rfl (qM (qD (q:=false) rfl (qH rfl (qM tl))))))))
end
section
variable{hs:Hs}{h:Nat}
theorem wG{s:Sd}{fs:List (Str×D)}(e:count s=.er C fs):¬s.tm<600/\C=25/\fs=[]:=by
 unfold count at e;split at e
 ·cases e
 ·rename_i z;cases e;exact⟨z,rfl,rfl⟩
noncomputable abbrev kE(hs:Hs)(no:O)(st:List O)(s:Sd)(a:Slot)(ν:Nm)(k3:Slot)(own:Nm)(bs:List (Int×OT))(x6 x7 x8 x9 x10:Slot):Ev:=[.s true (opO hs no st s),a,.s false (.fz (nmD ν)),k3,.s false (.ow (.dct (qR Sum.inr own)) (own.map fun p=>.fz (nmv p))),.s false (.ow .lst (bindO bs)),x6,x7,x8,x9,x10]
theorem vXn(ih:xJ hs h)(ie:qKa hs h)(kd:qV1 hs h){st:List O}{a:Slot}{fs:List (Str×D)}:∀(xs:List Str) (ts:List Tm) (s:Sd) (own:Nm) (bs:List (Int×OT)) (x6 x7 x8:Slot),(∀t∈ts,Sm5 t)->Tm.wfs ts->s.dr.length<=60->own.length+ts.length<=1000->bs.length+ts.length<=1000->jX (qI hs h ν) xs ts s own bs=.er C fs->
  forS (gT 2 (gCn (gN 6) (gCn (gN 7) gNl))) (zC (F_Opener_open_term h)) (zipD (xs.map .str) (Tm.ds ts)) (kE hs no st s a ν k3 own bs x6 x7 x8 x9 x10)=.er C fs
 |[],ts,s,own,bs,x6,x7,x8,_,_,_,_,_,e=>by cases e
 |x::xs,[],s,own,bs,x6,x7,x8,_,_,_,_,_,e=>by cases e
 | x::xs,t::ts,s,own,bs,x6,x7,x8,hm,hw,hd,ho,hb,e=>by
   rw[Tm.wfs]at hw;rw[aY]at ho hb;rw[Tm.ds];rcases vY (show(count s).bind _=_ from e) with e1|⟨s1,e1,e⟩
   ·obtain⟨z,rfl,rfl⟩:=wG e1;exact qVh (e1:=kE hs no st s a ν k3 own bs (.s false (.fz (.str x))) (.s false (.fz t.d)) x8 x9 x10) rfl (jP (vV (vM rfl rfl rfl (v5 rfl rfl rfl (vV8 z)))))
   ·obtain⟨z,rfl⟩:=vB e1;rcases vY e with e2|⟨q,e2,e⟩
    ·have c:=jG (hs:=hs) (no:=no) (st:=st) z;have d:=ie ν t {s with tm:=s.tm+1} no st C fs (hm t (by simp)) hw.1 hd e2;exact qVh (e1:=kE hs no st s a ν k3 own bs (.s false (.fz (.str x))) (.s false (.fz t.d)) x8 x9 x10) rfl (v8 (o:=.fz .non) (e:=kE hs no st {s with tm:=s.tm+1} a ν k3 own bs (.s false (.fz (.str x))) (.s false (.fz t.d)) x8 x9 x10) (vM rfl rfl rfl (qU rfl rfl rfl c rfl rfl rfl)) (jP (vV (vM rfl rfl rfl (v5 rfl rfl rfl d)))))
    ·have hl:=xF (l:=own) (i:=x) (v:=q.2.sl);have k:=kd ν t {s with tm:=s.tm+1} q hd e2;have lp:=vXn ih ie kd (a:=a) (st:=st) xs ts {q.2 with sl:=q.2.sl+1} _ _ (.s false (.fz (.str x))) (.s false (.fz t.d)) (.s false (.fz q.1.d)) (fun y hy=>hm y (aC _ hy)) hw.2 k (by omega) (by rw[aB];simp;omega) e;exact vJ rfl (qKx ih hw.1 (by omega) (by omega) e1 e2) lp
end
section
variable{hs:Hs}{h:Nat}
theorem vQp(kd:qV1 hs h):∀(xs:List Str) (ts:List Tm) (s:Sd) (own:Nm) (bs:List (Int×OT)) (q:Nm×List (Int×OT)×Sd),s.dr.length<=60->jX (qI hs h ν) xs ts s own bs=.ok q->q.2.2.dr.length<=60
 |[],ts,s,own,bs,q,hd,e=>by cases e;exact hd
 |x::xs,[],s,own,bs,q,hd,e=>by cases e;exact hd
 | x::xs,t::ts,s,own,bs,q,hd,e=>by
   obtain⟨s1,e1,e⟩:=qY (show(count s).bind _=_ from e);obtain⟨_,rfl⟩:=vB e1;obtain⟨v,e2,e⟩:=qY e;exact vQp kd xs ts {v.2 with sl:=v.2.sl+1} _ _ q (kd ν t {s with tm:=s.tm+1} v hd e2) e
theorem zZd(hh:okHs hs)(ih:xJ hs h)(ie:qKa hs h)(kd:qV1 hs h)(ν:Nm)(f:Str)(as:List Tm)(s:Sd)(no:O)(st:List O)(p:List Str×Tm)(C:Nat)(fs:List (Str×D))(ha:∀a∈as,Sm5 a)(hw:(Tm.call f as).wf)(hp:Sm5 p.2)(hd:s.dr.length<=60)(e0:getA hs f=some p)(e:(jX (qI hs h ν) p.1 as s [] []).bind (fun q=>(qI hs h q.1 p.2 q.2.2).bind fun w=>.ok (qVr q.2.1 w.1,w.2))=.er C fs):
  zT (F_Opener_open_term h) (oE hs no st s (.call f as) ν)=.er C fs:=by
 rw[Tm.wf]at hw;unfold zT;rcases vY e with e1|⟨q,e1,e⟩
 ·have lp:=vXn ih ie kd (x9:= .un) (x10:= .un) (a:= .s false (.fz (Tm.call f as).d)) (k3:= .s false (.fz (rowD (f,p)))) (no:=no) (st:=st) p.1 as s [] [] .un .un .un ha hw.2 hd (by simp;omega) (by simp;omega) e1;refine zI (qZ (o:=.fz (rowD (f,p))) (wQ (qWk e0) rfl) ?_);refine qZ (o:=.ow (.dct []) []) rfl (qZ (o:=.ow .lst []) rfl ?_);exact jP (jD (ds:=zipD (p.1.map .str) (Tm.ds as)) (qQm (xs:=[.tup (p.1.map .str),.tup (Tm.ds as)]) (qE rfl (qE rfl (zB rfl) rfl) rfl) rfl rfl) lp)
 ·rcases vY e with e2 | ⟨w,_,e⟩
  ·obtain⟨y6,y7,y8,lp⟩:=call_loop ih (x9:= .un) (x10:= .un) (a:= .s false (.fz (Tm.call f as).d)) (k3:= .s false (.fz (rowD (f,p)))) (no:=no) (st:=st) p.1 as s [] [] q .un .un .un hw.2 (by simp;omega) (by simp;omega) e1;have c2:=ie q.1 p.2 q.2.2 no st C fs hp (hh.get e0) (vQp kd _ _ _ _ _ _ hd e1) e2;refine zI (qZ (o:=.fz (rowD (f,p))) (wQ (qWk e0) rfl) ?_);refine qZ (o:=.ow (.dct []) []) rfl (qZ (o:=.ow .lst []) rfl ?_);refine jK (jD (ds:=zipD (p.1.map .str) (Tm.ds as)) (qQm (xs:=[.tup (p.1.map .str),.tup (Tm.ds as)]) (qE rfl (qE rfl (zB rfl) rfl) rfl) rfl rfl) lp) (jP (vV ?_));refine vM (h0:=.p 0 []) rfl (by kernel_rfl) (hs:=[.d p.2.d,.d (nmD q.1)]) (e1:=[.s true (opO hs no st q.2.2),.s false (.fz (Tm.call f as).d),.s false (.fz (nmD ν)),.s false (.fz (rowD (f,p))),.s false (.fz (nmD q.1)),.s false (.ow .lst (bindO q.2.1)),y6,y7,y8,.un,.un]) ?_ (v5 rfl rfl rfl c2)
   refine vZ (d:=p.2.d) rfl (vZ (d:=nmD q.1) (e:=[.s true (opO hs no st q.2.2),.s false (.fz (Tm.call f as).d),.s false (.fz (nmD ν)),.s false (.fz (rowD (f,p))),.s false (.fz (nmD q.1)),.s false (.ow .lst (bindO q.2.1)),y6,y7,y8,.un,.un]) ?_ (vQ rfl) rfl) rfl;have g:∀e:Ev,e=kE hs no st q.2.2 (.s false (.fz (Tm.call f as).d)) ν (.s false (.fz (rowD (f,p)))) q.1 q.2.1 y6 y7 y8 .un .un ->oV (oN 4) e=.ok (nmD q.1,[.s true (opO hs no st q.2.2),.s false (.fz (Tm.call f as).d),.s false (.fz (nmD ν)),.s false (.fz (rowD (f,p))),.s false (.fz (nmD q.1)),.s false (.ow .lst (bindO q.2.1)),y6,y7,y8,.un,.un]):=fun e he=>by
    rw[←vKg,he];rfl
   exact g _ rfl
  ·cases e
theorem zWt(hh:okHs hs)(ih:xJ hs h)(ie:qKa hs h)(kd:qV1 hs h)(ν:Nm)(f:Str)(as:List Tm)(s:Sd)(no:O)(st:List O)(p:List Str×Tm)(C:Nat)(fs:List (Str×D))(ha:∀a∈as,Sm5 a)(hw:(Tm.call f as).wf)(hp:Sm5 p.2)(hd:s.dr.length<=60)(e0:getA hs f=some p)(e:(jX (qI hs h ν) p.1 as s [] []).bind (fun q=>(qI hs h q.1 p.2 q.2.2).bind fun w=>.ok (qVr q.2.1 w.1,w.2))=.er C fs):
  F_Opener_open_term (h+1) (oE hs no st s (.call f as) ν)=.er C fs:=by
 have c:=zZd hh ih ie kd ν f as s no st p C fs ha hw hp hd e0 e;refine zI (qZ (o:=.fz (.str "call")) (e:=oE hs no st s (.call f as) ν ++ [.un,.un,.un]) rfl (qD (q:=true) rfl (vD rfl (jP (vV (vM rfl rfl rfl (v5 rfl rfl rfl c)))))))
end
section
variable{hs:Hs}
theorem vXd{s:Sd}(e:jN w s=.ok q):q.2.dr.length<=60:=by
 unfold jN at e;split at e
 ·cases e;show(s.dr ++ [w]).length <=60;rw[aB];simp;omega
 ·cases e
theorem vVw{h:Nat}(kd:qV1 hs h):∀(ts:List Tm) (s:Sd) (q:List OT×Sd),s.dr.length<=60->qVt (qI hs h ν) ts s=.ok q->q.2.dr.length<=60
 |[],s,q,hd,e=>by cases e;exact hd
 | t::ts,s,q,hd,e=>by
   obtain⟨v,e1,e⟩:=qY (show(qI hs h ν t s).bind _=_ from e);obtain⟨z,e2,e⟩:=qY e;cases e;exact vVw kd ts v.2 z (kd ν t s v hd e1) e2
theorem qJl:∀h:Nat,qV1 hs h
 | 0=>fun ν t s q _ e=>by cases e
 | h + 1=>fun ν t s q hd e=>by
   have kd:=qJl h;cases t with
   | call f as=>
     have e' :(match getA hs f with|none=>Res.no|some p=>(jX (qI hs h ν) p.1 as s [] []).bind fun q=>(qI hs h q.1 p.2 q.2.2).bind fun w=>.ok (qVr q.2.1 w.1,w.2))=.ok q:=e;cases e0:getA hs f with
     |none=>rw[e0]at e';cases e'
     | some p=>
       rw[e0]at e';obtain⟨r,e1,e'⟩:=qY e';obtain⟨w,e2,e'⟩:=qY e';cases e';exact kd _ _ _ w (vQp kd _ _ _ _ _ _ hd e1) e2
   | num n=>
     obtain⟨s1,e1,e⟩:=qY (show(count s).bind _=_ from e);obtain⟨_,rfl⟩:=vB e1;cases e;exact hd
   | name x=>
     obtain⟨s1,e1,e⟩:=qY (show(count s).bind _=_ from e);obtain⟨_,rfl⟩:=vB e1;cases e0:getA ν x with
     |none=>rw[e0]at e;cases e
     |some i=>rw[e0]at e;cases e;exact hd
   | flip a b=>
     obtain⟨s1,e1,e⟩:=qY (show(count s).bind _=_ from e);exact vXd e
   | pick ps=>
     obtain⟨s1,e1,e⟩:=qY (show(count s).bind _=_ from e);exact vXd e
   | op g x y=>
     obtain⟨s1,e1,e⟩:=qY (show(count s).bind _=_ from e);obtain⟨_,rfl⟩:=vB e1;obtain⟨a,e2,e⟩:=qY e;obtain⟨b,e3,e⟩:=qY e;cases e;exact kd _ _ _ b (kd _ _ {s with tm:=s.tm+1} a hd e2) e3
   | rest x n=>
     obtain⟨s1,e1,e⟩:=qY (show(count s).bind _=_ from e);obtain⟨_,rfl⟩:=vB e1;obtain⟨a,e2,e⟩:=qY e;cases e;exact kd _ _ {s with tm:=s.tm+1} a hd e2
   | field x n=>
     obtain⟨s1,e1,e⟩:=qY (show(count s).bind _=_ from e);obtain⟨_,rfl⟩:=vB e1;obtain⟨a,e2,e⟩:=qY e;cases e;exact kd _ _ {s with tm:=s.tm+1} a hd e2
   | ite c x y=>
     obtain⟨s1,e1,e⟩:=qY (show(count s).bind _=_ from e);obtain⟨_,rfl⟩:=vB e1;obtain⟨a,e2,e⟩:=qY e;obtain⟨b,e3,e⟩:=qY e;obtain⟨d,e4,e⟩:=qY e;cases e;exact kd _ _ _ d (kd _ _ _ b (kd _ _ {s with tm:=s.tm+1} a hd e2) e3) e4
   | rcd xs as=>
     obtain⟨s1,e1,e⟩:=qY (show(count s).bind _=_ from e);obtain⟨_,rfl⟩:=vB e1;obtain⟨a,e2,e⟩:=qY e;cases e;exact vVw kd as {s with tm:=s.tm+1} a hd e2
theorem qW5{s:Sd}{fs:List (Str×D)}(e:jN w s=.er C fs):¬s.dr.length<60/\C=25/\fs=[]:=by
 unfold jN at e;split at e
 ·cases e
 ·rename_i z;cases e;exact⟨z,rfl,rfl⟩
theorem zXl(hh:okHs hs)(h5:∀f p,getA hs f=some p->Sm5 p.2):∀h:Nat,qKa hs h
 | 0=>fun ν t s no st C fs _ _ _ e=>by cases e
 | h + 1=>fun ν t s no st C fs ht hw hd e=>by
   have ie:=zXl hh h5 h;have ih:=vQf hh h;have kd:=qJl (hs:=hs) h;have ht' :=ht;cases ht with
   | @call f as ha=>
     have e' :(match getA hs f with|none=>Res.no|some p=>(jX (qI hs h ν) p.1 as s [] []).bind fun q=>(qI hs h q.1 p.2 q.2.2).bind fun w=>.ok (qVr q.2.1 w.1,w.2))=.er C fs:=e;cases e0:getA hs f with
     |none=>rw[e0]at e';cases e'
     | some p=>
       rw[e0]at e';exact zWt hh ih ie kd ν f as s no st p C fs ha hw (h5 f p e0) hd e0 e'
   | num n=>
     rcases vY (show(count s).bind _=_ from e) with e1|⟨s1,e1,e⟩
     ·obtain⟨z,rfl,rfl⟩:=wG e1;exact qZb ht' (fun _ _ z=>by cases z) z
     ·cases e
   | name x=>
     rcases vY (show(count s).bind _=_ from e) with e1|⟨s1,e1,e⟩
     ·obtain⟨z,rfl,rfl⟩:=wG e1;exact qZb ht' (fun _ _ z=>by cases z) z
     ·cases e0:getA ν x with
      |none=>rw[e0]at e;cases e
      |some i=>rw[e0]at e;cases e
   | flip a b=>
     rcases vY (show(count s).bind _=_ from e) with e1|⟨s1,e1,e⟩
     ·obtain⟨z,rfl,rfl⟩:=wG e1;exact qZb ht' (fun _ _ z=>by cases z) z
     ·obtain⟨hc,rfl⟩:=vB e1;obtain⟨z,rfl,rfl⟩:=qW5 e;exact vW7 (.inl ⟨a,b,rfl,rfl,rfl⟩) hc z (aO hd (by decide))
   | pick ps=>
     rcases vY (show(count s).bind _=_ from e) with e1|⟨s1,e1,e⟩
     ·obtain⟨z,rfl,rfl⟩:=wG e1;exact qZb ht' (fun _ _ z=>by cases z) z
     ·obtain⟨hc,rfl⟩:=vB e1;obtain⟨z,rfl,rfl⟩:=qW5 e;exact vW7 (.inr ⟨ps,rfl,rfl,rfl⟩) hc z (aO hd (by decide))
   | @op g x y hx hy=>
     rcases vY (show(count s).bind _=_ from e) with e1|⟨s1,e1,e⟩
     ·obtain⟨z,rfl,rfl⟩:=wG e1;exact qZb ht' (fun _ _ z=>by cases z) z
     ·obtain⟨hc,rfl⟩:=vB e1;refine jVa ih ie kd hx hy hw hc hd ?_
      rcases vY e with e2|⟨a,e2,e⟩
      ·exact vV e2
      ·rcases vY e with e3 | ⟨b,e3,e⟩
       ·show(qI hs h ν x _).bind _=_;rw[e2];show(qVt (qI hs h ν) [y] a.2).bind _=_;exact vV (vV e3)
       ·cases e
end

noncomputable def Tm.parts:Tm->List Tm
 |.op _ a b=> [a,b]
 |.rest a _=> [a]
 |.field a _=> [a]
 |.ite c a b=> [c,a,b]
 |.rcd _ as=>as
 |.call _ as=>as
 |_=> []
theorem qKh(n:D):qO [.s false (.fz (.tup [.str "num",n]))]=.ok (.ow .lst [],[.un]):=by kernel_rfl
theorem vJb(n:D):qO [.s false (.fz (.tup [.str "name",n]))]=.ok (.ow .lst [],[.un]):=by kernel_rfl
theorem vJc(a b:D):qO [.s false (.fz (.tup [.str "flip",a,b]))]=.ok (.ow .lst [],[.un]):=by kernel_rfl
theorem vJa(a:D):qO [.s false (.fz (.tup [.str "pick",a]))]=.ok (.ow .lst [],[.un]):=by kernel_rfl
theorem vJd(f:D)(ds:List D):qO [.s false (.fz (.tup [.str "call",f,.tup ds]))]=.ok (.ow .lst (ds.map .fz),[.un]):=by kernel_rfl
theorem zVj(t:Tm)(hw:t.wf):qO [.s false (.fz t.d)]=.ok (.ow .lst ((Tm.ds t.parts).map .fz),[.un]):=by
 cases t with
 |num n=>exact qKh _
 |name x=>exact vJb _
 |flip a b=>exact vJc _ _
 |pick ps=>exact vJa _
 |op g a b=>exact qV6 _ _ _
 |rest a n=>exact qYk _ _
 |field a x=>exact qWx _ _
 |ite c a b=>exact qKi _ _ _
 |rcd xs as=>rw[Tm.wf]at hw;exact qYl xs as hw.1 hw.2.1
 |call f as=>exact vJd _ _
mutual
def Tm.h:Tm->Nat
 |.num _=>1
 |.name _=>1
 |.flip _ _=>1
 |.pick _=>1
 |.op _ a b=>max a.h b.h+1
 |.rest a _=>a.h+1
 |.field a _=>a.h+1
 |.ite c a b=>max c.h (max a.h b.h)+1
 |.rcd _ as=>Tm.hs as+1
 |.call _ as=>Tm.hs as+1
def Tm.hs:List Tm->Nat
 |[]=>0
 |a::r=>max a.h (Tm.hs r)
end
theorem zJx(t:Tm):Tm.hs t.parts+1<=t.h:=by
 cases t <;> simp only[Tm.parts,Tm.h,Tm.hs] <;> omega
theorem zVi(t:Tm)(h:t.wf):Tm.wfs t.parts:=by
 cases t <;> simp only[Tm.wf]at h⊢ <;> first|trivial|exact⟨h,trivial⟩|exact⟨h.1,h.2,trivial⟩|exact⟨h.1,h.2.1,h.2.2,trivial⟩|exact h.2.2|exact h.2
mutual
def chkT(kn:Str->Bool)(hl:Nm):Tm->Bool
 |.num _=>true
 |.name x=>kn x
 |.flip _ _=>true
 |.pick _=>true
 |.op _ a b=>chkT kn hl a && chkT kn hl b
 |.rest a _=>chkT kn hl a
 |.field a _=>chkT kn hl a
 |.ite c a b=>chkT kn hl c && (chkT kn hl a && chkT kn hl b)
 |.rcd _ as=>chkTs kn hl as
 |.call f as=>decide (getA hl f=some (as.length:Int)) && chkTs kn hl as
def chkTs(kn:Str->Bool)(hl:Nm):List Tm->Bool
 |[]=>true
 |a::r=>chkT kn hl a && chkTs kn hl r
end
theorem vY2{kn:Str->Bool}{hl:Nm}(t:Tm)(h:chkT kn hl t=true):chkTs kn hl t.parts=true:=by
 cases t <;> simp_all[Tm.parts,chkT,chkTs]
theorem zKu{hl:Nm}{f:Str}{n:Int}(h:getA hl f=some n):vJ2 e (Sum.inr f) (.d (nmD hl))=some (some (.int n)):=by
 obtain⟨j,h1,h2,_⟩:=qWt wP nmv h;show(match kidx (Sum.inr f:Key) (qR Sum.inr hl) with|some j=>((hl.map nmv)[j]?).bind fun d=>some (some d)|none=>some none)=_;rw[h1];show((hl.map nmv)[j]?).bind _=_;rw[h2];rfl
section
variable{kn:Str->Bool}{hl:Nm}{nd r:D}
noncomputable def zXp(kn:Str->Bool)(hl:Nm)(nd r:D)(h:Nat):Prop:=∀t:Tm,t.h<=h->t.wf->chkT kn hl t=true->vW h [.s false (.fz r),.s false (.fz t.d),.s false (.fz nd),.s false (.fz (nmD hl))]=.ok (.fz .non,[.un,.un,.un,.un])
theorem chk_loop{h:Nat}(ih:zXp kn hl nd r h){a k:Slot}:∀(ts:List Tm) (x5:Slot),Tm.hs ts<=h->Tm.wfs ts->chkTs kn hl ts=true->
  ∃y,forS (gN 5) (jI (vW h)) (Tm.ds ts) [.s false (.fz r),a,.s false (.fz nd),.s false (.fz (nmD hl)),k,x5]=.ok (.nx [.s false (.fz r),a,.s false (.fz nd),.s false (.fz (nmD hl)),k,y])
 |[],x5,_,_,_=>⟨x5,rfl⟩
 | t::ts,x5,lh,hw,hc=>by
   rw[Tm.hs]at lh;rw[Tm.wfs]at hw;rw[chkTs,aP]at hc;have c:=ih t (by omega) hw.1 hc.1;obtain⟨y,hy⟩:=chk_loop ih (a:=a) (k:=k) ts (.s false (.fz t.d)) (by omega) hw.2 hc.2;refine⟨y,?_⟩;rw[Tm.ds];refine vJ rfl ?_ hy;unfold jI;repeat' (first|((with_reducible refine' fnx c ?_);rfl)|array_get_dec)
set_option maxHeartbeats 400000 in
theorem vZx(hn:∀x,kn x=true->inB (.str x) nd=some true):∀h:Nat,zXp kn hl nd r h
 | 0=>fun t lh _ _=>by
   exfalso
   cases t <;> simp only[Tm.h]at lh <;> omega
 | h + 1=>fun t lh hw hc=>by
   have ih:=vZx hn h
   have pp:=zVj t hw
   have ph:=zJx t
   have lpx:∀a k x5,∃y,forS (gN 5) (jI (vW h)) (Tm.ds t.parts) [.s false (.fz r),a,.s false (.fz nd),.s false (.fz (nmD hl)),k,x5]=.ok (.nx [.s false (.fz r),a,.s false (.fz nd),.s false (.fz (nmD hl)),k,y]):=fun a k x5=>chk_loop ih t.parts x5 (by omega) (zVi t hw) (vY2 t hc)
   have key:∀kd:Str,(sIf (bAnd (asB (o2 eqF (oN 4) (oC (.str "name")))) (asB (o2 niD (oIx (oN 1) (oC (.int 1))) (oN 2)))) (yK 24 "row" (oV (oN 0))) sNil) [fz r,fz t.d,fz nd,fz (nmD hl),fz (.str kd),.un]=.ok (.nx [fz r,fz t.d,fz nd,fz (nmD hl),fz (.str kd),.un])->
     (sIf (bAnd (asB (o2 eqF (oN 4) (oC (.str "call")))) (asB (o2 neF (.v (qK4 (pOf (oN 3)) (pOf (oIx (oN 1) (oC (.int 1)))))) (oL lenD [(oIx (oN 1) (oC (.int 2)))])))) (yK 24 "row" (oV (oN 0))) sNil) [fz r,fz t.d,fz nd,fz (nmD hl),fz (.str kd),.un]=.ok (.nx [fz r,fz t.d,fz nd,fz (nmD hl),fz (.str kd),.un])->
     oV (oIx (oN 0 |> fun _=>oN 1) (oC (.int 0))) [fz r,fz t.d,fz nd,fz (nmD hl),.un,.un]=.ok (.str kd,[fz r,fz t.d,fz nd,fz (nmD hl),.un,.un])->vW (h+1) [.s false (.fz r),.s false (.fz t.d),.s false (.fz nd),.s false (.fz (nmD hl))]=.ok (.fz .non,[.un,.un,.un,.un]):=fun kd k1 k2 k0=>by
    obtain⟨y,lp⟩:=lpx (fz t.d) (fz (.str kd)) .un
    have b:sFor (iV (fzS (qG qO [(.v (oV (oN 1)))]))) (gN 5) (jI (vW h)) [fz r,fz t.d,fz nd,fz (nmD hl),fz (.str kd),.un]=.ok (.nx [fz r,fz t.d,fz nd,fz (nmD hl),fz (.str kd),y]):=by
     refine jD (ds:=Tm.ds t.parts) (e:=[fz r,fz t.d,fz nd,fz (nmD hl),fz (.str kd),.un]) (vJ1 (d:=.nd .lst (Tm.ds t.parts)) (zR (o:=.ow .lst ((Tm.ds t.parts).map .fz)) (qL (vZ rfl (vQ rfl) rfl) (qU rfl rfl rfl pp rfl rfl rfl)) (by rw[zX];rfl)) rfl rfl) lp
    unfold vW
    exact v7 (qZ (wQ k0 rfl) (qQj k1 rfl (qQj k2 rfl (sAt b rfl)))) rfl
   cases t with
   |num n=>exact key "num" rfl rfl rfl
   |flip a b=>exact key "flip" rfl rfl rfl
   |pick ps=>exact key "pick" rfl rfl rfl
   |op g a b=>exact key "op" rfl rfl rfl
   |rest a n=>exact key "rest" rfl rfl rfl
   |field a x=>exact key "field" rfl rfl rfl
   |ite c a b=>exact key "if" rfl rfl rfl
   |rcd xs as=>exact key "record" rfl rfl rfl
   | name x=>
     rw[chkT]at hc
     have i:=hn x hc
     have ni:niD (.str x) nd=some (.bl false):=by unfold niD;rw[i];rfl
     refine key "name" ?_ rfl rfl
     repeat' (first|array_get_dec|exact ni)
   | call f as=>
     rw[chkT,aP]at hc
     have g:=of_decide_eq_true hc.1
     have ne:(!(((as.length:Nat):Int) == ((Tm.ds as).length :Nat)))=false:=by rw[qZp,aK];simp
     refine key "call" rfl ?_ rfl
     have gt:qK4 (pOf (oN 3)) (pOf (oIx (oN 1) (oC (.int 1)))) [fz r,fz (Tm.call f as).d,fz nd,fz (nmD hl),fz (.str "call"),.un]=.ok (.int (as.length:Nat),[fz r,fz (Tm.call f as).d,fz nd,fz (nmD hl),fz (.str "call"),.un]):=by
      have:=zKu (e:=[fz r,fz (Tm.call f as).d,fz nd,fz (nmD hl),fz (.str "call"),.un]) g
      show(opt (vJ2 _ (Sum.inr f) (.d (nmD hl)))).bind _=_
      rw[this];rfl
     refine vN (q:=false) (e:=[fz r,fz (Tm.call f as).d,fz nd,fz (nmD hl),fz (.str "call"),.un]) (qVg (q:=true) (e:=[fz r,fz (Tm.call f as).d,fz nd,fz (nmD hl),fz (.str "call"),.un]) rfl ?_) rfl
     refine xC (d:=.bl (!(((as.length:Nat):Int) == ((Tm.ds as).length :Nat)))) (zL (vG (wZ gt rfl) rfl rfl rfl rfl rfl rfl) rfl) rfl ?_
     rw[ne]
end

inductive Rw where
 |df (f:Str) (ps:List Str) (b:Tm)|lt (x:Str) (t:Tm)|ag (n:Int) (x:Str) (t:Tm)|see (t:Tm)|ask (t:Tm)
noncomputable def Rw.d:Rw->D
 |.df f ps b=>rowD (f,(ps,b))
 |.lt x t=>.tup [.str "let",.str x,t.d]
 |.ag n x t=>.tup [.str "again",.int n,.str x,t.d]
 |.see t=>.tup [.str "see",t.d]
 |.ask t=>.tup [.str "ask",t.d]
noncomputable def Rw.t:Rw->Tm
 |.df _ _ b=>b
 |.lt _ t=>t
 |.ag _ _ t=>t
 |.see t=>t
 |.ask t=>t
noncomputable abbrev Kn:=List (Str×Unit)
noncomputable abbrev knv:Str×Unit->D:=fun _=>.bl true
noncomputable def knD(kn:Kn):D:=.nd (.dct (qR Sum.inr kn)) (kn.map knv)
noncomputable def knO(kn:Kn):O:=.ow (.dct (qR Sum.inr kn)) (kn.map fun p=>.fz (knv p))
noncomputable def nmO(ν:Nm):O:=.ow (.dct (qR Sum.inr ν)) (ν.map fun p=>.fz (nmv p))
theorem zXg(kn:Kn):fzO (knO kn)=knD kn:=by
 have:=zX (k:=.dct (qR Sum.inr kn)) (kn.map knv);rw[cU]at this;exact this
theorem qXt(ν:Nm):fzO (nmO ν)=nmD ν:=vKg ν
noncomputable def wV(kn:Kn)(x:Str):Bool:=(getA kn x).isSome
theorem zQd{l:List (Str×α)}{ds:List D}{x:Str}:inB (.str x) (.nd (.dct (qR Sum.inr l)) ds)=some (getA l x).isSome :=by
 show some (kidx (Sum.inr x:Key) (qR Sum.inr l)).isSome =_;cases e:getA l x with
 |none=>rw[qJa wP e];rfl
 | some v=>
   obtain⟨j,h1,_⟩:=qWt wP (fun _=>D.non) e;rw[h1];rfl
theorem vZa:∀ps:List Str,allV (ps.map .str)=some (ps.map V.str)
 |[]=>rfl
 | p::ps=>by
   show((some (V.str p)).bind fun v=>(allV (ps.map .str)).bind fun vs=>some (v::vs))=_;rw[vZa ps];rfl
theorem vWw(x:Str):∀ps:List Str,x∈ps->inV (.str x) (ps.map V.str)=true
 |[],h=>by cases h
 | p::ps,h=>by
   unfold inV;simp only[aS,List.any_cons,Bool.or_eq_true];rcases aA.mp h with rfl|h
   ·left;show(x == x)=true;simp
   ·right;have:=vWw x ps h;unfold inV at this;exact this
theorem zWe{x:Str}{ps:List Str}(h:x∈ps):inB (.str x) (.tup (ps.map .str))=some true:=by
 show((some (V.str x)).bind fun v=>(allV (ps.map .str)).bind fun vs=>some (inV v vs))=_;rw[vZa];show some (inV (.str x) (ps.map V.str))=_;rw[vWw x ps h]
theorem putG{κ:Type}[DecidableEq κ]{kx:κ->Key}(inj:∀a b,kx a=kx b->a=b){k:SP}{a:SE}{x:κ}{y:D}{l:List (κ×α)}{v:α}{dv:κ×α->D}(h1:a env=.ok (.fz (dv (x,v)),e))(hs:e[i]?=some (.s io (.ow (.dct (qR kx l)) (l.map fun p=>.fz (dv p)))))(h2:k e=some hk)(h3:rsv e hk=some y)(h4:qWu y=some (kx x))(hl:l.length<=1000):
  sPutA (pOf (oN i)) k a env=.ok (.nx (e.set i (.s io (.ow (.dct (qR kx (putA l x v))) ((putA l x v).map fun p=>.fz (dv p)))))):=by
 have dl:decide ((l.map fun p=>O.fz (dv p)).length <=lim)=true:=decide_eq_true (by rw[aK];exact aO hl (show 1000<=1000000 by decide));have g:getE e i []=some (.ow (.dct (qR kx l)) (l.map fun p=>.fz (dv p))):=by unfold getE;rw[hs];rfl
 refine qK6 (o:=.nx (setE e i [] (putO (qR kx l) (l.map fun p=>.fz (dv p)) (kx x) (.fz (dv (x,v)))))) (qXf (i:=i) (π:=[]) (q:=(qR kx l,l.map fun p=>.fz (dv p))) (key:=kx x) h1 ?_ h2 h3 h4 ?_ dl rfl) ?_
 ·show vJx i e=_;unfold vJx;rw[hs];rfl
 ·unfold qXr;rw[g]
 ·rw [qK5 inj dv];unfold setE;rw[hs];rfl
theorem qWf{k:SP}{a:SE}{x:Str}{l:List (Str×α)}{v:α}{dv:Str×α->D}(h1:a env=.ok (.fz (dv (x,v)),e))(hs:e[i]?=some (.s io (.ow (.dct (qR Sum.inr l)) (l.map fun p=>.fz (dv p)))))(h2:k e=some hk)(h3:rsv e hk=some (.str x))(hl:l.length<=1000):
  sPutA (pOf (oN i)) k a env=.ok (.nx (e.set i (.s io (.ow (.dct (qR Sum.inr (putA l x v))) ((putA l x v).map fun p=>.fz (dv p)))))):=putG wP h1 hs h2 h3 rfl hl
noncomputable def qK8(kn:Kn)(hl:Nm):Rw->Bool
 |.df f ps b=>(getA hl f).isNone && chkT (fun x=>decide (x∈ps)) hl b
 |.ag _ x t=>wV kn x && chkT (wV kn) hl t
 |.lt _ t=>chkT (wV kn) hl t
 |.see t=>chkT (wV kn) hl t
 |.ask t=>chkT (wV kn) hl t
noncomputable def yH(kn:Kn):Rw->Kn
 |.lt x _=>putA kn x ()
 |_=>kn
noncomputable def qVc(hl:Nm):Rw->Nm
 |.df f ps _=>putA hl f ((ps.map D.str).length :Nat)
 |_=>hl
noncomputable def zN:List Rw->Kn->Nm->Bool
 |[],_,_=>true
 |r::rs,kn,hl=>qK8 kn hl r && zN rs (yH kn r) (qVc hl r)
section
variable{kn:Kn}{hl:Nm}{p:Slot}{i:Nat}
theorem zXf(x:Str)(h:wV kn x=true):inB (.str x) (knD kn)=some true:=by
 unfold knD;rw[zQd];unfold wV at h;rw[h]
noncomputable abbrev cE(p:Slot)(kn:Kn)(hl:Nm)(i:Nat)(d:D)(x5:Slot):Ev:=[p,.s false (knO kn),.s false (nmO hl),fz (.int (i:Nat)),fz d,x5]
end
theorem names_step{p:Slot}{kn:Kn}{hl:Nm}(r:Rw)(x5:Slot)(w1:r.t.wf)(w2:r.t.h<=30)(h1:kn.length<=1000)(h2:hl.length<=1000)(hc:qK8 kn hl r=true):∃y5,xV (cE p kn hl i r.d x5)=.ok (.nx (cE p (yH kn r) (qVc hl r) i r.d y5)):=by
 have c0:=fun {t:Tm} {d:D} {u:Str} (hw:t.wf) (hb:t.h<=30) (hc:chkT (wV kn) hl t=true) (el:oV (oIx (oN 4) (o1 negD (oC (.int 1)))) (cE p kn hl i d (fz (.str u)))=.ok (t.d,cE p kn hl i d (fz (.str u))))=>by
  have c:=vZx (kn:=wV kn) (hl:=hl) (nd:=knD kn) (r:=.int (i:Nat)) zXf 30 t hb hw hc;rw[←qXt,←zXg]at c;exact qL (F:=vW 30) (env:=cE p kn hl i d (fz (.str u))) (as:=[(.v (oV (oN 3))),(.v (oV (oIx (oN 4) (o1 negD (oC (.int 1)))))),(.b (pOf (oN 1))),(.b (pOf (oN 2)))]) (hs:=[.d (.int (i:Nat)),.d t.d,.p 1 [],.p 2 []]) (vZ (d:=.int (i:Nat)) rfl (vZ el rfl rfl) rfl) (qU rfl rfl rfl c rfl rfl rfl)
 cases r with
 | df f ps b=>
   have h:=hc;change ((getA hl f).isNone && chkT (fun x=>decide (x∈ps)) hl b)=true at h;rw[aP]at h;have gn:getA hl f=none:=by simpa using h.1
   have hk:(kidx (Sum.inr f:Key) (qR Sum.inr hl)).isSome =false:=by rw[qJa wP gn];rfl
   have c:=vZx (kn:=fun x=>decide (x∈ps)) (hl:=hl) (nd:=.tup (ps.map .str)) (r:=.int (i:Nat)) (fun x hx=>zWe (of_decide_eq_true hx)) 30 b w2 w1 h.2;rw[←qXt]at c;exact⟨fz (.str "def"),qZ (o:=.fz (.str "def")) rfl (vN (q:=true) rfl (qD (q:=(kidx (Sum.inr f:Key) (qR Sum.inr hl)).isSome) rfl (qH hk (qM (v8 (e:=cE p kn hl i (Rw.df f ps b).d (fz (.str "def"))) (qL (hs:=[.d (.int (i:Nat)),.d b.d,.d (.tup (ps.map .str)),.p 2 []]) rfl (qU rfl rfl rfl c rfl rfl rfl)) (qWf (α:=Int) (i:=2) (io:=false) (e:=cE p kn hl i (Rw.df f ps b).d (fz (.str "def"))) (l:=hl) (v:=((ps.map D.str).length :Nat)) (dv:=nmv) (hk:=.d (.str f)) rfl rfl rfl rfl (by omega)))))))⟩
 |lt x t=>exact⟨fz (.str "let"),qZ (o:=.fz (.str "let")) rfl (vN (q:=false) rfl (qD (q:=false) rfl (qM (v8 (c0 w1 w2 hc rfl) (vN (q:=true) rfl (vD rfl (qWf (α:=Unit) (i:=1) (io:=false) (e:=cE p kn hl i (Rw.lt x t).d (fz (.str "let"))) (l:=kn) (v:=()) (dv:=knv) (hk:=.d (.str x)) rfl rfl rfl rfl (by omega))))))))⟩
 | ag n x t=>
   have h:=hc;change (wV kn x && chkT (wV kn) hl t)=true at h;rw[aP]at h;have hk:(!(kidx (Sum.inr x:Key) (qR Sum.inr kn)).isSome)=false:=by
    have:=zXf x h.1;change some (kidx (Sum.inr x:Key) (qR Sum.inr kn)).isSome =some true at this;rw[Option.some.inj this];rfl
   exact⟨_,qZ (o:=.fz (.str "again")) rfl (vN (q:=false) rfl (qD (q:= !(kidx (Sum.inr x:Key) (qR Sum.inr kn)).isSome) rfl (qH hk (qM (v8 (c0 w1 w2 h.2 rfl) rfl)))))⟩
 |see t=>exact⟨_,qZ (o:=.fz (.str "see")) rfl (vN (q:=false) rfl (qD (q:=false) rfl (qM (v8 (c0 w1 w2 hc rfl) rfl))))⟩
 |ask t=>exact⟨_,qZ (o:=.fz (.str "ask")) rfl (vN (q:=false) rfl (qD (q:=false) rfl (qM (v8 (c0 w1 w2 hc rfl) rfl))))⟩
theorem names_loop{p:Slot}:∀(rows:List Rw) (kn:Kn) (hl:Nm) (i:Nat) (x3 x4 x5:Slot),(∀r∈rows,r.t.wf/\r.t.h<=30)->kn.length+rows.length<=1000->hl.length+rows.length<=1000->zN rows kn hl=true->
  ∃e,forS (gT 2 (gCn (gN 3) (gCn (gN 4) gNl))) xV (qQ3 i (rows.map Rw.d)) [p,.s false (knO kn),.s false (nmO hl),x3,x4,x5]=.ok (.nx (p::e))/\e.length=5
 |[],kn,hl,i,x3,x4,x5,_,_,_,_=>⟨_,rfl,rfl⟩
 | r::rs,kn,hl,i,x3,x4,x5,hw,h1,h2,hc=>by
   change (qK8 kn hl r && zN rs (yH kn r) (qVc hl r))=true at hc;rw[aP]at hc;rw[aY]at h1 h2;obtain⟨w1,w2⟩:=hw r (by simp);have l1:(yH kn r).length <=kn.length+1:=by cases r <;> first|exact xF|(show kn.length<=_;omega)
   have l2:(qVc hl r).length <=hl.length+1:=by cases r <;> first|exact xF|(show hl.length<=_;omega)
   obtain⟨y5,hs⟩:=names_step (p:=p) (i:=i) r x5 w1 w2 (by omega) (by omega) hc.1;obtain⟨e,he,le⟩:=names_loop (p:=p) rs (yH kn r) (qVc hl r) (i+1) (fz (.int (i:Nat))) (fz r.d) y5 (fun q hq=>hw q (aC _ hq)) (by omega) (by omega) hc.2;exact⟨e,vJ rfl hs he,le⟩
theorem qX7(rows:List Rw)(hw:∀r∈rows,r.t.wf/\r.t.h<=30)(hl:rows.length<=1000)(hc:zN rows [] []=true):j9 [fz (.nd .lst (rows.map Rw.d))]=.ok (.fz .non,[.un]):=by
 obtain⟨e,he,le⟩:=names_loop (p:=fz (.nd .lst (rows.map Rw.d))) rows [] [] 0 .un .un .un hw (by simpa using hl) (by simpa using hl) hc;unfold j9;refine v7 (o:=.nx (fz (.nd .lst (rows.map Rw.d))::e)) (qZ (o:=.ow (.dct []) []) rfl (qZ (o:=.ow (.dct []) []) rfl (jD (ds:=qQ3 0 (rows.map Rw.d)) (qQm (xs:=[.nd .lst (rows.map Rw.d)]) (qE rfl (zB rfl) rfl) rfl rfl) he))) rfl
noncomputable def isDf:Rw->Bool
 |.df _ _ _=>true
 |_=>false
noncomputable def dfP:D->Option D
 |.nd .tup (.str k::r)=>if k="def" then some (.nd .tup (.str k::r)) else none
 |_=>none
theorem zXn(r:Rw):dfP r.d=if isDf r=true then some r.d else none:=by cases r <;> kernel_rfl
theorem vXf(rows:List Rw)(hl:rows.length<=1000)(h3:(rows.filter isDf).length <=3):wH [fz (.nd .lst (rows.map Rw.d))]=.ok (.fz .non,[.un]):=by
 obtain⟨e',a,b⟩:=compL_ok (g:=gN 0) (t:=asB (o2 eqF (oIx (oN 0) (oC (.int 0))) (oC (.str "def")))) (el:=oV (oN 0)) (fun e=>∃u,e=[u]) dfP (ds:=rows.map Rw.d) (env:=[.un]) (fun d e hd he=>by
  obtain⟨u,rfl⟩:=he;obtain⟨r,_,rfl⟩:=List.mem_map.mp hd;refine⟨[fz r.d],rfl,?_⟩;cases r with
  |df f ps b=>exact .inl ⟨[fz (Rw.df f ps b).d],_,[fz (Rw.df f ps b).d],by kernel_rfl,rfl,rfl,_,rfl⟩
  |lt x t=>exact .inr ⟨[fz (Rw.lt x t).d],by kernel_rfl,rfl,_,rfl⟩
  |ag n x t=>exact .inr ⟨[fz (Rw.ag n x t).d],by kernel_rfl,rfl,_,rfl⟩
  |see t=>exact .inr ⟨[fz (Rw.see t).d],by kernel_rfl,rfl,_,rfl⟩
  |ask t=>exact .inr ⟨[fz (Rw.ask t).d],by kernel_rfl,rfl,_,rfl⟩) ⟨_,rfl⟩
 obtain⟨u,rfl⟩:=b;have ln:((rows.map Rw.d).filterMap dfP).length =(rows.filter isDf).length :=by
  clear a h3 hl;induction rows with
  |nil=>rfl
  | cons r rs ih=>
    rw[aS,cG,zXn,List.filter_cons];cases q:isDf r with
    |true=>rw[if_pos rfl,if_pos rfl];show _+1=_+1;rw[ih]
    |false=>rw[if_neg (by simp),if_neg (by simp)];exact ih
 have cl:decide ((rows.map Rw.d).length <=lim)=true:=decide_eq_true (by rw[aK];exact aO hl (show 1000<=1000000 by decide));generalize ((rows.map Rw.d).filterMap dfP)=fs at *;have h' :decide ((3:Int)<(fs.length:Nat))=false:=decide_eq_false (by omega);unfold wH;generalize rows.map Rw.d=ds at *;repeat' (first|array_get_dec|exact a|(show(true && decide (ds.length<=lim))=true;rw[cl];rfl))

mutual
theorem qVi:∀{d:D},v6 d=true->ndD d=true
 |.non,_=>rfl
 |.int _,_=>rfl
 |.str _,_=>rfl
 |.bl _,_=>rfl
 |.fn _,_=>rfl
 | .nd .tup ds,h=>by
   rw[ndD]
   ·exact flats_nd h
   ·intro _ z;cases z
   ·intro _ z;cases z
 |.nd .lst ds,h=>by cases h
 |.nd (.dct _) ds,h=>by cases h
 |.nd (.dcT _) ds,h=>by cases h
 |.nd (.obj _ _) ds,h=>by cases h
 |.nd (.exc _ _) ds,h=>by cases h
theorem flats_nd:∀{ds:List D},flatDs ds=true->ndDs ds=true
 |[],_=>rfl
 | d::ds,h=>by
   change (v6 d && flatDs ds)=true at h;rw[aP]at h;show(ndD d && ndDs ds)=true;rw[qVi h.1,flats_nd h.2];rfl
end
theorem qWl:∀ps:List (Int×Int),flatDs (ps.map prI)=true
 |[]=>rfl
 |p::ps=>by show(v6 (prI p) && flatDs (ps.map prI))=true;rw[qWl ps];rfl
theorem qKr:∀ps:List Str,flatDs (ps.map .str)=true
 |[]=>rfl
 |p::ps=>by show(true && flatDs (ps.map .str))=true;rw[qKr ps];rfl
mutual
theorem jS:∀t:Tm,v6 t.d=true
 |.num n=>by rw[Tm.d];rfl
 |.name x=>by rw[Tm.d];rfl
 |.flip a b=>by rw[Tm.d];rfl
 |.pick ps=>by rw[Tm.d];show(true && (flatDs (ps.map prI) && true))=true;rw[qWl];rfl
 |.op g a b=>by rw[Tm.d];show(true && (true && (v6 a.d && (v6 b.d && true))))=true;rw[jS a,jS b];rfl
 |.rest a n=>by rw[Tm.d];show(true && (v6 a.d && (true && true)))=true;rw[jS a];rfl
 |.field a x=>by rw[Tm.d];show(true && (v6 a.d && (true && true)))=true;rw[jS a];rfl
 |.ite c a b=>by rw[Tm.d];show(true && (v6 c.d && (v6 a.d && (v6 b.d && true))))=true;rw[jS c,jS a,jS b];rfl
 |.rcd xs as=>by rw[Tm.d];show(true && (flatDs (zipD (xs.map .str) (Tm.ds as)) && true))=true;rw[flat_tmz xs as];rfl
 |.call f as=>by rw[Tm.d];show(true && (true && (flatDs (Tm.ds as) && true)))=true;rw[flat_tms as];rfl
theorem flat_tms:∀as:List Tm,flatDs (Tm.ds as)=true
 |[]=>by rw[Tm.ds];rfl
 |a::as=>by rw[Tm.ds];show(v6 a.d && flatDs (Tm.ds as))=true;rw[jS a,flat_tms as];rfl
theorem flat_tmz:∀(xs:List Str) (as:List Tm),flatDs (zipD (xs.map .str) (Tm.ds as))=true
 |[],_=>rfl
 |x::xs,[]=>by rw[Tm.ds];rfl
 | x::xs,a::as=>by
   rw[Tm.ds];show((true && (v6 a.d && true)) && flatDs (zipD (xs.map .str) (Tm.ds as)))=true;rw[jS a,flat_tmz xs as];rfl
end
theorem vV1(p:Str×(List Str×Tm)):v6 (rowD p)=true:=by
 show(true && (true && (flatDs (p.2.1.map .str) && (v6 p.2.2.d && true))))=true;rw[qKr,jS];rfl
theorem qV7{f:α->D}(h:∀a,ndD (f a)=true):∀l:List α,ndOs (l.map fun a=>.fz (f a))=true
 |[]=>rfl
 | a::l=>by
   show(ndD (f a) && ndOs (l.map fun a=>.fz (f a)))=true;rw[h,qV7 h l];rfl
theorem jQ2(w:List (Int×Int)):ndD (drD w)=true:=by
 unfold drD;rw[ndD]
 ·exact flats_nd (qWl w)
 ·grind
 ·grind
theorem jQ1{hs:Hs}{st:List (Int×OT)}{s:Sd}:ndO (opO hs (nmO ν) (bindO st) s)=true:=by
 show(ndOs (hs.map fun p=>.fz (rowD p)) && (ndOs (ν.map fun p=>.fz (nmv p)) && (ndOs (bindO st) && (ndOs (s.dr.map fun w=>.fz (drD w)) && (true && (true && true))))))=true;rw[qV7 (f:=rowD) fun p=>qVi (vV1 p),qV7 (f:=nmv) fun _=>rfl,qV7 (f:=drD) jQ2];unfold bindO;rw[qV7 (f:=fun b:Int×OT=>D.tup [.int b.1,b.2.d]) fun b=>qVi (by show(true && (v6 b.2.d && true))=true;rw[wU];rfl)];rfl
theorem jVd(ν:Nm):dcFz (nmO ν)=true:=by
 unfold nmO dcFz;grind
structure Os where
 hs:Hs
 ν:Nm
 st:List (Int×OT)
 s:Sd
noncomputable def Os.o(o:Os):O:=opO o.hs (nmO o.ν) (bindO o.st) o.s
noncomputable def yU(o:Os)(x:Str)(t:Tm):Res Os:=(qI o.hs 30 o.ν t o.s).bind fun q=>.ok {o with ν:=putA o.ν x q.2.sl,st:=o.st ++ [(q.2.sl,q.1)],s:={q.2 with sl:=q.2.sl+1}}
noncomputable def wB(x:Str)(t:Tm):Nat->Os->Res Os
 | 0,o=>.ok o
 |n+1,o=>(yU o x t).bind (wB x t n)
noncomputable def yP(o:Os):Rw->Res Os
 |.df f ps b=>.ok {o with hs:=putA o.hs f (ps,b)}
 |.lt x t=>yU o x t
 |.ag n x t=>wB x t n.toNat o
 |.see t=>(qI o.hs 30 o.ν t o.s).bind fun q=>.ok {o with st:=o.st ++ [(-1,q.1)],s:=q.2}
 |.ask t=>(qI o.hs 30 o.ν t o.s).bind fun q=>.ok {o with st:=o.st ++ [(q.2.sl,q.1)],s:={q.2 with sl:=q.2.sl+1}}
noncomputable def xG:List Rw->Os->Res Os
 |[],o=>.ok o
 |r::rs,o=>(yP o r).bind (xG rs)
theorem qYg{st:List (Int×OT)}{i:Int}{t:OT}(h:st.length<=1000):apF (bindO st) (.fz (.tup [.int i,t.d]))=some (.fz .non,bindO (st ++ [(i,t)])):=by
 unfold apF;rw[decide_eq_true (show(bindO st).length <=lim by unfold bindO;rw[aK];exact aO h (show 1000<=1000000 by decide))];unfold bindO;rw[bN];rfl
section
variable{o:Os}
theorem qX5(hh:okHs o.hs){t:Tm}(hw:t.wf)(e:qI o.hs 30 o.ν t o.s=.ok q){as:List Am}(hr:rest.all ndS=true){a:SV}(ha:a (.s true o.o::rest)=.ok (t.d,.s true o.o::rest)):
  qJg 2 "open_term" (F_Opener_open_term 30) (.io 0) [.v a,(.b (pOf (oFld [2] "names" (oN 0))))] (.s true o.o::rest)=.ok (.fz q.1.d,.s true (opO o.hs (nmO o.ν) (bindO o.st) q.2)::rest):=by
 have c:=vQf hh 30 o.ν t o.s (.fz (fzO (nmO o.ν))) (bindO o.st) q hw e;rw[←qXt]at c;refine vVy (h0:=.p 0 []) (e:=.s true o.o::rest) (by kernel_rfl) (by kernel_rfl) (hs:=[.d t.d,.p 0 [1]]) (e1:=.s true o.o::rest) ?_ (i:=0) (j:=1) (by kernel_rfl) ?_
 ·exact vZ ha (vKj (h1:=.p 0 [1]) (by kernel_rfl) (by kernel_rfl) (vQ rfl) rfl) rfl
 ·refine zVq (o:=nmO o.ν) (q:=(.fz q.1.d, .s true (opO o.hs (.fz (fzO (nmO o.ν))) (bindO o.st) q.2)::rest)) (by kernel_rfl) ?_ ?_ (by kernel_rfl)
  ·exact qU rfl rfl rfl c rfl rfl rfl
  ·have b1:stab (.s true o.o::rest) (.s true (opO o.hs (.fz (fzO (nmO o.ν))) (bindO o.st) q.2)::rest) 0 [1]=true:=by kernel_rfl
   have b2:ndO (.fz q.1.d)=true:=qVi (wU q.1);have b3:setE (.s true (opO o.hs (.fz (fzO (nmO o.ν))) (bindO o.st) q.2)::rest) 0 [1] (nmO o.ν)=.s true (opO o.hs (nmO o.ν) (bindO o.st) q.2)::rest:=by kernel_rfl
   have b4:isFz (getE (.s true (opO o.hs (.fz (fzO (nmO o.ν))) (bindO o.st) q.2)::rest) 0 [1])=true:=by kernel_rfl
   dsimp only;rw[b1,b2,b3,b4,jVd,dP,hr];show(true && true && (ndO (opO o.hs (nmO o.ν) (bindO o.st) q.2) && true) && true && true)=true;rw[jQ1];rfl
theorem zVw{hs:Hs}{st:List O}{s:Sd}{x:Str}{i:Int}{x2 x3:Slot}(e:getA ν x=some i):oV (oIx (oFld [2] "names" (oN 0)) (oN 1)) [.s true (opO hs (nmO ν) st s),fz (.str x),x2,x3]=.ok (.int i,[.s true (opO hs (nmO ν) st s),fz (.str x),x2,x3]):=by
 obtain⟨j,h1,_,h3⟩:=qWt wP nmv e;refine zL (h1:=.d (.int i)) (e:=[.s true (opO hs (nmO ν) st s),fz (.str x),x2,x3]) ?_ rfl;refine xE (h1:=.p 0 [1]) (h2:=.d (.str x)) (e:=[.s true (opO hs (nmO ν) st s),fz (.str x),x2,x3]) (e1:=[.s true (opO hs (nmO ν) st s),fz (.str x),x2,x3]) (by kernel_rfl) (by kernel_rfl) rfl (y:=.str x) rfl ?_ rfl;show(((some (Sum.inr x:Key)).bind fun k=>kidx k (qR Sum.inr ν)).bind fun j=>((ν.map fun p=>O.fz (nmv p))[j]?).bind fun o=>some (hnO o 0 ([1] ++ [j])))=_;rw[cZ,h1,cZ,h3];rfl
theorem vZr(hh:okHs o.hs){x:Str}{t:Tm}(hw:t.wf)(hn:o.ν.length<=1000)(hs:o.st.length<=1000)(e:yU o x t=.ok o'):zH [.s true o.o,fz (.str x),fz t.d]=.ok (.fz .non,[.s true o'.o,.un,.un]):=by
 obtain⟨q,e1,e⟩:=qY e;cases e;have dl:decide ((o.ν.map fun p=>O.fz (nmv p)).length <=lim)=true:=decide_eq_true (by rw[aK];exact aO hn (show 1000<=1000000 by decide));have sl:=vQc (hs:=o.hs) (no:=nmO o.ν) (st:=bindO o.st) (s:=q.2);refine v7 (o:=.nx [.s true (opO o.hs (nmO (putA o.ν x q.2.sl)) (bindO (o.st ++ [(q.2.sl,q.1)])) {q.2 with sl:=q.2.sl+1}),fz (.str x),fz t.d,fz q.1.d]) ?_ rfl;refine qZ (qX5 hh hw e1 (rest:=[fz (.str x),fz t.d,.un]) (as:=[]) (by show(true && (ndD t.d && (true && true)))=true;rw[qVi (jS t)];rfl) rfl) ?_
 refine jK (e:=[.s true (opO o.hs (nmO (putA o.ν x q.2.sl)) (bindO o.st) {q.2 with sl:=q.2.sl+1}),fz (.str x),fz t.d,fz q.1.d]) ?_ ?_
 ·refine qK6 (qXf (x:= .fz (.int q.2.sl)) (e:=[.s true (opO o.hs (nmO o.ν) (bindO o.st) {q.2 with sl:=q.2.sl + 1}),fz (.str x),fz t.d,fz q.1.d]) (i:=0) (π:=[1]) (hk:= .d (.str x)) (y:= .str x) (key:=Sum.inr x) (q:=(qR Sum.inr o.ν,o.ν.map fun p=> .fz (nmv p))) ?_ (by kernel_rfl) (by kernel_rfl) rfl rfl (by kernel_rfl) dl rfl) ?_
  ·refine vM (h0:= .p 0 []) (e:=[.s true (opO o.hs (nmO o.ν) (bindO o.st) q.2),fz (.str x),fz t.d,fz q.1.d]) (by kernel_rfl) (by kernel_rfl) (hs:=[]) (e1:=[.s true (opO o.hs (nmO o.ν) (bindO o.st) q.2),fz (.str x),fz t.d,fz q.1.d]) rfl ?_
   exact qU rfl rfl rfl sl rfl rfl rfl
  ·dsimp only;rw[qK5 wP nmv (v:=q.2.sl)];rfl
 ·refine wJ (qVf (i:=0) (π:=[2]) (os0:=bindO o.st) (os:=bindO o.st) (x:= .fz (.tup [.int q.2.sl,q.1.d])) (e:=[.s true (opO o.hs (nmO (putA o.ν x q.2.sl)) (bindO o.st) {q.2 with sl:=q.2.sl + 1}),fz (.str x),fz t.d,fz q.1.d]) (by kernel_rfl) (by kernel_rfl) ?_ (by kernel_rfl) (by kernel_rfl) (qYg hs) rfl) rfl;exact wQ (qQ9 (qE (zVw (by rw[j7,if_pos rfl])) (qE rfl (zB rfl) rfl) rfl) rfl rfl) rfl
end

theorem vW5(r:Rw):v6 r.d=true:=by
 cases r with
 |df f ps b=>exact vV1 _
 |lt x t=>show(true && (true && (v6 t.d && true)))=true;rw[jS];rfl
 |ag n x t=>show(true && (true && (true && (v6 t.d && true))))=true;rw[jS];rfl
 |see t=>show(true && (v6 t.d && true))=true;rw[jS];rfl
 |ask t=>show(true && (v6 t.d && true))=true;rw[jS];rfl
section
variable{o:Os}
theorem xP{x:Str}{t:Tm}(e:yU o x t=.ok o'):o'.hs=o.hs/\o'.ν.length<=o.ν.length+1/\o'.st.length=o.st.length+1:=by
 obtain⟨q,e1,e⟩:=qY e;cases e;exact⟨rfl,xF,by simp⟩
theorem times_ok{x:Str}{t:Tm}{n:Int}{k:Slot}(hw:t.wf):∀(ds:List D) (o o' :Os) (x3 x4:Slot),okHs o.hs->o.ν.length+ds.length<=1000->o.st.length+ds.length<=1000->wB x t ds.length o=.ok o' ->
  ∃y3,forS (gN 3) zM ds [.s true o.o,fz (Rw.ag n x t).d,k,x3,x4]=.ok (.nx [.s true o'.o,fz (Rw.ag n x t).d,k,y3,x4])
 |[],o,o',x3,x4,_,_,_,e=>by cases e;exact⟨x3,rfl⟩
 | d::ds,o,o',x3,x4,hh,h1,h2,e=>by
   obtain⟨o1,e1,e⟩:=qY (show(yU o x t).bind _=_ from e);obtain⟨i1,i2,i3⟩:=xP e1;rw[aY]at h1 h2;have c:=vZr hh hw (by omega) (by omega) e1;obtain⟨y3,hy⟩:=times_ok (n:=n) (k:=k) hw ds o1 o' (fz d) x4 (by rw[i1];exact hh) (by omega) (by omega) e;refine⟨y3,vJ (e1:=[.s true o.o,fz (Rw.ag n x t).d,k,fz d,x4]) (e2:=[.s true o1.o,fz (Rw.ag n x t).d,k,fz d,x4]) rfl ?_ hy⟩;refine wJ (o:=.fz .non) (vM (h0:=.p 0 []) (e:=[.s true o.o,fz (Rw.ag n x t).d,k,fz d,x4]) (by kernel_rfl) (by kernel_rfl) (hs:=[.d (.str x),.d t.d]) (e1:=[.s true o.o,fz (Rw.ag n x t).d,k,fz d,x4]) (by kernel_rfl) ?_) rfl;exact qU rfl rfl rfl c rfl rfl rfl
noncomputable def qQk(r:Rw):Prop:=r.t.wf/\r.t.h<=30/\∀n x t,r=.ag n x t->0<=n/\n<=100
theorem xH(r:Rw)(kd:Str)(x2 x3 x4:Slot)(a:O)(hk:∃l,r.d=.tup (.str kd::l)):(sSet 2 (owS (oV (oIx (oN 1) (oC (.int 0)))))) [.s true a,fz r.d,x2,x3,x4]=.ok (.nx [.s true a,fz r.d,fz (.str kd),x3,x4]):=by
 obtain⟨l,e⟩:=hk;rw[e];have i:ixN ((.str kd::l:List D).length) 0=some 0:=by unfold ixN;simp
 refine qXd (o:=.fz (.str kd)) (wQ (zL (xE (h1:=.d (.tup (.str kd::l))) (h2:=.d (.int 0)) rfl rfl rfl rfl ?_ rfl) rfl) rfl) rfl;show(((yR (.int 0)).bind fun i=>ixN ((.str kd::l:List D).length) i).bind fun j=>(.str kd::l:List D)[j]?).map Hn.d=_;show((ixN ((.str kd::l:List D).length) 0).bind fun j=>(.str kd::l:List D)[j]?).map Hn.d=_;rw[i];rfl
noncomputable abbrev wE(o:Os)(r:Rw)(k:Str):Ev:=[.s true o.o,fz r.d,fz (.str k),.un,.un]
theorem vKz(hh:okHs o.hs)(r:Rw)(hw:qQk r)(hn:o.ν.length<=900)(hs:o.st.length<=900)(hd:o.hs.length<=900)(e:yP o r=.ok o'):zG [.s true o.o,fz r.d]=.ok (.fz .non,[.s true o'.o,.un]):=by
 obtain⟨w1,w2,w3⟩:=hw;unfold zG;cases r with
 | df f ps b=>
   cases e;have dl:decide ((o.hs.map fun p=>O.fz (rowD p)).length <=lim)=true:=decide_eq_true (by rw[aK];exact aO hd (show 900<=1000000 by decide));refine v7 (o:=.nx [.s true (opO (putA o.hs f (ps,b)) (nmO o.ν) (bindO o.st) o.s),fz (Rw.df f ps b).d,fz (.str "def"),.un,.un]) (qQj (xH (.df f ps b) "def" .un .un .un o.o ⟨_,rfl⟩) rfl ?_) rfl;refine vN (q:=true) (e:=(wE o (.df f ps b) "def")) (by kernel_rfl) (vD rfl ?_);refine qK6 (qXf (x:=.fz (rowD (f,(ps,b)))) (e:=(wE o (.df f ps b) "def")) (i:=0) (π:=[0]) (hk:=.d (.str f)) (y:=.str f) (key:=Sum.inr f) (q:=(qR Sum.inr o.hs,o.hs.map fun p=>.fz (rowD p))) (by kernel_rfl) (by kernel_rfl) (by kernel_rfl) rfl rfl (by kernel_rfl) dl rfl) ?_
   dsimp only;rw[qK5 wP rowD (v:=(ps,b))];rfl
 | lt x t=>
   have c:=vZr hh w1 (by omega) (by omega) e;refine v7 (o:=.nx [.s true o'.o,fz (Rw.lt x t).d,fz (.str "let"),.un,.un]) (qQj (xH (.lt x t) "let" .un .un .un o.o ⟨_,rfl⟩) rfl ?_) rfl;refine vN (q:=false) (e:=(wE o (.lt x t) "let")) (by kernel_rfl) (qH rfl ?_);refine vN (q:=true) (e:=(wE o (.lt x t) "let")) (by kernel_rfl) (vD rfl ?_);refine wJ (o:=.fz .non) (vM (h0:=.p 0 []) (e:=(wE o (.lt x t) "let")) (by kernel_rfl) (by kernel_rfl) (hs:=[.d (.str x),.d t.d]) (e1:=(wE o (.lt x t) "let")) (by kernel_rfl) ?_) rfl;exact qU rfl rfl rfl c rfl rfl rfl
 | ag n x t=>
   obtain⟨n0,n1⟩:=w3 n x t rfl;have rg:rg1 [.int n]=some (rngD 0 n.toNat):=by
    show cond (in62 n) _ _=_;have:in62 n=true:=by
     unfold in62;rw[decide_eq_true (by omega),decide_eq_true (by omega)];rfl
    rw[this];rfl
   have ln:(rngD 0 n.toNat).length =n.toNat:=by unfold rngD;simp
   have e' :wB x t (rngD 0 n.toNat).length o=.ok o' :=by rw[ln];exact e
   obtain⟨y3,lp⟩:=times_ok (n:=n) (k:=fz (.str "again")) w1 (rngD 0 n.toNat) o o' .un .un hh (by rw[ln];omega) (by rw[ln];omega) e';refine v7 (o:=.nx [.s true o'.o,fz (Rw.ag n x t).d,fz (.str "again"),y3,.un]) (qQj (xH (.ag n x t) "again" .un .un .un o.o ⟨_,rfl⟩) rfl ?_) rfl;refine vN (q:=false) (e:=(wE o (.ag n x t) "again")) (by kernel_rfl) (qH rfl ?_);refine vN (q:=false) (e:=(wE o (.ag n x t) "again")) (by kernel_rfl) (qH rfl ?_);refine vN (q:=true) (e:=(wE o (.ag n x t) "again")) (by kernel_rfl) (vD rfl ?_);exact jD (qQm (xs:=[.int n]) (e:=(wE o (.ag n x t) "again")) (by kernel_rfl) rg rfl) lp
 | see t=>
   obtain⟨q,e1,e⟩:=qY (show(qI o.hs 30 o.ν t o.s).bind _=_ from e);cases e;refine v7 (o:=.nx [.s true (opO o.hs (nmO o.ν) (bindO (o.st ++ [(-1,q.1)])) q.2),fz (Rw.see t).d,fz (.str "see"),.un,.un]) (qQj (xH (.see t) "see" .un .un .un o.o ⟨_,rfl⟩) rfl ?_) rfl;refine vN (q:=false) (e:=(wE o (.see t) "see")) (by kernel_rfl) (qH rfl ?_);refine vN (q:=false) (e:=(wE o (.see t) "see")) (by kernel_rfl) (qH rfl ?_);refine vN (q:=false) (e:=(wE o (.see t) "see")) (by kernel_rfl) (qH rfl ?_);refine vN (q:=true) (e:=(wE o (.see t) "see")) (by kernel_rfl) (vD rfl ?_);refine wJ (qVf (i:=0) (π:=[2]) (os0:=bindO o.st) (os:=bindO o.st) (x:=.fz (.tup [.int (-1),q.1.d])) (e:=[.s true (opO o.hs (nmO o.ν) (bindO o.st) q.2),fz (Rw.see t).d,fz (.str "see"),.un,.un]) (by kernel_rfl) (by kernel_rfl) ?_ (by kernel_rfl) (by kernel_rfl) (qYg (by omega)) rfl) rfl;exact wQ (qQ9 (qE (d:=.int (-1)) (e:=(wE o (.see t) "see")) (by kernel_rfl) (qE (zR (qX5 hh w1 e1 (as:=[]) (rest:=[fz (Rw.see t).d,fz (.str "see"),.un,.un]) (by show(ndD (Rw.see t).d && (true && (true && (true && true))))=true;rw[qVi (vW5 (.see t))];rfl) (by kernel_rfl)) rfl) (zB rfl) rfl) rfl) rfl rfl) rfl
 | ask t=>
   obtain⟨q,e1,e⟩:=qY (show(qI o.hs 30 o.ν t o.s).bind _=_ from e);cases e;have sl:=vQc (hs:=o.hs) (no:=nmO o.ν) (st:=bindO o.st) (s:=q.2);refine v7 (o:=.nx [.s true (opO o.hs (nmO o.ν) (bindO (o.st ++ [(q.2.sl,q.1)])) {q.2 with sl:=q.2.sl+1}),fz (Rw.ask t).d,fz (.str "ask"),.un,fz q.1.d]) (qQj (xH (.ask t) "ask" .un .un .un o.o ⟨_,rfl⟩) rfl ?_) rfl;refine vN (q:=false) (e:=(wE o (.ask t) "ask")) (by kernel_rfl) (qH rfl ?_);refine vN (q:=false) (e:=(wE o (.ask t) "ask")) (by kernel_rfl) (qH rfl ?_);refine vN (q:=false) (e:=(wE o (.ask t) "ask")) (by kernel_rfl) (qH rfl ?_);refine vN (q:=false) (e:=(wE o (.ask t) "ask")) (by kernel_rfl) (qH rfl ?_);refine qZ (qX5 hh w1 e1 (as:=[]) (rest:=[fz (Rw.ask t).d,fz (.str "ask"),.un,.un]) (by show(ndD (Rw.ask t).d && (true && (true && (true && true))))=true;rw[qVi (vW5 (.ask t))];rfl) (by kernel_rfl)) ?_
   refine wJ (qVf (i:=0) (π:=[2]) (os0:=bindO o.st) (os:=bindO o.st) (x:=.fz (.tup [.int q.2.sl,q.1.d])) (e:=[.s true (opO o.hs (nmO o.ν) (bindO o.st) {q.2 with sl:=q.2.sl+1}),fz (Rw.ask t).d,fz (.str "ask"),.un,fz q.1.d]) (by kernel_rfl) (by kernel_rfl) ?_ (by kernel_rfl) (by kernel_rfl) (qYg (by omega)) rfl) rfl;refine wQ (qQ9 (qE (d:=.int q.2.sl) (e:=[.s true (opO o.hs (nmO o.ν) (bindO o.st) {q.2 with sl:=q.2.sl+1}),fz (Rw.ask t).d,fz (.str "ask"),.un,fz q.1.d]) (zR (o:=.fz (.int q.2.sl)) (e:=[.s true (opO o.hs (nmO o.ν) (bindO o.st) {q.2 with sl:=q.2.sl+1}),fz (Rw.ask t).d,fz (.str "ask"),.un,fz q.1.d]) (vM (h0:=.p 0 []) (e:=[.s true (opO o.hs (nmO o.ν) (bindO o.st) q.2),fz (Rw.ask t).d,fz (.str "ask"),.un,fz q.1.d]) (by kernel_rfl) (by kernel_rfl) (hs:=[]) (e1:=[.s true (opO o.hs (nmO o.ν) (bindO o.st) q.2),fz (Rw.ask t).d,fz (.str "ask"),.un,fz q.1.d]) rfl ?_) rfl) (qE rfl (zB rfl) rfl) rfl) rfl rfl) rfl;exact qU rfl rfl rfl sl rfl rfl rfl
end

noncomputable def zZ(st:List (Int×OT)):List D:=st.map fun b=>.tup [.int b.1,b.2.d]
theorem zZm(st:List (Int×OT)):bindO st=(zZ st).map .fz :=by unfold bindO zZ;rw[cU];rfl
noncomputable def oneO(st:List (Int×OT))(dd:Dw)(n:Int):O:=.ow (.obj 1 ["steps","draws","slots"]) [.ow .lst ((zZ st).map .fz),.ow .lst ((dd.map drD).map .fz),.fz (.int n)]
noncomputable def oneD(st:List (Int×OT))(dd:Dw)(n:Int):D:=.nd (.obj 1 ["steps","draws","slots"]) [.nd .lst (zZ st),drsD dd,.int n]
theorem zJ1(st:List (Int×OT))(dd:Dw)(n:Int):fzO (oneO st dd n)=oneD st dd n:=by
 show D.nd _ [fzO (.ow .lst ((zZ st).map .fz)),fzO (.ow .lst ((dd.map drD).map .fz)),.int n]=_;rw[zX,zX];rfl
theorem zWc(st:List (Int×OT))(dd:Dw)(n:Int)(hd:dd.length<=1000):qQh [.s true (.ow (.obj 1 []) []),fz (.nd .lst (zZ st)),fz (drsD dd),fz (.int n)]=.ok (.fz .non,[.s true (oneO st dd n),.un,.un,.un]):=by
 obtain⟨e',a,b⟩:=compL_map (g:=gN 0) (el:=fzS (eF listD [oN 0])) (fun e=>∃u,e=[u]) (fun d=>d) (ds:=dd.map drD) (env:=[.un]) (fun d e hd he=>by
  obtain⟨u,rfl⟩:=he;obtain⟨w,_,rfl⟩:=List.mem_map.mp hd;refine⟨[fz (drD w)],[fz (drD w)],rfl,?_,_,rfl⟩;exact vW2 (hs:=[.d (drD w)]) (e:=[fz (drD w)]) rfl (xs:=[drD w]) rfl (ds:=w.map prI) rfl rfl) ⟨_,rfl⟩
 obtain⟨u,rfl⟩:=b;rw[List.map_id']at a;have cl:decide ((dd.map drD).length <=lim)=true:=decide_eq_true (by rw[aK];exact aO hd (show 1000<=1000000 by decide));refine v7 (o:=.nx [.s true (oneO st dd n),fz (.nd .lst (zZ st)),fz (drsD dd),fz (.int n)]) ?_ rfl;refine jK (e:=[.s true (.ow (.obj 1 ["steps"]) [.ow .lst ((zZ st).map .fz)]),fz (.nd .lst (zZ st)),fz (drsD dd),fz (.int n)]) (by kernel_rfl) ?_
 refine jK (e:=[.s true (.ow (.obj 1 ["steps","draws"]) [.ow .lst ((zZ st).map .fz),.ow .lst ((dd.map drD).map .fz)]),fz (.nd .lst (zZ st)),fz (drsD dd),fz (.int n)]) ?_ (by kernel_rfl)
 refine vWg (x:=.ow .lst ((dd.map drD).map .fz)) (e:=[.s true (.ow (.obj 1 ["steps"]) [.ow .lst ((zZ st).map .fz)]),fz (.nd .lst (zZ st)),fz (drsD dd),fz (.int n)]) ?_ (i:=0) (π:=[]) (by kernel_rfl) (q:=(1,["steps"],[.ow .lst ((zZ st).map .fz)])) (by kernel_rfl) (by kernel_rfl) (o' :=.ow (.obj 1 ["steps","draws"]) [.ow .lst ((zZ st).map .fz),.ow .lst ((dd.map drD).map .fz)]) (by kernel_rfl) (by kernel_rfl)
 refine qJo (ds:=dd.map drD) (vs:=dd.map drD) (e:=[.s true (.ow (.obj 1 ["steps"]) [.ow .lst ((zZ st).map .fz)]),fz (.nd .lst (zZ st)),fz (drsD dd),fz (.int n)]) (by kernel_rfl) ?_ a (by kernel_rfl);rw[cl];rfl
theorem qZi{o:Os}{r:Rw}(hr:qQk r)(e:yP o r=.ok o')(hh:okHs o.hs):okHs o'.hs/\o'.ν.length<=o.ν.length+101/\o'.st.length<=o.st.length+101/\o'.hs.length<=o.hs.length+1:=by
 have tm:∀(x:Str) (t:Tm) (n:Nat) (o o' :Os),wB x t n o=.ok o' ->o'.hs=o.hs/\o'.ν.length<=o.ν.length+n/\o'.st.length<=o.st.length+n:=fun x t n=>by
  induction n with
  |zero=>intro o o' e;cases e;exact⟨rfl,by omega,by omega⟩
  | succ n ih=>
    intro o o' e;obtain⟨o1,e1,e⟩:=qY (show(yU o x t).bind _=_ from e);obtain⟨a,b,c⟩:=xP e1;grind
 cases r with
 | df f ps b=>
   cases e;refine⟨?_,by show o.ν.length<=_;omega,by show o.st.length<=_;omega,xF⟩;have hb:b.wf:=hr.1;have:∀l:Hs,okHs l->okHs (putA l f (ps,b)):=fun l=>by
    induction l with
    |nil=>intro _ p hp;cases dY.mp hp;exact hb
    | cons q r ih=>
      intro hl;unfold putA;by_cases z:q.1=f
      ·rw [if_pos z];intro p hp;rcases aA.mp hp with rfl|hp
       ·exact hb
       ·exact hl p (aC _ hp)
      ·rw [if_neg z];intro p hp;rcases aA.mp hp with rfl|hp
       ·exact hl _ (by simp)
       ·exact ih (fun p hp=>hl p (aC _ hp)) p hp
   grind
 |lt x t=>obtain⟨a,b,c⟩:=xP e;exact⟨by rw[a];exact hh,by omega,by omega,by rw[a];omega⟩
 | ag n x t=>
   obtain⟨n0,n1⟩:=hr.2.2 n x t rfl;obtain⟨a,b,c⟩:=tm x t n.toNat o o' e;grind
 | see t=>
   obtain⟨q,e1,e⟩:=qY (show(qI o.hs 30 o.ν t o.s).bind _=_ from e);grind
 | ask t=>
   obtain⟨q,e1,e⟩:=qY (show(qI o.hs 30 o.ν t o.s).bind _=_ from e);grind
noncomputable def room(o:Os)(rows:List Rw):Prop:=(∀rs1 rs2 o1,rows=rs1 ++ rs2->xG rs1 o=.ok o1->o1.ν.length<=900/\o1.st.length<=900/\o1.hs.length<=900)
theorem rows_ok{p:Slot}:∀(rows:List Rw) (o o' :Os) (x2:Slot),okHs o.hs->(∀r∈rows,qQk r)->room o rows->xG rows o=.ok o' ->
  ∃y2,forS (gN 2) qQc (rows.map Rw.d) [p,.s false o.o,x2]=.ok (.nx [p,.s false o'.o,y2])
 |[],o,o',x2,_,_,_,e=>by cases e;exact⟨x2,rfl⟩
 | r::rs,o,o',x2,hh,hw,hm,e=>by
   obtain⟨o1,e1,e⟩:=qY (show(yP o r).bind _=_ from e);obtain⟨m1,m2,m3⟩:=hm [] (r::rs) o rfl rfl;have hr:=hw r (by simp);obtain⟨i1,_⟩:=qZi hr e1 hh;have c:=vKz hh r hr m1 m2 m3 e1;obtain⟨y2,hy⟩:=rows_ok (p:=p) rs o1 o' (fz r.d) i1 (fun q hq=>hw q (aC _ hq)) (fun rs1 rs2 o2 q1 q2=>hm (r::rs1) rs2 o2 (by rw[q1];rfl) (by show(yP o r).bind _=_;rw[e1];exact q2)) e;refine⟨y2,vJ (e1:=[p,.s false o.o,fz r.d]) (e2:=[p,.s false o1.o,fz r.d]) rfl ?_ hy⟩;refine wJ (o:=.fz .non) (vM (h0:=.p 1 []) (e:=[p,.s false o.o,fz r.d]) (by kernel_rfl) (by kernel_rfl) (hs:=[.d r.d]) (e1:=[p,.s false o.o,fz r.d]) (by kernel_rfl) ?_) rfl;exact qU rfl rfl rfl c rfl rfl rfl
noncomputable def os0:Os:=⟨[],[],[],⟨[],0,0⟩⟩
theorem vWq:qWs 2 qQg [] [p,.un,.un]=.ok (os0.o,[p,.un,.un]):=by kernel_rfl
theorem vX8(rows:List Rw)(o:Os)(hw:∀r∈rows,qQk r)(hl:rows.length<=1000)(hc:zN rows [] []=true)(h3:(rows.filter isDf).length <=3)(hm:room os0 rows)(hd:o.s.dr.length<=1000)(e:xG rows os0=.ok o):zQ [fz (.nd .lst (rows.map Rw.d))]=.ok (oneO o.st o.s.dr o.s.sl,[.un]):=by
 have c1:=qX7 rows (fun r hr=>⟨(hw r hr).1,(hw r hr).2.1⟩) hl hc;have c2:=vXf rows hl h3;obtain⟨y2,lp⟩:=rows_ok (p:=fz (.nd .lst (rows.map Rw.d))) rows os0 o .un (fun p hp=>nomatch hp) hw hm e;have ci:=zWc o.st o.s.dr o.s.sl hd;have s1:fzO (.ow .lst (bindO o.st))=.nd .lst (zZ o.st):=by rw[zZm,zX]
 have s2:fzO (.ow .lst (o.s.dr.map fun w=>.fz (drD w)))=drsD o.s.dr:=by
  have:=zX (k:=.lst) (o.s.dr.map drD);rw[cU]at this;exact this
 refine v7 (o:=.rt (oneO o.st o.s.dr o.s.sl) [fz (.nd .lst (rows.map Rw.d)),.s false (.ow (.obj 2 ["helpers","names","steps","draws","slots","terms"]) [.ow (.dct (qR Sum.inr o.hs)) (o.hs.map fun p=>.fz (rowD p)),nmO o.ν,.fz (.nd .lst (zZ o.st)),.fz (drsD o.s.dr),.fz (.int o.s.sl),.fz (.int o.s.tm)]),y2]) ?_ rfl;refine v8 (o:=.fz .non) (e:=[fz (.nd .lst (rows.map Rw.d)),.un,.un]) (qL (vZ rfl (vQ rfl) rfl) (qU rfl rfl rfl c1 rfl rfl rfl)) ?_
 refine v8 (o:=.fz .non) (e:=[fz (.nd .lst (rows.map Rw.d)),.un,.un]) (qL (vZ rfl (vQ rfl) rfl) (qU rfl rfl rfl c2 rfl rfl rfl)) ?_
 refine qZ vWq ?_
 refine jK (jD (ds:=rows.map Rw.d) (e:=[fz (.nd .lst (rows.map Rw.d)),.s false os0.o,.un]) rfl lp) ?_
 refine wX (vWt (q:=(.fz .non,[])) (hs:=[.d (.nd .lst (zZ o.st)),.d (drsD o.s.dr),.d (.int o.s.sl)]) (e:=[fz (.nd .lst (rows.map Rw.d)),.s false (.ow (.obj 2 ["helpers","names","steps","draws","slots","terms"]) [.ow (.dct (qR Sum.inr o.hs)) (o.hs.map fun p=>.fz (rowD p)),nmO o.ν,.fz (.nd .lst (zZ o.st)),.fz (drsD o.s.dr),.fz (.int o.s.sl),.fz (.int o.s.tm)]),y2]) ?_ (qU rfl rfl rfl ci rfl rfl rfl) rfl rfl) rfl;rw[←s1,←s2];kernel_rfl
theorem zVr{F:Fn}{as:List Am}{hs:List Hn}{j:Nat}{o:O}{fs:List (Str×D)}(h:getE env i [j]=some o)(h2:wN F as (hs.map (sbH i j (fzO o))) (setE env i [j] (.fz (fzO o)))=.er C fs):qXn F as hs env i j=.er C fs:=by
 unfold qXn;rw[h];show(wN F as (hs.map (sbH i j (fzO o))) (setE env i [j] (.fz (fzO o)))).bind _=_;exact vV h2
section
variable{o:Os}{C:Nat}{fs:List (Str×D)}
noncomputable def Hs5(hs:Hs):Prop:=∀f p,getA hs f=some p->Sm5 p.2
theorem vZo(hh:okHs o.hs)(h5:Hs5 o.hs){t:Tm}(ht:Sm5 t)(hw:t.wf)(hd:o.s.dr.length<=60)(e:qI o.hs 30 o.ν t o.s=.er C fs){a:SV}(ha:a (.s true o.o::rest)=.ok (t.d,.s true o.o::rest)):
  qJg 2 "open_term" (F_Opener_open_term 30) (.io 0) [.v a,(.b (pOf (oFld [2] "names" (oN 0))))] (.s true o.o::rest)=.er C fs:=by
 have c:=zXl hh h5 30 o.ν t o.s (.fz (fzO (nmO o.ν))) (bindO o.st) C fs ht hw hd e;unfold oE at c;rw[←qXt]at c;refine vVy (h0:=.p 0 []) (e:=.s true o.o::rest) (by kernel_rfl) (by kernel_rfl) (hs:=[.d t.d,.p 0 [1]]) (e1:=.s true o.o::rest) ?_ (i:=0) (j:=1) (by kernel_rfl) ?_
 ·exact vZ ha (vKj (h1:=.p 0 [1]) (by kernel_rfl) (by kernel_rfl) (vQ rfl) rfl) rfl
 ·exact zVr (o:=nmO o.ν) (by kernel_rfl) (v5 rfl rfl rfl c)
theorem vK8(hh:okHs o.hs)(h5:Hs5 o.hs){x:Str}{t:Tm}(ht:Sm5 t)(hw:t.wf)(hd:o.s.dr.length<=60)(e:yU o x t=.er C fs):zH [.s true o.o,fz (.str x),fz t.d]=.er C fs:=by
 rcases vY e with e1|⟨q,_,e⟩
 ·unfold zH;exact zI (jP (vV (vZo hh h5 ht hw hd e1 (rest:=[fz (.str x),fz t.d,.un]) rfl)))
 ·cases e
theorem vZs{x:Str}{t:Tm}(hd:o.s.dr.length<=60)(e:yU o x t=.ok o'):o'.s.dr.length<=60:=by
 obtain⟨q,e1,e⟩:=qY e;cases e;exact qJl 30 _ _ _ q hd e1
end

section
variable{o:Os}{C:Nat}{fs:List (Str×D)}
theorem zZc{a b:SV}{d:D}{vs:List SV}(h1:a env=.ok (d,e))(h2:(evVs (b::vs) e)=.er C fs):evVs (a::b::vs) env=.er C fs:=by
 show(a env).bind _=_;rw[h1];show(evVs (b::vs) e).bind _=_;exact vV h2
theorem vVc{x:Str}{t:Tm}{n:Int}{k:Slot}(ht:Sm5 t)(hw:t.wf):∀(ds:List D) (o:Os) (x3 x4:Slot),okHs o.hs->Hs5 o.hs->o.s.dr.length<=60->o.ν.length+ds.length<=1000->o.st.length+ds.length<=1000->wB x t ds.length o=.er C fs->
  forS (gN 3) zM ds [.s true o.o,fz (Rw.ag n x t).d,k,x3,x4]=.er C fs
 |[],o,x3,x4,_,_,_,_,_,e=>by cases e
 | d::ds,o,x3,x4,hh,h5,hd,h1,h2,e=>by
   rw[aY]at h1 h2;rcases vY (show(yU o x t).bind _=_ from e) with e1|⟨o1,e1,e⟩
   ·have c:=vK8 hh h5 ht hw hd e1;refine qVh (e1:=[.s true o.o,fz (Rw.ag n x t).d,k,fz d,x4]) rfl ?_
    unfold zM;exact vV (vM (h0:=.p 0 []) (e:=[.s true o.o,fz (Rw.ag n x t).d,k,fz d,x4]) (by kernel_rfl) (by kernel_rfl) (hs:=[.d (.str x),.d t.d]) (e1:=[.s true o.o,fz (Rw.ag n x t).d,k,fz d,x4]) (by kernel_rfl) (v5 rfl rfl rfl c))
   ·obtain⟨i1,i2,i3⟩:=xP e1;have c:=vZr hh hw (by omega) (by omega) e1;have hy:=vVc (n:=n) (k:=k) ht hw ds o1 (fz d) x4 (by rw[i1];exact hh) (by rw[i1];exact h5) (vZs hd e1) (by omega) (by omega) e;refine vJ (e1:=[.s true o.o,fz (Rw.ag n x t).d,k,fz d,x4]) (e2:=[.s true o1.o,fz (Rw.ag n x t).d,k,fz d,x4]) rfl ?_ hy;unfold zM;refine wJ (o:=.fz .non) (vM (h0:=.p 0 []) (e:=[.s true o.o,fz (Rw.ag n x t).d,k,fz d,x4]) (by kernel_rfl) (by kernel_rfl) (hs:=[.d (.str x),.d t.d]) (e1:=[.s true o.o,fz (Rw.ag n x t).d,k,fz d,x4]) (by kernel_rfl) ?_) rfl;exact qU rfl rfl rfl c rfl rfl rfl
theorem zX6(hh:okHs o.hs)(h5:Hs5 o.hs)(r:Rw)(hw:qQk r)(ht:Sm5 r.t)(hdr:o.s.dr.length<=60)(hn:o.ν.length<=900)(hs:o.st.length<=900)(e:yP o r=.er C fs):zG [.s true o.o,fz r.d]=.er C fs:=by
 obtain⟨w1,w2,w3⟩:=hw;unfold zG;cases r with
 |df f ps b=>cases e
 | lt x t=>
   have c:=vK8 hh h5 ht w1 hdr e;refine zI (qQj (xH (.lt x t) "let" .un .un .un o.o ⟨_,rfl⟩) rfl ?_);refine vN (q:=false) (e:=(wE o (.lt x t) "let")) (by kernel_rfl) (qH rfl ?_);refine vN (q:=true) (e:=(wE o (.lt x t) "let")) (by kernel_rfl) (vD rfl ?_);exact vV (vM (h0:=.p 0 []) (e:=(wE o (.lt x t) "let")) (by kernel_rfl) (by kernel_rfl) (hs:=[.d (.str x),.d t.d]) (e1:=(wE o (.lt x t) "let")) (by kernel_rfl) (v5 rfl rfl rfl c))
 | ag n x t=>
   obtain⟨n0,n1⟩:=w3 n x t rfl;have rg:rg1 [.int n]=some (rngD 0 n.toNat):=by
    show cond (in62 n) _ _=_;have:in62 n=true:=by
     unfold in62;rw[decide_eq_true (by omega),decide_eq_true (by omega)];rfl
    rw[this];rfl
   have ln:(rngD 0 n.toNat).length =n.toNat:=by unfold rngD;simp
   have e' :wB x t (rngD 0 n.toNat).length o=.er C fs:=by rw[ln];exact e
   have lp:=vVc (n:=n) (k:=fz (.str "again")) ht w1 (rngD 0 n.toNat) o .un .un hh h5 hdr (by rw[ln];omega) (by rw[ln];omega) e';refine zI (qQj (xH (.ag n x t) "again" .un .un .un o.o ⟨_,rfl⟩) rfl ?_);refine vN (q:=false) (e:=(wE o (.ag n x t) "again")) (by kernel_rfl) (qH rfl ?_);refine vN (q:=false) (e:=(wE o (.ag n x t) "again")) (by kernel_rfl) (qH rfl ?_);refine vN (q:=true) (e:=(wE o (.ag n x t) "again")) (by kernel_rfl) (vD rfl ?_);exact jD (qQm (xs:=[.int n]) (e:=(wE o (.ag n x t) "again")) (by kernel_rfl) rg rfl) lp
 | see t=>
   rcases vY (show(qI o.hs 30 o.ν t o.s).bind _=_ from e) with e1|⟨q,_,e⟩
   ·have m:=vZo hh h5 ht w1 hdr e1 (rest:=[fz (Rw.see t).d,fz (.str "see"), .un, .un]) (a:=oV (oIx (oN 1) (oC (.int 1)))) (by kernel_rfl);refine zI (qQj (xH (.see t) "see" .un .un .un o.o ⟨_,rfl⟩) rfl ?_);refine vN (q:=false) (e:=(wE o (.see t) "see")) (by kernel_rfl) (qH rfl ?_);refine vN (q:=false) (e:=(wE o (.see t) "see")) (by kernel_rfl) (qH rfl ?_);refine vN (q:=false) (e:=(wE o (.see t) "see")) (by kernel_rfl) (qH rfl ?_);refine vN (q:=true) (e:=(wE o (.see t) "see")) (by kernel_rfl) (vD rfl ?_);refine vV (vK7 (i:=0) (π:=[2]) (os:=bindO o.st) (by kernel_rfl) (by kernel_rfl) ?_);refine vV (vV ?_);exact zZc (d:=.int (-1)) (e:=wE o (.see t) "see") (by kernel_rfl) (vV (vV m))
   ·cases e
 | ask t=>
   rcases vY (show(qI o.hs 30 o.ν t o.s).bind _=_ from e) with e1|⟨q,_,e⟩
   ·have m:=vZo hh h5 ht w1 hdr e1 (rest:=[fz (Rw.ask t).d,fz (.str "ask"), .un, .un]) (a:=oV (oIx (oN 1) (oC (.int 1)))) (by kernel_rfl);refine zI (qQj (xH (.ask t) "ask" .un .un .un o.o ⟨_,rfl⟩) rfl ?_);refine vN (q:=false) (e:=(wE o (.ask t) "ask")) (by kernel_rfl) (qH rfl ?_);refine vN (q:=false) (e:=(wE o (.ask t) "ask")) (by kernel_rfl) (qH rfl ?_);refine vN (q:=false) (e:=(wE o (.ask t) "ask")) (by kernel_rfl) (qH rfl ?_);refine vN (q:=false) (e:=(wE o (.ask t) "ask")) (by kernel_rfl) (qH rfl ?_);exact jP (vV m)
   ·cases e
end

section
variable{C:Nat}{fs:List (Str×D)}
theorem vVd{x:Str}{t:Tm}:∀(n:Nat) (o o' :Os),o.s.dr.length<=60->wB x t n o=.ok o' ->o'.s.dr.length<=60/\o'.hs=o.hs
 | 0,o,o',hd,e=>by cases e;exact⟨hd,rfl⟩
 | n + 1,o,o',hd,e=>by
   obtain⟨o1,e1,e⟩:=qY (show(yU o x t).bind _=_ from e);obtain⟨a,b⟩:=vVd n o1 o' (vZs hd e1) e;exact⟨a,b.trans (xP e1).1⟩
theorem zX7{o:Os}{r:Rw}(ht:Sm5 r.t)(h5:Hs5 o.hs)(hd:o.s.dr.length<=60)(e:yP o r=.ok o'):o'.s.dr.length<=60/\Hs5 o'.hs:=by
 cases r with
 | df f ps b=>
   cases e;refine⟨hd,fun g p hg=>?_⟩;have hg' :getA (putA o.hs f (ps,b)) g=some p:=hg;rw[j7]at hg';by_cases z:f=g
   ·rw[if_pos z]at hg';cases hg';exact ht
   ·rw[if_neg z]at hg';exact h5 g p hg'
 |lt x t=>exact⟨vZs hd e,by rw[(xP e).1];exact h5⟩
 | ag n x t=>
   obtain⟨a,b⟩:=vVd n.toNat o o' hd e;exact⟨a,by rw[b];exact h5⟩
 | see t=>
   obtain⟨q,e1,e⟩:=qY (show(qI o.hs 30 o.ν t o.s).bind _=_ from e);cases e;exact⟨qJl 30 _ _ _ q hd e1,h5⟩
 | ask t=>
   obtain⟨q,e1,e⟩:=qY (show(qI o.hs 30 o.ν t o.s).bind _=_ from e);cases e;exact⟨qJl 30 _ _ _ q hd e1,h5⟩
theorem vWk{p:Slot}:∀(rows:List Rw) (o:Os) (x2:Slot),okHs o.hs->Hs5 o.hs->o.s.dr.length<=60->(∀r∈rows,qQk r/\Sm5 r.t)->room o rows->xG rows o=.er C fs->
  forS (gN 2) qQc (rows.map Rw.d) [p,.s false o.o,x2]=.er C fs
 |[],o,x2,_,_,_,_,_,e=>by cases e
 | r::rs,o,x2,hh,h5,hd,hw,hm,e=>by
   obtain⟨m1,m2,m3⟩:=hm [] (r::rs) o rfl rfl;obtain⟨hr,ht⟩:=hw r (by simp);rcases vY (show(yP o r).bind _=_ from e) with e1|⟨o1,e1,e⟩
   ·have c:=zX6 hh h5 r hr ht hd m1 m2 e1;refine qVh (e1:=[p,.s false o.o,fz r.d]) rfl ?_
    unfold qQc;exact vV (vM (h0:=.p 1 []) (e:=[p,.s false o.o,fz r.d]) (by kernel_rfl) (by kernel_rfl) (hs:=[.d r.d]) (e1:=[p,.s false o.o,fz r.d]) (by kernel_rfl) (v5 rfl rfl rfl c))
   ·obtain⟨i1,_⟩:=qZi hr e1 hh;obtain⟨j1,j2⟩:=zX7 ht h5 hd e1;have c:=vKz hh r hr m1 m2 m3 e1;have hy:=vWk (p:=p) rs o1 (fz r.d) i1 j2 j1 (fun q hq=>hw q (aC _ hq)) (fun rs1 rs2 o2 q1 q2=>hm (r::rs1) rs2 o2 (by rw[q1];rfl) (by show(yP o r).bind _=_;rw[e1];exact q2)) e;refine vJ (e1:=[p,.s false o.o,fz r.d]) (e2:=[p,.s false o1.o,fz r.d]) rfl ?_ hy;unfold qQc;refine wJ (o:=.fz .non) (vM (h0:=.p 1 []) (e:=[p,.s false o.o,fz r.d]) (by kernel_rfl) (by kernel_rfl) (hs:=[.d r.d]) (e1:=[p,.s false o.o,fz r.d]) (by kernel_rfl) ?_) rfl;exact qU rfl rfl rfl c rfl rfl rfl
theorem vYa(rows:List Rw)(hw:∀r∈rows,qQk r/\Sm5 r.t)(hl:rows.length<=1000)(hc:zN rows [] []=true)(h3:(rows.filter isDf).length <=3)(hm:room os0 rows)(e:xG rows os0=.er C fs):zQ [fz (.nd .lst (rows.map Rw.d))]=.er C fs:=by
 have c1:=qX7 rows (fun r hr=>⟨(hw r hr).1.1,(hw r hr).1.2.1⟩) hl hc;have c2:=vXf rows hl h3;have lp:=vWk (p:=fz (.nd .lst (rows.map Rw.d))) rows os0 .un (fun p hp=>nomatch hp) (fun f p hp=>nomatch hp) (by decide) hw hm e;unfold zQ;refine zI ?_
 refine v8 (o:=.fz .non) (e:=[fz (.nd .lst (rows.map Rw.d)),.un,.un]) (qL (vZ rfl (vQ rfl) rfl) (qU rfl rfl rfl c1 rfl rfl rfl)) ?_
 refine v8 (o:=.fz .non) (e:=[fz (.nd .lst (rows.map Rw.d)),.un,.un]) (qL (vZ rfl (vQ rfl) rfl) (qU rfl rfl rfl c2 rfl rfl rfl)) ?_
 refine qZ vWq ?_
 exact jP (jD (ds:=rows.map Rw.d) (e:=[fz (.nd .lst (rows.map Rw.d)),.s false os0.o,.un]) rfl lp)
end

theorem zWw(rows:List Rw)(hl:rows.length<=1000)(h3:¬(rows.filter isDf).length <=3):wH [fz (.nd .lst (rows.map Rw.d))]=.er 25 []:=by
 obtain⟨e',a,b⟩:=compL_ok (g:=gN 0) (t:=asB (o2 eqF (oIx (oN 0) (oC (.int 0))) (oC (.str "def")))) (el:=oV (oN 0)) (fun e=>∃u,e=[u]) dfP (ds:=rows.map Rw.d) (env:=[.un]) (fun d e hd he=>by
  obtain⟨u,rfl⟩:=he;obtain⟨r,_,rfl⟩:=List.mem_map.mp hd;refine⟨[fz r.d],rfl,?_⟩;cases r with
  |df f ps b=>exact .inl ⟨[fz (Rw.df f ps b).d],_,[fz (Rw.df f ps b).d],by kernel_rfl,rfl,rfl,_,rfl⟩
  |lt x t=>exact .inr ⟨[fz (Rw.lt x t).d],by kernel_rfl,rfl,_,rfl⟩
  |ag n x t=>exact .inr ⟨[fz (Rw.ag n x t).d],by kernel_rfl,rfl,_,rfl⟩
  |see t=>exact .inr ⟨[fz (Rw.see t).d],by kernel_rfl,rfl,_,rfl⟩
  |ask t=>exact .inr ⟨[fz (Rw.ask t).d],by kernel_rfl,rfl,_,rfl⟩) ⟨_,rfl⟩
 obtain⟨u,rfl⟩:=b;have ln:((rows.map Rw.d).filterMap dfP).length =(rows.filter isDf).length :=by
  clear a h3 hl;induction rows with
  |nil=>rfl
  | cons r rs ih=>
    rw[aS,cG,zXn,List.filter_cons];cases q:isDf r with
    |true=>rw[if_pos rfl,if_pos rfl];show _+1=_+1;rw[ih]
    |false=>rw[if_neg (by simp),if_neg (by simp)];exact ih
 have cl:decide ((rows.map Rw.d).length <=lim)=true:=decide_eq_true (by rw[aK];exact aO hl (show 1000<=1000000 by decide));generalize ((rows.map Rw.d).filterMap dfP)=fs at *;have h' :decide ((3:Int)<(fs.length:Nat))=true:=decide_eq_true (by omega);unfold wH;generalize rows.map Rw.d=ds at *;refine zI ?_
 refine vN (q:=true) (e:=[fz (.nd .lst ds)]) ?_ (vD rfl (qX2 rfl))
 rw[←h'];repeat' (first|array_get_dec|exact a|(show(true && decide (ds.length<=lim))=true;rw[cl];rfl))
theorem vJh(rows:List Rw)(hw:∀r∈rows,qQk r)(hl:rows.length<=1000)(hc:zN rows [] []=true)(h3:¬(rows.filter isDf).length <=3):zQ [fz (.nd .lst (rows.map Rw.d))]=.er 25 []:=by
 have c1:=qX7 rows (fun r hr=>⟨(hw r hr).1,(hw r hr).2.1⟩) hl hc;have c2:=zWw rows hl h3;unfold zQ;refine zI ?_
 refine v8 (o:=.fz .non) (e:=[fz (.nd .lst (rows.map Rw.d)),.un,.un]) (qL (vZ rfl (vQ rfl) rfl) (qU rfl rfl rfl c1 rfl rfl rfl)) ?_
 exact jP (vV (qL (vZ rfl (vQ rfl) rfl) (v5 rfl rfl rfl c2)))
inductive Cs(hs:Hs):Nat->Nm->Tm->Nat->Nat->Prop
 |num {h:Nat} {ν:Nm} (n:Int):Cs hs (h+1) ν (.num n) 1 0
 |name {h:Nat} {ν:Nm} {x:Str} {i:Int} (e:getA ν x=some i):Cs hs (h+1) ν (.name x) 1 0
 |flip {h:Nat} {ν:Nm} (a b:Int):Cs hs (h+1) ν (.flip a b) 1 1
 |pick {h:Nat} {ν:Nm} (ps:List (Int×Int)):Cs hs (h+1) ν (.pick ps) 1 1
 |op {h:Nat} {ν:Nm} {g:Sg} {x y:Tm} {a b c d:Nat} (hx:Cs hs h ν x a b) (hy:Cs hs h ν y c d):Cs hs (h+1) ν (.op g x y) (1+a+c) (b+d)
 |call {h:Nat} {ν:Nm} {f x:Str} {b t:Tm} {n m k l:Nat} (e:getA hs f=some ([x],b)) (ht:Cs hs h ν t n m) (hb:∀μ:Nm,Cs hs h μ b k l):Cs hs (h+1) ν (.call f [t]) (1+n+k) (m+l)
noncomputable def Opn(r:Res (OT×Sd))(s:Sd)(n m:Nat):Prop:=(∃q,r=.ok q/\q.2.tm=s.tm+n/\q.2.dr.length=s.dr.length+m/\q.2.tm<=600/\q.2.dr.length<=60)\/(r=.er 25 []/\(600<s.tm+n\/60<s.dr.length+m))
theorem qZc(s:Sd):(s.tm<600/\count s=.ok {s with tm:=s.tm+1})\/(¬s.tm<600/\count s=.er 25 []):=by
 unfold count;by_cases z:s.tm<600
 ·exact .inl ⟨z,if_pos z⟩
 ·exact .inr ⟨z,if_neg z⟩
theorem draw_if(w:List (Int×Int))(s:Sd):(s.dr.length<60/\jN w s=.ok (.draw s.dr.length,{s with dr:=s.dr ++ [w]}))\/(¬s.dr.length<60/\jN w s=.er 25 []):=by
 unfold jN;by_cases z:s.dr.length<60
 ·exact .inl ⟨z,if_pos z⟩
 ·exact .inr ⟨z,if_neg z⟩
theorem vVv{s:Sd}(h1:s.tm<=600)(h2:s.dr.length<=60):Opn ((count s).bind fun s=>jN w s) s 1 1:=by
 rcases qZc s with⟨z,e⟩|⟨z,e⟩
 ·rw [e];show Opn (jN w {s with tm:=s.tm+1}) s 1 1;rcases draw_if w {s with tm:=s.tm+1} with⟨y,e⟩|⟨y,e⟩
  ·rw [e];have y' :s.dr.length<60:=y;exact .inl ⟨_,rfl,rfl,by simp,by show s.tm+1<=600;omega,by simp;omega⟩
  ·rw [e];have y' :¬s.dr.length<60:=y;exact .inr ⟨rfl,.inr (by omega)⟩
 ·rw[e];exact .inr ⟨rfl,.inl (by omega)⟩
theorem opn{hs:Hs}{h:Nat}{t:Tm}(c:Cs hs h ν t n m):∀s:Sd,s.tm<=600->s.dr.length<=60->Opn (qI hs h ν t s) s n m:=by
 induction c with
 | num n=>
   intro s h1 h2;show Opn ((count s).bind _) s 1 0;rcases qZc s with⟨z,e⟩|⟨z,e⟩
   ·rw[e];exact .inl ⟨_,rfl,rfl,rfl,by show s.tm+1<=600;omega,h2⟩
   ·rw[e];exact .inr ⟨rfl,.inl (by omega)⟩
 | @name h ν x i e0=>
   intro s h1 h2;have e' :qI hs (h+1) ν (.name x) s=(count s).bind fun s=>match getA ν x with
    |none=>.no
    |some i=>.ok (.slot i,s):=rfl
   rw[e',e0];rcases qZc s with⟨z,e⟩|⟨z,e⟩
   ·rw[e];exact .inl ⟨_,rfl,rfl,rfl,by show s.tm+1<=600;omega,h2⟩
   ·rw[e];exact .inr ⟨rfl,.inl (by omega)⟩
 |flip a b=>intro s h1 h2;exact vVv h1 h2
 |pick ps=>intro s h1 h2;exact vVv h1 h2
 | @op h ν g x y a b c d hx hy ix iy=>
   intro s h1 h2;have e' :qI hs (h+1) ν (.op g x y) s=(count s).bind fun s=>(qI hs h ν x s).bind fun q=>(qI hs h ν y q.2).bind fun r=>.ok (.op g q.1 r.1,r.2):=rfl
   rw[e'];rcases qZc s with⟨z,e⟩|⟨z,e⟩
   ·rw [e];show Opn ((qI hs h ν x {s with tm:=s.tm+1}).bind _) s _ _;rcases ix {s with tm:=s.tm+1} (by show s.tm+1<=600;omega) h2 with⟨q,e1,q1,q2,q3,q4⟩|⟨e1,q1⟩
    ·have q1' :q.2.tm=s.tm + 1 + a:=q1;have q2' :q.2.dr.length=s.dr.length+b:=q2;rw[e1];show Opn ((qI hs h ν y q.2).bind _) s _ _;rcases iy q.2 q3 q4 with⟨r,e2,r1,r2,r3,r4⟩|⟨e2,r1⟩
     ·rw[e2];exact .inl ⟨_,rfl,by show r.2.tm=_;omega,by show r.2.dr.length=_;omega,r3,r4⟩
     ·rw[e2];exact .inr ⟨rfl,by omega⟩
    ·have q1' :600 < s.tm + 1 + a\/60 < s.dr.length + b:=q1;rw[e1];exact .inr ⟨rfl,by omega⟩
   ·rw[e];exact .inr ⟨rfl,.inl (by omega)⟩
 | @call h ν f x b t n m k l e0 ht hb it ib=>
   intro s h1 h2;have e' :qI hs (h+1) ν (.call f [t]) s=match getA hs f with
    |none=>.no
    |some p=>(jX (qI hs h ν) p.1 [t] s [] []).bind fun q=>(qI hs h q.1 p.2 q.2.2).bind fun w=>.ok (qVr q.2.1 w.1,w.2):=rfl
   rw[e',e0];show Opn ((((count s).bind fun s=>(qI hs h ν t s).bind fun q=>jX (qI hs h ν) [] [] {q.2 with sl:=q.2.sl+1} (putA [] x q.2.sl) ([] ++ [(q.2.sl,q.1)]))).bind _) s _ _;rcases qZc s with⟨z,e⟩|⟨z,e⟩
   ·rw [e];show Opn (((qI hs h ν t {s with tm:=s.tm+1}).bind _).bind _) s _ _;rcases it {s with tm:=s.tm+1} (by show s.tm+1<=600;omega) h2 with⟨q,e1,q1,q2,q3,q4⟩|⟨e1,q1⟩
    ·have q1' :q.2.tm=s.tm + 1 + n:=q1;have q2' :q.2.dr.length=s.dr.length+m:=q2;rw[e1];show Opn ((qI hs h (putA [] x q.2.sl) b {q.2 with sl:=q.2.sl+1}).bind _) s _ _;rcases ib (putA [] x q.2.sl) {q.2 with sl:=q.2.sl+1} q3 q4 with⟨r,e2,r1,r2,r3,r4⟩|⟨e2,r1⟩
     ·have r1' :r.2.tm=q.2.tm + k:=r1;have r2' :r.2.dr.length=q.2.dr.length+l:=r2;rw[e2];exact .inl ⟨_,rfl,by show r.2.tm=_;omega,by show r.2.dr.length=_;omega,r3,r4⟩
     ·have r1' :600 < q.2.tm + k\/60 < q.2.dr.length + l:=r1;rw[e2];exact .inr ⟨rfl,by omega⟩
    ·have q1' :600 < s.tm + 1 + n\/60 < s.dr.length + m:=q1;rw[e1];exact .inr ⟨rfl,by omega⟩
   ·rw[e];exact .inr ⟨rfl,.inl (by omega)⟩
inductive Sz:OT->Nat->Prop
 |num (n:Int):Sz (.num n) 1
 |slot (i:Int):Sz (.slot i) 1
 |draw (i:Nat):Sz (.draw i) 1
 |op {g:Sg} {x y:OT} {a b:Nat} (hx:Sz x a) (hy:Sz y b):Sz (.op g x y) (1+a+b)
 |bind {i:Int} {x y:OT} {a b:Nat} (hx:Sz x a) (hy:Sz y b):Sz (.bind i x y) (1+a+b)
theorem vXa{s:Sd}(e:jN w s=.ok q):Sz q.1 1:=by
 unfold jN at e;split at e
 ·cases e;exact .draw _
 ·cases e
theorem zYy{hs:Hs}{h:Nat}{t:Tm}(c:Cs hs h ν t n m):∀(s:Sd) (q:OT×Sd),qI hs h ν t s=.ok q->Sz q.1 n:=by
 induction c with
 | num n=>
   intro s q e;obtain⟨s1,_,e⟩:=qY (show(count s).bind _=_ from e);cases e;exact .num _
 | name e0=>
   intro s q e;obtain⟨s1,_,e⟩:=qY (show(count s).bind _=_ from e);rw[e0]at e;cases e;exact .slot _
 | flip a b=>
   intro s q e;obtain⟨s1,_,e⟩:=qY (show(count s).bind _=_ from e);exact vXa e
 | pick ps=>
   intro s q e;obtain⟨s1,_,e⟩:=qY (show(count s).bind _=_ from e);exact vXa e
 | op hx hy ix iy=>
   intro s q e;obtain⟨s1,_,e⟩:=qY (show(count s).bind _=_ from e);obtain⟨u,e1,e⟩:=qY e;obtain⟨v,e2,e⟩:=qY e;cases e;exact .op (ix _ _ e1) (iy _ _ e2)
 | @call h ν f x b t n m k l e0 ht hb it ib=>
   intro s q e;have e' :(match getA hs f with
    |none=>Res.no
    |some p=>(jX (qI hs h ν) p.1 [t] s [] []).bind fun q=>(qI hs h q.1 p.2 q.2.2).bind fun w=>.ok (qVr q.2.1 w.1,w.2))=.ok q:=e
   rw[e0]at e';obtain⟨r,e1,e'⟩:=qY e';obtain⟨w,e2,e'⟩:=qY e';obtain⟨s1,_,e1⟩:=qY (show(count s).bind _=_ from e1);obtain⟨v,e3,e1⟩:=qY e1;cases e1;cases e';exact .bind (it _ _ e3) (ib _ _ _ e2)
inductive SzS:List OT->Nat->Prop
 |nil:SzS [] 0
 |snoc {ts:List OT} {t:OT} {n a:Nat} (h:SzS ts n) (z:Sz t a):SzS (ts ++ [t]) (n+a)
noncomputable def Stz(o:Os):Prop:=∃N:Nat,o.s.tm=N/\SzS (o.st.map fun b=>b.2) N
theorem Stz.add{o:Os}{i:Int}{t:OT}(h:Stz o)(z:Sz t a)(e:o'.s.tm=o.s.tm+a)(e2:o'.st=o.st ++ [(i,t)]):Stz o' :=by
 obtain⟨N,h1,h2⟩:=h;exact⟨N+a,by omega,by rw[e2,bN];exact .snoc h2 z⟩
inductive CsR:Hs->(Nm->Prop)->List Rw->Nat->Nat->Prop
 |nil {hs:Hs} {K:Nm->Prop}:CsR hs K [] 0 0
 |df {hs:Hs} {K:Nm->Prop} {f:Str} {ps:List Str} {t:Tm} {rs:List Rw} {n m:Nat} (h:CsR (putA hs f (ps,t)) K rs n m):CsR hs K (.df f ps t::rs) n m
 |lt {hs:Hs} {K L:Nm->Prop} {x:Str} {t:Tm} {rs:List Rw} {a b n m:Nat} (c:∀ν,K ν->Cs hs 30 ν t a b) (k:∀ν i,K ν->L (putA ν x i)) (h:CsR hs L rs n m):CsR hs K (.lt x t::rs) (a+n) (b+m)
 |ag {hs:Hs} {K:Nm->Prop} {j:Int} {x:Str} {t:Tm} {rs:List Rw} {a b n m:Nat} (c:∀ν,K ν->Cs hs 30 ν t a b) (k:∀ν i,K ν->K (putA ν x i)) (h:CsR hs K rs n m):CsR hs K (.ag j x t::rs) (j.toNat * a+n) (j.toNat * b+m)
 |see {hs:Hs} {K:Nm->Prop} {t:Tm} {rs:List Rw} {a b n m:Nat} (c:∀ν,K ν->Cs hs 30 ν t a b) (h:CsR hs K rs n m):CsR hs K (.see t::rs) (a+n) (b+m)
 |ask {hs:Hs} {K:Nm->Prop} {t:Tm} {rs:List Rw} {a b n m:Nat} (c:∀ν,K ν->Cs hs 30 ν t a b) (h:CsR hs K rs n m):CsR hs K (.ask t::rs) (a+n) (b+m)
noncomputable def OpnR(P:Os->Prop)(r:Res Os)(o:Os)(n m:Nat):Prop:=(∃q,r=.ok q/\P q/\q.s.tm=o.s.tm+n/\q.s.dr.length=o.s.dr.length+m/\q.s.tm<=600/\q.s.dr.length<=60)\/(r=.er 25 []/\(600<o.s.tm+n\/60<o.s.dr.length+m))
theorem OpnR.seq{Q:Os->Prop}{r:Res Os}{o:Os}{f:Os->Res Os}(h:OpnR P r o a b)(k:∀q,P q->q.s.tm<=600->q.s.dr.length<=60->OpnR Q (f q) q n m):OpnR Q (r.bind f) o (a+n) (b+m):=by
 rcases h with⟨q,rfl,p,q1,q2,q3,q4⟩|⟨rfl,q1⟩
 ·rcases k q p q3 q4 with⟨z,e,p2,z1,z2,z3,z4⟩ | ⟨e,z1⟩
  ·exact .inl ⟨z,e,p2,by omega,by omega,z3,z4⟩
  ·exact .inr ⟨e,by omega⟩
 ·exact .inr ⟨rfl,by omega⟩
theorem qXg{hs:Hs}{t:Tm}(c:∀ν,K ν->Cs hs 30 ν t a b)(o:Os)(e:o.hs=hs)(k:K o.ν)(z:Stz o)(h1:o.s.tm<=600)(h2:o.s.dr.length<=60){f:OT×Sd->Os}(hf:∀q,(∀o' :Os,o'.s.tm=q.2.tm->(∃i,o'.st=o.st ++ [(i,q.1)])->Stz o')->P (f q)/\(f q).s.tm=q.2.tm/\(f q).s.dr=q.2.dr):OpnR P ((qI o.hs 30 o.ν t o.s).bind fun q=>.ok (f q)) o a b:=by
 subst e;rcases opn (c o.ν k) o.s h1 h2 with⟨q,e1,q1,q2,q3,q4⟩|⟨e1,q1⟩
 ·obtain⟨f1,f2,f3⟩:=hf q fun o' a1 a2=>z.add (zYy (c o.ν k) _ _ e1) (a1.trans q1) a2.choose_spec
  rw[e1];exact .inl ⟨f q,rfl,f1,by rw[f2];exact q1,by rw[f3];exact q2,by rw[f2];exact q3,by rw[f3];exact q4⟩
 ·rw[e1];exact .inr ⟨rfl,q1⟩
theorem qKj{hs:Hs}{x:Str}{t:Tm}(c:∀ν,K ν->Cs hs 30 ν t a b)(k:∀ν i,K ν->K (putA ν x i)):∀(j:Nat) (o:Os),o.hs=hs->K o.ν->Stz o->o.s.tm<=600->o.s.dr.length<=60->OpnR (fun q=>q.hs=hs/\K q.ν/\Stz q) (wB x t j o) o (j * a) (j * b)
 | 0,o,e,ko,z,h1,h2=>.inl ⟨o,rfl,⟨e,ko,z⟩,by simp,by simp,h1,h2⟩
 | j + 1,o,e,ko,z,h1,h2=>by
   rw[Nat.succ_mul,Nat.succ_mul,Nat.add_comm (j * a),Nat.add_comm (j * b)];refine OpnR.seq (P:=fun q=>q.hs=hs/\K q.ν/\Stz q) (qXg c o e ko z h1 h2 fun q y=>⟨⟨e,k _ _ ko,y _ rfl ⟨_,rfl⟩⟩,rfl,rfl⟩) fun q p q1 q2=>qKj c k j q p.1 p.2.1 p.2.2 q1 q2
theorem vVu{hs:Hs}{rows:List Rw}(c:CsR hs K rows n m):∀o:Os,o.hs=hs->K o.ν->Stz o->o.s.tm<=600->o.s.dr.length<=60->OpnR Stz (xG rows o) o n m:=by
 induction c with
 |nil=>intro o e k z h1 h2;exact .inl ⟨o,rfl,z,by simp,by simp,h1,h2⟩
 | @df hs K f ps t rs n m h ih=>
   intro o e k z h1 h2;exact ih {o with hs:=putA o.hs f (ps,t)} (by show putA o.hs f (ps,t)=_;rw[e]) k z h1 h2
 | @lt hs K L x t rs a b n m c kl h ih=>
   intro o e k z h1 h2;exact OpnR.seq (P:=fun q=>q.hs=hs/\L q.ν/\Stz q) (qXg c o e k z h1 h2 fun q y=>⟨⟨e,kl _ _ k,y _ rfl ⟨_,rfl⟩⟩,rfl,rfl⟩) fun q p q1 q2=>ih q p.1 p.2.1 p.2.2 q1 q2
 | @ag hs K j x t rs a b n m c kl h ih=>
   intro o e k z h1 h2;exact OpnR.seq (qKj c kl j.toNat o e k z h1 h2) fun q p q1 q2=>ih q p.1 p.2.1 p.2.2 q1 q2
 | @see hs K t rs a b n m c h ih=>
   intro o e k z h1 h2;exact OpnR.seq (P:=fun q=>q.hs=hs/\K q.ν/\Stz q) (qXg c o e k z h1 h2 fun q y=>⟨⟨e,k,y _ rfl ⟨_,rfl⟩⟩,rfl,rfl⟩) fun q p q1 q2=>ih q p.1 p.2.1 p.2.2 q1 q2
 | @ask hs K t rs a b n m c h ih=>
   intro o e k z h1 h2;exact OpnR.seq (P:=fun q=>q.hs=hs/\K q.ν/\Stz q) (qXg c o e k z h1 h2 fun q y=>⟨⟨e,k,y _ rfl ⟨_,rfl⟩⟩,rfl,rfl⟩) fun q p q1 q2=>ih q p.1 p.2.1 p.2.2 q1 q2
theorem vX9(rows:List Rw)(hw:∀r∈rows,qQk r/\Sm5 r.t)(hl:rows.length<=1000)(hc:zN rows [] []=true)(hm:room os0 rows)(c:CsR [] (fun _=>True) rows n m)(h3:(rows.filter isDf).length <=3)(h1:n<=600)(h2:m<=60):∃o:Os,xG rows os0=.ok o/\zQ [fz (.nd .lst (rows.map Rw.d))]=.ok (oneO o.st o.s.dr o.s.sl,[.un])/\o.s.dr.length=m/\SzS (o.st.map fun b=>b.2) n:=by
 rcases vVu c os0 rfl trivial ⟨0,rfl,.nil⟩ (by decide) (by decide) with⟨o,e,⟨N,z1,z2⟩,o1,o2,_,o4⟩|⟨_,z⟩
 ·have o1' :o.s.tm=0 + n:=o1;have o2' :o.s.dr.length=0+m:=o2;have:N=n:=by omega
  subst this;exact⟨o,e,vX8 rows o (fun r hr=>(hw r hr).1) hl hc h3 hm (by omega) e,by omega,z2⟩
 ·have z' :600 < (0:Int) + n\/60 < 0 + m:=z;omega
theorem vJf(rows:List Rw)(hw:∀r∈rows,qQk r/\Sm5 r.t)(hl:rows.length<=1000)(hc:zN rows [] []=true)(hm:room os0 rows)(c:CsR [] (fun _=>True) rows n m)(h:3<(rows.filter isDf).length \/600<n\/60<m):zQ [fz (.nd .lst (rows.map Rw.d))]=.er 25 []:=by
 by_cases h3:(rows.filter isDf).length <=3
 ·rcases vVu c os0 rfl trivial ⟨0,rfl, .nil⟩ (by decide) (by decide) with⟨o,e,_,o1,o2,o3,o4⟩ | ⟨e,_⟩
  ·have o1' :o.s.tm=0 + n:=o1;have o2' :o.s.dr.length=0+m:=o2;omega
  ·exact vYa rows hw hl hc h3 hm e
 ·exact vJh rows (fun r hr=>(hw r hr).1) hl hc h3

section
variable{r nd:D}{hl:Nm}{x:Str}
theorem zJ4{h:Nat}(hn:inB (.str x) nd=some false):vW (h+1) [.s false (.fz r),.s false (.fz (Tm.name x).d),.s false (.fz nd),.s false (.fz (nmD hl))]=.er 24 [("row",r)]:=by
 have ni:niD (.str x) nd=some (.bl true):=by unfold niD;rw[hn];rfl
 unfold vW;refine zI (qZ (o:=.fz (.str "name")) (e:=[fz r,fz (Tm.name x).d,fz nd,fz (nmD hl),.un,.un]) rfl (qD (q:=true) (e:=[fz r,fz (Tm.name x).d,fz nd,fz (nmD hl),fz (.str "name"),.un]) ?_ (vD rfl (jP (vX0 rfl)))));repeat' (first|array_get_dec|exact ni)
theorem jQu{b:Tm}{h:Nat}(hn:inB (.str x) nd=some false):vW (h+2) [.s false (.fz r),.s false (.fz (Tm.op g (.name x) b).d),.s false (.fz nd),.s false (.fz (nmD hl))]=.er 24 [("row",r)]:=by
 have c:=zJ4 (r:=r) (hl:=hl) (h:=h) hn;have pp:qO [.s false (.fz (Tm.op g (.name x) b).d)]=.ok (.ow .lst ([(Tm.name x).d,b.d].map .fz),[.un]):=qV6 _ _ _;rw[vW];refine zI (qZ (o:=.fz (.str "op")) (e:=[fz r,fz (Tm.op g (.name x) b).d,fz nd,fz (nmD hl),.un,.un]) rfl (qD (q:=false) (e:=[fz r,fz (Tm.op g (.name x) b).d,fz nd,fz (nmD hl),fz (.str "op"),.un]) rfl (qH rfl (qM (qD (q:=false) (e:=[fz r,fz (Tm.op g (.name x) b).d,fz nd,fz (nmD hl),fz (.str "op"),.un]) rfl (qH rfl (qM ?_)))))));refine jD (ds:=[(Tm.name x).d,b.d]) (e:=[fz r,fz (Tm.op g (.name x) b).d,fz nd,fz (nmD hl),fz (.str "op"),.un]) (vJ1 (d:=.nd .lst [(Tm.name x).d,b.d]) (zR (o:=.ow .lst ([(Tm.name x).d,b.d].map .fz)) (qL (vZ rfl (vQ rfl) rfl) (qU rfl rfl rfl pp rfl rfl rfl)) rfl) rfl rfl) ?_
 refine qVh (e1:=[fz r,fz (Tm.op g (.name x) b).d,fz nd,fz (nmD hl),fz (.str "op"),fz (Tm.name x).d]) rfl ?_
 unfold jI;exact vV (qL (hs:=[.d r,.d (Tm.name x).d,.d nd,.d (nmD hl)]) rfl (v5 rfl rfl rfl c))
end
theorem zKa{kn:Kn}{x:Str}(h:wV kn x=false):inB (.str x) (knD kn)=some false:=by
 unfold knD;rw[zQd];unfold wV at h;rw[h]
theorem qKl{p:Slot}{g:Sg}{x:Str}{b:Tm}:∀(rows:List Rw) (kn:Kn) (hl:Nm) (i:Nat) (x3 x4 x5:Slot),(∀r∈rows,r.t.wf/\r.t.h<=30)->kn.length+rows.length<=1000->hl.length+rows.length<=1000->zN rows kn hl=true->wV (rows.foldl yH kn) x=false->
  forS (gT 2 (gCn (gN 3) (gCn (gN 4) gNl))) xV (qQ3 i ((rows ++ [Rw.ask (.op g (.name x) b)]).map Rw.d)) [p,.s false (knO kn),.s false (nmO hl),x3,x4,x5]=.er 24 [("row",.int (i+rows.length:Nat))]
 | [],kn,hl,i,x3,x4,x5,_,_,_,_,hx=>by
   have c:vW 30 [fz (.int (i:Nat)),fz (Tm.op g (.name x) b).d,fz (fzO (knO kn)),fz (fzO (nmO hl))]=.er 24 [("row",.int (i:Nat))]:=by
    rw[qXt,zXg];exact jQu (h:=28) (zKa hx)
   refine qVh (e1:=cE p kn hl i (Rw.ask (.op g (.name x) b)).d x5) rfl ?_
   refine qZ (o:=.fz (.str "ask")) (e:=cE p kn hl i (Rw.ask (.op g (.name x) b)).d x5) rfl (vN (q:=false) (e:=cE p kn hl i (Rw.ask (.op g (.name x) b)).d (fz (.str "ask"))) rfl (qH rfl (qD (q:=false) (e:=cE p kn hl i (Rw.ask (.op g (.name x) b)).d (fz (.str "ask"))) rfl (qH rfl (qM (jP (vV ?_)))))));exact qL (F:=vW 30) (env:=cE p kn hl i (Rw.ask (.op g (.name x) b)).d (fz (.str "ask"))) (as:=[(.v (oV (oN 3))),(.v (oV (oIx (oN 4) (o1 negD (oC (.int 1)))))),(.b (pOf (oN 1))),(.b (pOf (oN 2)))]) (hs:=[.d (.int (i:Nat)),.d (Tm.op g (.name x) b).d,.p 1 [],.p 2 []]) (vZ (d:=.int (i:Nat)) rfl (vZ (d:=(Tm.op g (.name x) b).d) rfl rfl rfl) rfl) (v5 rfl rfl rfl c)
 | r::rs,kn,hl,i,x3,x4,x5,hw,h1,h2,hc,hx=>by
   change (qK8 kn hl r && zN rs (yH kn r) (qVc hl r))=true at hc;rw[aP]at hc;rw[aY]at h1 h2;obtain⟨w1,w2⟩:=hw r (by simp);have l1:(yH kn r).length <=kn.length+1:=by cases r <;> first|exact xF|(show kn.length<=_;omega)
   have l2:(qVc hl r).length <=hl.length+1:=by cases r <;> first|exact xF|(show hl.length<=_;omega)
   obtain⟨y5,hs⟩:=names_step (p:=p) (i:=i) r x5 w1 w2 (by omega) (by omega) hc.1;have he:=qKl (p:=p) (g:=g) (b:=b) rs (yH kn r) (qVc hl r) (i+1) (fz (.int (i:Nat))) (fz r.d) y5 (fun q hq=>hw q (aC _ hq)) (by omega) (by omega) hc.2 hx;rw[aY,show i+(rs.length+1)=i+1+rs.length by omega];exact vJ rfl hs he
theorem vJg(rows:List Rw){x:Str}{b:Tm}(hw:∀r∈rows,r.t.wf/\r.t.h<=30)(hl:rows.length<=1000)(hc:zN rows [] []=true)(hx:wV (rows.foldl yH []) x=false):zQ [fz (.nd .lst ((rows ++ [Rw.ask (.op g (.name x) b)]).map Rw.d))]=.er 24 [("row",.int (rows.length:Nat))]:=by
 have lp:=qKl (p:=fz (.nd .lst ((rows ++ [Rw.ask (.op g (.name x) b)]).map Rw.d))) (g:=g) (b:=b) rows [] [] 0 .un .un .un hw (by simpa using hl) (by simpa using hl) hc hx;rw[Nat.zero_add]at lp;generalize (rows ++ [Rw.ask (.op g (.name x) b)]).map Rw.d=ds at *;have c:j9 [fz (.nd .lst ds)]=.er 24 [("row",.int (rows.length:Nat))]:=by
  unfold j9;exact zI (qZ (o:=.ow (.dct []) []) rfl (qZ (o:=.ow (.dct []) []) rfl (jD (ds:=qQ3 0 ds) (qQm (xs:=[.nd .lst ds]) (qE rfl (zB rfl) rfl) rfl rfl) lp)))
 unfold zQ;exact zI (jP (vV (qL (vZ rfl (vQ rfl) rfl) (v5 rfl rfl rfl c))))

noncomputable abbrev tiB:ST:=asB (oGt (oL lenD [(oN 2)]) (oC (.int 0)))
noncomputable abbrev tiE(p:Slot)(out os:List O)(x:Slot):Ev:=[p,.s false (.ow .lst out),.s false (.ow .lst os),x]
theorem vZ9(n:D):qO [.s false (.fz (.tup [.str "slot",n]))]=.ok (.ow .lst [],[.un]):=by kernel_rfl
theorem vX7(n:D):qO [.s false (.fz (.tup [.str "draw",n]))]=.ok (.ow .lst [],[.un]):=by kernel_rfl
theorem vJe(g x y:D):qO [.s false (.fz (.tup [.str "bind",g,x,y]))]=.ok (.ow .lst [.fz x,.fz y],[.un]):=by kernel_rfl
theorem zZs{p x:Slot}{out:List O}{t:D}{ps:List O}(hp:qO [.s false (.fz t)]=.ok (.ow .lst ps,[.un]))(h1:out.length<=1000)(h2:os.length<=1000)(h3:ps.length<=1000):yZ tiB j3 (n+1) (tiE p out (os ++ [.fz t]) x)=yZ tiB j3 n (tiE p (out ++ [.fz t]) (os ++ ps) (fz t)):=by
 have l:((os ++ [O.fz t]).length :Nat)=os.length+1:=by simp
 have tb:tiB (tiE p out (os ++ [.fz t]) x)=.ok (true,tiE p out (os ++ [.fz t]) x):=by
  have q:tiB (tiE p out (os ++ [.fz t]) x)=.ok (decide ((0:Int)<((fzOs (os ++ [.fz t])).length :Nat)),tiE p out (os ++ [.fz t]) x):=by kernel_rfl
  rw[q,qV9,aK,l,decide_eq_true (show(0:Int)<((os.length+1:Nat):Int) by omega)]
 have bd:j3 (tiE p out (os ++ [.fz t]) x)=.ok (.nx (tiE p (out ++ [.fz t]) (os ++ ps) (fz t))):=by
  have pe:ePop (pOf (oN 2)) (tiE p out (os ++ [.fz t]) x)=.ok (.fz t,tiE p out os x):=by
   show(opt ((os ++ [O.fz t])[(os ++ [O.fz t]).length - 1]?)).bind (fun o=>Res.ok (o,tiE p out ((os ++ [O.fz t]).eraseIdx ((os ++ [O.fz t]).length - 1)) x))=_;rw[←qZm,List.dropLast_concat,l,Nat.add_sub_cancel,List.getElem?_concat_length];rfl
  refine qZ pe (v8 (o:=.fz .non) (e:=tiE p out (os ++ ps) (fz t)) ?_ (wJ (o:=.fz .non) (e:=tiE p (out ++ [.fz t]) (os ++ ps) (fz t)) ?_ rfl))
  ·refine qVf (i:=2) (π:=[]) (os0:=os) (os:=os) (x:= .ow .lst ps) (e:=tiE p out os (fz t)) (z:=(.fz .non,os ++ ps)) rfl rfl (qL (vZ rfl (vQ rfl) rfl) (qU rfl rfl rfl hp rfl rfl rfl)) rfl rfl ?_ rfl;show cond (decide (os.length+ps.length<=lim)) _ _=_;rw[decide_eq_true (aO (show _<=2000 by omega) (show 2000<=1000000 by decide))];rfl
  ·refine qVf (i:=1) (π:=[]) (os0:=out) (os:=out) (x:= .fz t) (e:=tiE p out (os ++ ps) (fz t)) (z:=(.fz .non,out ++ [.fz t])) rfl rfl rfl rfl rfl ?_ rfl;show cond (decide (out.length<=lim)) _ _=_;rw[decide_eq_true (aO h1 (show 1000<=1000000 by decide))];rfl
 show(tiB _).bind _=_;rw[tb];show(j3 _).bind _=_;rw[bd];rfl
noncomputable def szO(ts:List OT):List O:=(ts.map OT.d).map .fz
theorem vWd(ts us:List OT):szO (ts ++ us)=szO ts ++ szO us:=by unfold szO;rw[bN,bN]
theorem Sz.pos{t:OT}(h:Sz t a):1<=a:=by cases h <;> omega
theorem SzS.len{ts:List OT}(h:SzS ts n):ts.length<=n:=by
 induction h with
 |nil=>exact aD _
 |snoc h z ih=>have:=z.pos;rw[aB];show _+1<=_;omega
theorem ti_loop{p:Slot}:∀(n:Nat) (ts:List OT),SzS ts n->n<=700->∀(k:Nat) (out:List D) (x:Slot),out.length+n<=700->∃(out' :List D) (y:Slot),out'.length=out.length+n/\yZ tiB j3 (n+k+1) (tiE p (out.map .fz) (szO ts) x)=.ok (.nx (tiE p (out'.map .fz) [] y)):=by
 intro n;induction n using Nat.strongRecOn with
 |_ n ih=>
 intro ts hz hn k out x ho;have hl:=hz.len;have szl:∀ts:List OT,(szO ts).length =ts.length:=fun ts=>by unfold szO;rw[aK,aK]
 cases hz with
 |nil=>exact⟨out,x,rfl,rfl⟩
 | @snoc ts t n a h z=>
   have hl' :=h.len;rw[vWd];have go:∀(ps:List OT) (m:Nat),n+a=m+1->SzS (ts ++ ps) m->ps.length<=2->qO [.s false (.fz t.d)]=.ok (.ow .lst (szO ps),[.un])->∃(out' :List D) (y:Slot),out'.length=out.length+(n+a)/\yZ tiB j3 (n+a+k+1) (tiE p (out.map .fz) (szO ts ++ szO [t]) x)=.ok (.nx (tiE p (out'.map .fz) [] y)):=fun ps m e hs h2 hp=>by
    obtain⟨out',y,l,w⟩:=ih m (by omega) (ts ++ ps) hs (by omega) k (out ++ [t.d]) (fz t.d) (by rw[aB];show _+1+_<=_;omega);refine⟨out',y,by rw[l,aB];show _+1+_=_;omega,?_⟩;rw[show n+a+k+1=(m+k+1)+1 by omega];rw[vWd,bN]at w;exact(zZs (n:=m+k+1) (t:=t.d) (ps:=szO ps) (os:=szO ts) hp (by rw[aK];omega) (by rw[szl];omega) (by rw[szl];omega)).trans w
   cases z with
   |num i=>exact go [] n rfl (by rw[bG];exact h) (by decide) (qKh _)
   |slot i=>exact go [] n rfl (by rw[bG];exact h) (by decide) (vZ9 _)
   |draw i=>exact go [] n rfl (by rw[bG];exact h) (by decide) (vX7 _)
   |@op g u v a b hx hy=>exact go [u,v] (n+a+b) (by omega) (by have:=SzS.snoc (SzS.snoc h hx) hy;rwa [cK]at this) (aD 2) (qV6 _ _ _)
   |@bind i u v a b hx hy=>exact go [u,v] (n+a+b) (by omega) (by have:=SzS.snoc (SzS.snoc h hx) hy;rwa [cK]at this) (aD 2) (vJe _ _ _)
theorem zZy{st:List (Int×OT)}{dd:Dw}{sl:Int}(h:SzS (st.map fun b=>b.2) n)(hn:n<=600):qXx [fz (oneD st dd sl)]=.ok (.fz (.int (n:Nat)),[.un]):=by
 have ls:=h.len;rw[aK]at ls;obtain⟨out,y,l,w⟩:=ti_loop (p:=fz (oneD st dd sl)) n _ h (by omega) (99999 - n) [] .un (by show 0+n<=700;omega);rw[show n+(99999 - n)+1=100000 by omega]at w;have l' :out.length=n:=by rw[l];exact Nat.zero_add n
 have cm:∀(bs:List (Int×OT)) (env:Ev),(∃a b,env=[a,b])->∃a b,yC (gT 2 (gCn (gN 0) (gCn (gN 1) gNl))) bTrue (oV (oN 1)) (zZ bs) env=.ok (bs.map fun b=>b.2.d,[a,b]):=fun bs=>by
  induction bs with
  |nil=>rintro env ⟨u,v,rfl⟩;exact⟨u,v,rfl⟩
  | cons b bs ih=>
    rintro env ⟨u,v,rfl⟩;obtain⟨c,d,e⟩:=ih [fz (.int b.1),fz b.2.d] ⟨_,_,rfl⟩;refine⟨c,d,?_⟩;show(Res.ok (b.2.d,[fz (.int b.1),fz b.2.d])).bind (fun r=>(yC (gT 2 (gCn (gN 0) (gCn (gN 1) gNl))) bTrue (oV (oN 1)) (zZ bs) r.2).bind fun q=>.ok (r.1::q.1,q.2))=_;show(yC (gT 2 (gCn (gN 0) (gCn (gN 1) gNl))) bTrue (oV (oN 1)) (zZ bs) [fz (.int b.1),fz b.2.d]).bind _=_;rw[e];rfl
 obtain⟨c,d,ce⟩:=cm st [.un,.un] ⟨_,_,rfl⟩;have ti:qQb [fz (oneD st dd sl)]=.ok (.ow .lst (out.map .fz),[.un]):=by
  unfold qQb;have cp:compS 2 [] [0,1] (iV (oV (oFld [1] "steps" (oN 0)))) (gT 2 (gCn (gN 0) (gCn (gN 1) gNl))) bTrue (oV (oN 1)) [fz (oneD st dd sl),.s false (.ow .lst []),.un,.un]=.ok (.ow .lst (szO (st.map fun b=>b.2)),[fz (oneD st dd sl),.s false (.ow .lst []),.un,.un]):=by
   refine qJo (ds:=zZ st) (vs:=st.map fun b:Int×OT=>b.2.d) (e:=[fz (oneD st dd sl),.s false (.ow .lst []),.un,.un]) rfl ?_ ce ?_
   ·show(true && decide ((zZ st).length <=lim))=true;rw[decide_eq_true (show(zZ st).length <=lim by unfold zZ;rw[aK];exact aO ls (aO hn (show 600<=1000000 by decide)))];rfl
   ·unfold szO;simp only[cU];rfl
  exact v7 (o:=.rt (.ow .lst (out.map .fz)) [fz (oneD st dd sl),.un,.s false (.ow .lst []),y]) (qZ (o:=.ow .lst []) rfl (qZ cp (jK w (wX rfl rfl)))) rfl
 have tf:fzS (qG qQb [(.v (oV (oN 0)))]) [fz (oneD st dd sl)]=.ok (.nd .lst out,[fz (oneD st dd sl)]):=zR (qL (vZ rfl (vQ rfl) rfl) (qU rfl rfl rfl ti rfl rfl rfl)) (by rw[zX];rfl);unfold qXx;rw[←l'];exact v7 (wX (o:=.fz (.int (out.length:Nat))) (e:=[fz (oneD st dd sl)]) (wQ (zL (vKi (hs:=[.d (.nd .lst out)]) (qQ7 (wZ tf rfl) rfl (vV5 rfl) rfl) rfl rfl rfl) rfl) rfl) rfl) rfl
end FM
namespace X25
open PySem L2 DX FP FM PyProof.Rows
variable{ms:Ms}{f:Str}{q:Nat×Nat}{H m many n df r0 r1 n0 m0 n1 m1 na ma:Nat}{ν:Nm}{a b:Int}{h1 h2:Hn}{α:Type}{R:List Rw}{e env:Ev}{ta:Tm}
noncomputable abbrev Ms:=List (Str×(Nat×Nat))
noncomputable abbrev nI(n:Nat):D:=.int (n:Nat)
noncomputable abbrev msv:Str×(Nat×Nat)->D:=fun p=>.nd .lst [nI p.2.1,nI p.2.2]
noncomputable def msD(ms:Ms):D:=.nd (.dct (qR Sum.inr ms)) (ms.map msv)
noncomputable def msO(ms:Ms):O:=.ow (.dct (qR Sum.inr ms)) (ms.map fun p=>.fz (msv p))
theorem jQ3(ms:Ms):fzO (msO ms)=msD ms:=by
 have:=zX (k:=.dct (qR Sum.inr ms)) (ms.map msv);rw[cU]at this;exact this
theorem zKm(e:getA ms f=some q):ixD (msD ms) (.str f)=some (msv (f,q)):=by
 obtain⟨j,h1,h2,_⟩:=qWt wP msv e;show(((some (Sum.inr f:Key)).bind fun k=>kidx k (qR Sum.inr ms)).bind fun j=>(ms.map msv)[j]?)=_;rw[cZ,h1];exact h2
inductive Tk(ms:Ms)(kn:Str->Bool):Nat->Tm->Nat->Nat->Prop
 |num {h:Nat} (n:Int):Tk ms kn (h+1) (.num n) 1 0
 |name {h:Nat} {x:Str} (hx:kn x=true):Tk ms kn (h+1) (.name x) 1 0
 |flip {h:Nat} (a b:Int):Tk ms kn (h+1) (.flip a b) 1 1
 |pick {h:Nat} (ps:List (Int×Int)):Tk ms kn (h+1) (.pick ps) 1 1
 |op {h:Nat} {g:Sg} {x y:Tm} {a b c d:Nat} (hx:Tk ms kn h x a b) (hy:Tk ms kn h y c d):Tk ms kn (h+1) (.op g x y) (1+a+c) (b+d)
 |call {h:Nat} {f:Str} {t:Tm} {n m k l:Nat} (e:getA ms f=some (k,l)) (ht:Tk ms kn h t n m):Tk ms kn (h+1) (.call f [t]) (1+n+k) (m+l)
section
variable{ms:Ms}{kn:Str->Bool}{h:Nat}{t:Tm}{n m:Nat}
theorem Tk.up(k:Tk ms kn h t n m):∀{h' :Nat},h<=h' ->Tk ms kn h' t n m:=by
 induction k with
 |num n=>intro h' l;cases h' with|zero=>omega|succ h' =>exact .num n
 |name hx=>intro h' l;cases h' with|zero=>omega|succ h' =>exact .name hx
 |flip a b=>intro h' l;cases h' with|zero=>omega|succ h' =>exact .flip a b
 |pick ps=>intro h' l;cases h' with|zero=>omega|succ h' =>exact .pick ps
 |op hx hy ix iy=>intro h' l;cases h' with|zero=>omega|succ h' =>exact .op (ix (by omega)) (iy (by omega))
 |call e ht it=>intro h' l;cases h' with|zero=>omega|succ h' =>exact .call e (it (by omega))
theorem Tk.base(k:Tk ms kn h t n m):t.wf/\t.h<=h/\Sm5 t:=by
 induction k with
 |num n=>exact⟨by simp[Tm.wf],by simp[Tm.h],.num _⟩
 |name hx=>exact⟨by simp[Tm.wf],by simp[Tm.h],.name _⟩
 |flip a b=>exact⟨by simp[Tm.wf],by simp[Tm.h],.flip _ _⟩
 |pick ps=>exact⟨by simp[Tm.wf],by simp[Tm.h],.pick _⟩
 | op hx hy ix iy=>
   refine⟨?_,?_,.op ix.2.2 iy.2.2⟩
   ·rw[Tm.wf];exact⟨ix.1,iy.1⟩
   ·rw[Tm.h];have:=ix.2.1;have:=iy.2.1;omega
 | call e ht it=>
   refine⟨?_,?_,.call fun a ha=>?_⟩
   ·rw[Tm.wf,Tm.wfs,Tm.wfs];exact⟨by simp,it.1,trivial⟩
   ·rw[Tm.h,Tm.hs,Tm.hs];have:=it.2.1;omega
   ·cases dY.mp ha;exact it.2.2
theorem Tk.chk{hl:Nm}{kn' :Str->Bool}(k:Tk ms kn h t n m)(hk:∀x,kn x=true->kn' x=true)(hh:∀f q,getA ms f=some q->getA hl f=some 1):chkT kn' hl t=true:=by
 induction k with
 |num n|flip a b|pick ps=>rw[chkT]
 |name hx=>rw[chkT];exact hk _ hx
 |op hx hy ix iy=>rw[chkT,ix,iy];rfl
 |@call h f t n m k l e ht it=>rw[chkT,chkTs,chkTs,it,decide_eq_true (show getA hl f=some (([t]:List Tm).length :Int) from hh _ _ e)];rfl
noncomputable def Tie(ms:Ms)(hs:Hs)(H:Nat):Prop:=∀f k l,getA ms f=some (k,l)->∃b,getA hs f=some ((["x"]:List Str),b)/\∀(μ:Nm) (h:Nat),H<=h->Cs hs h μ b k l
theorem Tk.cs{hs:Hs}(k:Tk ms kn h t n m)(hn:∀x,kn x=true->∃i,getA ν x=some i)(ti:Tie ms hs H):∀h',h+H<=h' ->Cs hs h' ν t n m:=by
 induction k with
 |num n=>intro h' l;cases h' with|zero=>omega|succ h' =>exact .num n
 |name hx=>intro h' l;obtain⟨i,e⟩:=hn _ hx;cases h' with|zero=>omega|succ h' =>exact .name e
 |flip a b=>intro h' l;cases h' with|zero=>omega|succ h' =>exact .flip a b
 |pick ps=>intro h' l;cases h' with|zero=>omega|succ h' =>exact .pick ps
 |op hx hy ix iy=>intro h' l;cases h' with|zero=>omega|succ h' =>exact .op (ix _ (by omega)) (iy _ (by omega))
 | call e ht it=>
   intro h' l;obtain⟨b,e1,e2⟩:=ti _ _ _ e;cases h' with
   |zero=>omega
   |succ h' =>exact .call e1 (it _ (by omega)) fun μ=>e2 μ _ (by omega)
noncomputable abbrev pO(a b:Nat):O:=.ow .lst [.fz (nI a),.fz (nI b)]
theorem Tk.meas(k:Tk ms kn h t n m):zU h [fz t.d,fz (msD ms)]=.ok (pO n m,[.un,.un]):=by
 induction k with
 |num n=>simp only[Tm.d];kernel_rfl
 |name hx=>simp only[Tm.d];kernel_rfl
 |flip a b=>simp only[Tm.d];kernel_rfl
 |pick ps=>simp only[Tm.d];kernel_rfl
 | @op h g x y a b c d hx hy ix iy=>
   rw[show pO (1+a+c) (b+d)=.ow .lst [.fz (.int (1+(a:Nat)+(c:Nat))),.fz (.int ((b:Nat)+(d:Nat)))] by unfold pO nI;rw[dQ,dQ,dQ];rfl];rw[zU];exact v7 (o:=.rt _ [fz (Tm.op g x y).d,fz (msD ms),.s false (pO a b),.s false (pO c d),.un,.un]) (qD (q:=true) (e:=[fz (Tm.op g x y).d,fz (msD ms),.un,.un,.un,.un]) rfl (vD rfl (jH (qZ (qL (vZ (d:=x.d) rfl (vZ (d:=msD ms) rfl (vQ rfl) rfl) rfl) (qU rfl rfl rfl ix rfl rfl rfl)) (jH (qZ (qL (vZ (d:=y.d) rfl (vZ (d:=msD ms) rfl (vQ rfl) rfl) rfl) (qU rfl rfl rfl iy rfl rfl rfl)) (qJj rfl rfl))))))) rfl
 | @call h f t n m k l e ht it=>
   rw[show pO (1+n+k) (m+l)=.ow .lst [.fz (.int (1+(n:Nat)+(k:Nat))),.fz (.int ((m:Nat)+(l:Nat)))] by unfold pO nI;rw[dQ,dQ,dQ];rfl];rw[zU];have g:oV (oIx (oN 1) (oIx (oN 0) (oC (.int 1)))) [fz (Tm.call f [t]).d,fz (msD ms),.un,.un,.un,.un]=.ok (msv (f,(k,l)),[fz (Tm.call f [t]).d,fz (msD ms),.un,.un,.un,.un]):=
    zL (xE (h1:=.d (msD ms)) (h2:=.d (.str f)) (y:=.str f) rfl rfl rfl rfl (by show(ixD (msD ms) (.str f)).map Hn.d=_;rw[zKm e];rfl) rfl) rfl
   exact v7 (o:=.rt _ [fz (Tm.call f [t]).d,fz (msD ms),.un,.un,fz (msv (f,(k,l))),.s false (pO n m)]) (qD (q:=false) (e:=[fz (Tm.call f [t]).d,fz (msD ms),.un,.un,.un,.un]) rfl (qM (qD (q:=true) (e:=[fz (Tm.call f [t]).d,fz (msD ms),.un,.un,.un,.un]) rfl (vD rfl (jH (qZ (wQ g rfl) (jH (qZ (qL (vZ (d:=t.d) rfl (vZ (d:=msD ms) rfl (vQ rfl) rfl) rfl) (qU rfl rfl rfl it rfl rfl rfl)) (qJj rfl rfl))))))))) rfl
end
noncomputable abbrev fI(n:Int):Slot:=fz (.int n)
noncomputable def Ints(ds:List D):Prop:=∀d∈ds,∃k:Int,d=.int k
theorem zQ2(n:Nat):∃ds,rngD 0 (n+1)=.int 0::ds/\Ints ds/\ds.length=n:=by
 refine⟨(List.range n).map fun(j:Nat)=>.int (0+((j+1:Nat):Int)),?_,fun d hd=>?_,by rw[aK,List.length_range]⟩
 ·unfold rngD;rw[List.range_succ_eq_map,aS,cU];rfl
 ·obtain⟨j,_,rfl⟩:=List.mem_map.mp hd;exact⟨_,rfl⟩
theorem zQ0(n:Nat):Ints (rngD 0 n)/\(rngD 0 n).length =n:=by
 refine⟨fun d hd=>?_,by unfold rngD;rw[aK,List.length_range]⟩;obtain⟨j,_,rfl⟩:=List.mem_map.mp hd;exact⟨_,rfl⟩
theorem vKd(h:m<=30):rg1 [.int (m:Nat)]=some (rngD 0 m):=by
 have:∀m:Nat,m<=30->in62 (m:Int)=true:=by decide +kernel
 show cond (in62 (m:Int)) (some (rngD 0 (m:Int).toNat)) none=_;rw[this m h,Int.toNat_natCast];rfl
section
variable{ms:Ms}{kn:Str->Bool}
theorem leaf_ok{a:Slot}{drawn cell k:Int}{x3 x5:Slot}:∃pt m,Tk ms kn 1 pt 1 m/\∀X,(sIf (asB (o2 isN (oN 3) (oC .non))) (sSet 3 (owS (oV (oN 5)))) (sSet 3 (owS (svTup [(oV (oC (.str "op"))),(oV (oC (.str "+"))),(oV (oN 3)),(oV (oN 5))])))) [a,fI drawn,fI cell,x3,fI k,fz pt.d]=X->yB [a,fI drawn,fI cell,x3,fI k,x5]=X:=by
 by_cases z:k<drawn
 ·by_cases y:(cell + k) % 3=0
  ·exact⟨_,_,.pick [(cell % 1000,1+k),(5000+k,1+cell % 1000000)],fun X h=>qZ (o:=.fz (Tm.num (cell % 1000000000000)).d) (e:=[a,fI drawn,fI cell,x3,fI k,x5]) rfl (qD (q:=decide (k<drawn)) (e:=[a,fI drawn,fI cell,x3,fI k,fz (Tm.num (cell % 1000000000000)).d]) rfl (vD (decide_eq_true z) (qZ (o:=.fz (Tm.flip (1+(cell+k) % 900) 1000).d) (e:=[a,fI drawn,fI cell,x3,fI k,fz (Tm.num (cell % 1000000000000)).d]) rfl (qD (q:=(cell+k) % 3 == 0) (e:=[a,fI drawn,fI cell,x3,fI k,fz (Tm.flip (1+(cell+k) % 900) 1000).d]) (qVg (q:=decide (k<drawn)) (e:=[a,fI drawn,fI cell,x3,fI k,fz (Tm.flip (1+(cell+k) % 900) 1000).d]) rfl (vD (decide_eq_true z) rfl)) (vD (by rw[y];rfl) (qZ (o:=.fz (Tm.pick [(cell % 1000,1+k),(5000+k,1+cell % 1000000)]).d) (e:=[a,fI drawn,fI cell,x3,fI k,fz (Tm.flip (1+(cell+k) % 900) 1000).d]) rfl h))))))⟩
  ·exact⟨_,_,.flip (1+(cell+k) % 900) 1000,fun X h=>qZ (o:=.fz (Tm.num (cell % 1000000000000)).d) (e:=[a,fI drawn,fI cell,x3,fI k,x5]) rfl (qD (q:=decide (k<drawn)) (e:=[a,fI drawn,fI cell,x3,fI k,fz (Tm.num (cell % 1000000000000)).d]) rfl (vD (decide_eq_true z) (qZ (o:=.fz (Tm.flip (1+(cell+k) % 900) 1000).d) (e:=[a,fI drawn,fI cell,x3,fI k,fz (Tm.num (cell % 1000000000000)).d]) rfl (qD (q:=(cell+k) % 3 == 0) (e:=[a,fI drawn,fI cell,x3,fI k,fz (Tm.flip (1+(cell+k) % 900) 1000).d]) (qVg (q:=decide (k<drawn)) (e:=[a,fI drawn,fI cell,x3,fI k,fz (Tm.flip (1+(cell+k) % 900) 1000).d]) rfl (vD (decide_eq_true z) rfl)) (qH (beq_false_of_ne y) (qM h))))))⟩
 ·exact⟨_,_,.num (cell % 1000000000000),fun X h=>qZ (o:=.fz (Tm.num (cell % 1000000000000)).d) (e:=[a,fI drawn,fI cell,x3,fI k,x5]) rfl (qD (q:=decide (k<drawn)) (e:=[a,fI drawn,fI cell,x3,fI k,fz (Tm.num (cell % 1000000000000)).d]) rfl (qH (decide_eq_false z) (qM (qD (q:=false) (e:=[a,fI drawn,fI cell,x3,fI k,fz (Tm.num (cell % 1000000000000)).d]) (qVg (q:=decide (k<drawn)) (e:=[a,fI drawn,fI cell,x3,fI k,fz (Tm.num (cell % 1000000000000)).d]) rfl (qH (decide_eq_false z) rfl)) (qM h)))))⟩
theorem zXt(t:Tm):vQ8 t.d=false:=by cases t <;> rfl
theorem chain_loop{a:Slot}{drawn cell:Int}:∀(ds:List D) (t:Tm) (h n m:Nat) (x4 x5:Slot),Ints ds->Tk ms kn h t n m->1<=h->∃t' n' m' y4 y5,Tk ms kn (h+ds.length) t' n' m' /\forS (gN 4) yB ds [a,fI drawn,fI cell,fz t.d,x4,x5]=.ok (.nx [a,fI drawn,fI cell,fz t'.d,y4,y5])
 |[],t,h,n,m,x4,x5,_,k,_=>⟨t,n,m,x4,x5,k,rfl⟩
 | d::ds,t,h,n,m,x4,x5,hi,k,h1=>by
   obtain⟨i,rfl⟩:=hi d (by simp);obtain⟨pt,l,kp,hb⟩:=leaf_ok (ms:=ms) (kn:=kn) (a:=a) (drawn:=drawn) (cell:=cell) (k:=i) (x3:=fz t.d) (x5:=x5);obtain⟨t',n',m',y4,y5,k',e'⟩:=chain_loop (a:=a) (drawn:=drawn) (cell:=cell) ds (.op .add t pt) (h+1) _ _ (fI i) (fz pt.d) (fun d hd=>hi d (aC _ hd)) (.op k (kp.up h1)) (by omega);refine⟨t',n',m',y4,y5,by rw[aY,show h+(ds.length+1)=h+1+ds.length by omega];exact k',?_⟩;refine vJ (e1:=[a,fI drawn,fI cell,fz t.d,fI i,x5]) rfl (hb _ ?_) e';exact vN (q:=vQ8 t.d) (e:=[a,fI drawn,fI cell,fz t.d,fI i,fz pt.d]) rfl (qH (zXt t) rfl)
theorem chain_ok(h1:1<=many)(h2:many<=10)(drawn cell:Int):∃t n m,Tk ms kn many t n m/\xU [fI many,fI drawn,fI cell]=.ok (.fz t.d,[.un,.un,.un]):=by
 obtain⟨ds,e,hi,hl⟩:=zQ2 (many - 1);rw[show many - 1+1=many by omega]at e;obtain⟨pt,l,kp,hb⟩:=leaf_ok (ms:=ms) (kn:=kn) (a:=fI many) (drawn:=drawn) (cell:=cell) (k:=0) (x3:=fz .non) (x5:=.un);obtain⟨t',n',m',y4,y5,k',e'⟩:=chain_loop (a:=fI many) (drawn:=drawn) (cell:=cell) ds pt 1 _ _ (fI 0) (fz pt.d) hi kp (by omega);refine⟨t',n',m',by rw[hl,show 1+(many - 1)=many by omega]at k';exact k',?_⟩;have lp:forS (gN 4) yB (rngD 0 many) [fI many,fI drawn,fI cell,fz .non,.un,.un]=.ok (.nx [fI many,fI drawn,fI cell,fz t'.d,y4,y5]):=by
  rw[e];refine vJ (e1:=[fI many,fI drawn,fI cell,fz .non,fI 0,.un]) rfl (hb _ ?_) e';exact vN (q:=true) rfl (vD rfl rfl)
 unfold xU;exact v7 (qZ (o:=.fz .non) rfl (jK (jD (qQm (xs:=[.int (many:Nat)]) (e:=[fI many,fI drawn,fI cell,fz .non,.un,.un]) rfl (vKd (by omega)) rfl) lp) (wX (o:=.fz t'.d) rfl rfl))) rfl
theorem calls_loop{a x2:Slot}(hf:getA ms f=some q):∀(ds:List D) (t:Tm) (h n m:Nat) (x4:Slot),Ints ds->Tk ms kn h t n m->2<=h->∃t' n' m' y4,Tk ms kn (h+ds.length) t' n' m' /\forS (gN 4) qZ3 ds [fz (.str f),a,x2,fz t.d,x4]=.ok (.nx [fz (.str f),a,x2,fz t'.d,y4])
 |[],t,h,n,m,x4,_,k,_=>⟨t,n,m,x4,k,rfl⟩
 | d::ds,t,h,n,m,x4,hi,k,h1=>by
   obtain⟨i,rfl⟩:=hi d (by simp);obtain⟨t',n',m',y4,k',e'⟩:=calls_loop (a:=a) (x2:=x2) hf ds (.op .sub t (.call f [.num i])) (h+1) _ _ (fI i) (fun d hd=>hi d (aC _ hd)) (.op k (Tk.up (.call (h:=1) hf (.num i)) h1)) (by omega);refine⟨t',n',m',y4,by rw[aY,show h+(ds.length+1)=h+1+ds.length by omega];exact k',?_⟩;exact vJ (e1:=[fz (.str f),a,x2,fz t.d,fI i]) rfl rfl e'
theorem calls_ok(hf:getA ms f=some q)(h1:1<=many)(h2:many<=6):∃t n m,Tk ms kn 9 t n m/\xB [fz (.str f),fI many]=.ok (.fz t.d,[.un,.un]):=by
 have fst:∃ft n m,Tk ms kn 3 ft n m/\∀(t:SS) X,t [fz (.str f),fI many,fz ft.d,.un,.un]=X->sSeq (sIf (asB (o2 eqF (oMod (oN 1) (oC (.int 2))) (oC (.int 0)))) (sSet 2 (owS (svTup [(oV (oC (.str "op"))),(oV (oC (.str "*"))),(svTup [(oV (oC (.str "flip"))),(oV (oC (.int 1))),(oV (oC (.int 7)))]),(svTup [(oV (oC (.str "op"))),(oV (oC (.str "+"))),(svTup [(oV (oC (.str "num"))),(oV (oN 1))]),(svTup [(oV (oC (.str "num"))),(oV (oC (.int 3)))])])]))) sNil) t [fz (.str f),fI many,fz (Tm.num 1).d,.un,.un]=X:=by
  by_cases z:((many:Nat):Int) % 2=0
  ·exact⟨.op .mul (.flip 1 7) (.op .add (.num (many:Nat)) (.num 3)),_,_,.op (.flip _ _) (.op (.num _) (.num _)),fun t X h=>qD (q:=((many:Nat):Int) % 2 == 0) rfl (vD (by rw[z];rfl) (qZ (o:=.fz (Tm.op .mul (.flip 1 7) (.op .add (.num (many:Nat)) (.num 3))).d) rfl h))⟩
  ·exact⟨.num 1,_,_,.num 1,fun t X h=>qD (q:=((many:Nat):Int) % 2 == 0) rfl (qH (beq_false_of_ne z) (qM h))⟩
 obtain⟨ft,n0,m0,kf,hb⟩:=fst;obtain⟨hi,hl⟩:=zQ0 (many - 1);obtain⟨t',n',m',y4,k',e'⟩:=calls_loop (a:=fI many) (x2:=fz ft.d) hf (rngD 0 (many - 1)) (.call f [ft]) 4 _ _ .un hi (.call hf kf) (by omega);refine⟨t',n',m',k'.up (by omega),?_⟩;have rg:rg1 [.int ((many:Nat) - 1)]=some (rngD 0 (many - 1)):=by
  rw[show((many:Nat):Int) - 1=((many - 1:Nat):Int) by omega];exact vKd (by omega)
 unfold xB;exact v7 (qZ (o:=.fz (Tm.num 1).d) rfl (hb _ _ (qZ (o:=.fz (Tm.call f [ft]).d) rfl (jK (jD (qQm (xs:=[.int ((many:Nat) - 1)]) (e:=[fz (.str f),fI many,fz ft.d,fz (Tm.call f [ft]).d,.un]) rfl rg rfl) e') (wX (o:=.fz t'.d) rfl rfl))))) rfl
end
theorem ml(h:IntMulOk a b):i2g IntMulOk (fun i j=>i * j) (.int a) (.int b)=some (.int (a * b)):=if_pos h
section
variable{ms:Ms}{kn:Str->Bool}{n m N M:Nat}{p x4 x5 x6:Slot}
noncomputable abbrev tE(p:Slot)(ms:Ms)(N M:Nat)(x4 x5 x6:Slot):Ev:=[p,.s false (msO ms),fI (N:Nat),fI (M:Nat),x4,x5,x6]
theorem qJk{d:D}{t:Tm}(k:Tk ms kn 30 t n m)(el:oV (oIx (oN 4) (o1 negD (oC (.int 1)))) (tE p ms N M (fz d) x5 x6)=.ok (t.d,tE p ms N M (fz d) x5 x6)):qG (zU 30) [(.v (oV (oIx (oN 4) (o1 negD (oC (.int 1)))))),(.b (pOf (oN 1)))] (tE p ms N M (fz d) x5 x6)=.ok (pO n m,tE p ms N M (fz d) x5 x6):=by
 have c:=k.meas;rw[←jQ3]at c;exact qL (hs:=[.d t.d,.p 1 []]) (vZ el rfl rfl) (qU rfl rfl rfl c rfl rfl rfl)
theorem vJ8{k:Nat}(hk:k<=30)(e1:∀a b c d,evO (oIx (oN 5) (oC (.int 0))) [p,a,b,c,d,x5,fI (k:Nat)]=.ok (h1,[p,a,b,c,d,x5,fI (k:Nat)])/\rsv [p,a,b,c,d,x5,fI (k:Nat)] h1=some (nI n))(e2:∀a b c d,evO (oIx (oN 5) (oC (.int 1))) [p,a,b,c,d,x5,fI (k:Nat)]=.ok (h2,[p,a,b,c,d,x5,fI (k:Nat)])/\rsv [p,a,b,c,d,x5,fI (k:Nat)] h2=some (nI m)):
  (sSeq (sSet 2 (owS (oV (oAdd (oN 2) (oMul (oN 6) (oIx (oN 5) (oC (.int 0)))))))) (sSet 3 (owS (oV (oAdd (oN 3) (oMul (oN 6) (oIx (oN 5) (oC (.int 1))))))))) (tE p ms N M x4 x5 (fI (k:Nat)))=.ok (.nx (tE p ms (N+k * n) (M+k * m) x4 x5 (fI (k:Nat)))):=by
 have bt:Builtin.Int.intBits (k:Int)<=64:=intBits_le_64 (by omega) (by omega);unfold tE;rw[dQ,Int.natCast_mul,dQ,Int.natCast_mul];refine qZ (o:=.fz (.int ((N:Int)+(k:Int) * (n:Int)))) (e:=tE p ms N M x4 x5 (fI (k:Nat))) (wQ (zL (vG (h1:=.d (nI N)) (h2:=.d (.int ((k:Int) * (n:Int)))) rfl (vG (h1:=.d (nI k)) rfl (e1 _ _ _ _).1 rfl rfl (e1 _ _ _ _).2 (ml (.of_left bt)) rfl) rfl rfl rfl rfl rfl) rfl) rfl) ?_
 exact qXd (o:=.fz (.int ((M:Int)+(k:Int) * (m:Int)))) (e:=[p,.s false (msO ms),fI ((N:Int)+(k:Int) * (n:Int)),fI (M:Nat),x4,x5,fI (k:Nat)]) (wQ (zL (vG (h1:=.d (nI M)) (h2:=.d (.int ((k:Int) * (m:Int)))) rfl (vG (h1:=.d (nI k)) rfl (e2 _ _ _ _).1 rfl rfl (e2 _ _ _ _).2 (ml (.of_left bt)) rfl) rfl rfl rfl rfl rfl) rfl) rfl) rfl
theorem qXi{k:Nat}(hk:k<=30):(sSeq (sSet 2 (owS (oV (oAdd (oN 2) (oMul (oN 6) (oIx (oN 5) (oC (.int 0)))))))) (sSet 3 (owS (oV (oAdd (oN 3) (oMul (oN 6) (oIx (oN 5) (oC (.int 1))))))))) (tE p ms N M x4 (.s false (pO n m)) (fI (k:Nat)))=.ok (.nx (tE p ms (N+k * n) (M+k * m) x4 (.s false (pO n m)) (fI (k:Nat)))):=
 vJ8 hk (h1:=.d (nI n)) (h2:=.d (nI m)) (fun _ _ _ _=>⟨rfl,rfl⟩) (fun _ _ _ _=>⟨rfl,rfl⟩)
theorem zKv{k:Nat}(hk:k<=30):(sSeq (sSet 2 (owS (oV (oAdd (oN 2) (oMul (oN 6) (oIx (oN 5) (oC (.int 0)))))))) (sSet 3 (owS (oV (oAdd (oN 3) (oMul (oN 6) (oIx (oN 5) (oC (.int 1))))))))) (tE p ms N M x4 (fz (.nd .lst [nI n,nI m])) (fI (k:Nat)))=.ok (.nx (tE p ms (N+k * n) (M+k * m) x4 (fz (.nd .lst [nI n,nI m])) (fI (k:Nat)))):=
 vJ8 hk (h1:=.d (nI n)) (h2:=.d (nI m)) (fun _ _ _ _=>⟨rfl,rfl⟩) (fun _ _ _ _=>⟨rfl,rfl⟩)
theorem qV4{x:Str}{t:Tm}{j:Nat}(k:Tk ms kn 30 t n m)(r:Rw)(hr:r=.lt x t/\j=1\/r=.ag j x t/\j<=30\/r=.see t/\j=1\/r=.ask t/\j=1):wT (tE p ms N M (fz r.d) x5 x6)=.ok (.nx (tE p ms (N+j * n) (M+j * m) (fz r.d) (.s false (pO n m)) (fI (j:Nat)))):=by
 rcases hr with⟨rfl,rfl⟩|⟨rfl,hj⟩|⟨rfl,rfl⟩|⟨rfl,rfl⟩
 ·exact qZ (qJk k rfl) (qZ (o:=.fz (nI 1)) (e:=tE p ms N M (fz (Rw.lt x t).d) (.s false (pO n m)) x6) rfl (qD (q:=false) (e:=tE p ms N M (fz (Rw.lt x t).d) (.s false (pO n m)) (fI (1:Nat))) rfl (qH rfl (qM (qD (q:=false) (e:=tE p ms N M (fz (Rw.lt x t).d) (.s false (pO n m)) (fI (1:Nat))) rfl (qH rfl (qM (qXi (by decide)))))))))
 ·exact qZ (qJk k rfl) (qZ (o:=.fz (nI 1)) (e:=tE p ms N M (fz (Rw.ag j x t).d) (.s false (pO n m)) x6) rfl (qD (q:=false) (e:=tE p ms N M (fz (Rw.ag j x t).d) (.s false (pO n m)) (fI (1:Nat))) rfl (qH rfl (qM (qD (q:=true) (e:=tE p ms N M (fz (Rw.ag j x t).d) (.s false (pO n m)) (fI (1:Nat))) rfl (vD rfl (qZ (o:=.fz (nI j)) (e:=tE p ms N M (fz (Rw.ag j x t).d) (.s false (pO n m)) (fI (1:Nat))) rfl (qXi hj))))))))
 ·exact qZ (qJk k rfl) (qZ (o:=.fz (nI 1)) (e:=tE p ms N M (fz (Rw.see t).d) (.s false (pO n m)) x6) rfl (qD (q:=false) (e:=tE p ms N M (fz (Rw.see t).d) (.s false (pO n m)) (fI (1:Nat))) rfl (qH rfl (qM (qD (q:=false) (e:=tE p ms N M (fz (Rw.see t).d) (.s false (pO n m)) (fI (1:Nat))) rfl (qH rfl (qM (qXi (by decide)))))))))
 ·exact qZ (qJk k rfl) (qZ (o:=.fz (nI 1)) (e:=tE p ms N M (fz (Rw.ask t).d) (.s false (pO n m)) x6) rfl (qD (q:=false) (e:=tE p ms N M (fz (Rw.ask t).d) (.s false (pO n m)) (fI (1:Nat))) rfl (qH rfl (qM (qD (q:=false) (e:=tE p ms N M (fz (Rw.ask t).d) (.s false (pO n m)) (fI (1:Nat))) rfl (qH rfl (qM (qXi (by decide)))))))))
theorem tot_df{t:Tm}(k:Tk ms kn 30 t n m)(hl:ms.length<=1000):∃y5 y6,wT (tE p ms N M (fz (Rw.df f ["x"] t).d) x5 x6)=.ok (.nx (tE p (putA ms f (n,m)) N M (fz (Rw.df f ["x"] t).d) y5 y6)):=by
 have fn:=zKv (p:=p) (ms:=putA ms f (n,m)) (N:=N) (M:=M) (n:=n) (m:=m) (x4:=fz (Rw.df f ["x"] t).d) (k:=0) (by decide);rw[Nat.zero_mul,Nat.zero_mul]at fn;refine⟨_,_,qZ (qJk k rfl) (qZ (o:=.fz (nI 1)) (e:=tE p ms N M (fz (Rw.df f ["x"] t).d) (.s false (pO n m)) x6) rfl (qD (q:=true) (e:=tE p ms N M (fz (Rw.df f ["x"] t).d) (.s false (pO n m)) (fI (1:Nat))) rfl (vD rfl (jH (jK (e:=tE p (putA ms f (n,m)) N M (fz (Rw.df f ["x"] t).d) (fz (.nd .lst [nI n,nI m])) (fI (1:Nat))) ?_ (qZ (o:=.fz (nI 0)) (e:=tE p (putA ms f (n,m)) N M (fz (Rw.df f ["x"] t).d) (fz (.nd .lst [nI n,nI m])) (fI (1:Nat))) rfl (qD (q:=false) (e:=tE p (putA ms f (n,m)) N M (fz (Rw.df f ["x"] t).d) (fz (.nd .lst [nI n,nI m])) (fI (0:Nat))) rfl (qH rfl (qM fn)))))))))⟩;exact qWf (α:=Nat×Nat) (i:=1) (io:=false) (e:=tE p ms N M (fz (Rw.df f ["x"] t).d) (fz (.nd .lst [nI n,nI m])) (fI (1:Nat))) (l:=ms) (v:=(n,m)) (dv:=msv) (hk:=.d (.str f)) rfl rfl rfl rfl hl
end
noncomputable def hN(k:Nat):Str:=Txt.mul "h" (k:Nat)
theorem zKt:∀i,i<=6->∀j,j<=6->hN i=hN j->i=j:=by decide +kernel
theorem vQg{k:Nat}(h:k<=6):mulS (.str "h") (.int (k:Nat))=some (.str (hN k)):=by
 have:∀k:Nat,k<=6->MulOk "h" (k:Int):=by decide +kernel
 exact if_pos (this k h)
theorem vVo{v:α}:∀{l:List (Str×α)},getA l f=none->putA l f v=l ++ [(f,v)]
 |[],_=>rfl
 | p::l,h=>by
   unfold getA at h;unfold putA;by_cases z:p.1=f
   ·rw[if_pos z]at h;cases h
   ·rw [if_neg z] at h⊢;rw[vVo h];rfl
theorem vQk{l:List (Str×α)}{g:Str}{v:α}(h:getA l g=none)(ne:f≠g):getA (putA l f v) g=none:=by rw[j7,if_neg ne];exact h
theorem Tk.ext{ms':Ms}{kn:Str->Bool}{h:Nat}{t:Tm}(k:Tk ms kn h t n m)(e:∀f q,getA ms f=some q->getA ms' f=some q):Tk ms' kn h t n m:=by
 induction k with
 |num n=>exact .num n
 |name hx=>exact .name hx
 |flip a b=>exact .flip a b
 |pick ps=>exact .pick ps
 |op hx hy ix iy=>exact .op ix iy
 |call e0 ht it=>exact .call (e _ _ e0) it
theorem zQm{hs hs' :Hs}{h:Nat}{t:Tm}(k:Cs hs h ν t n m)(e:∀f q,getA hs f=some q->getA hs' f=some q):Cs hs' h ν t n m:=by
 induction k with
 |num n=>exact .num n
 |name hx=>exact .name hx
 |flip a b=>exact .flip a b
 |pick ps=>exact .pick ps
 |op hx hy ix iy=>exact .op ix iy
 |call e0 ht hb it ib=>exact .call (e _ _ e0) it ib
noncomputable def zX0(hs:Hs):Rw->Hs
 |.df f ps t=>putA hs f (ps,t)
 |_=>hs
noncomputable abbrev hsR(R:List Rw):Hs:=R.foldl zX0 []
noncomputable abbrev hlR(R:List Rw):Nm:=R.foldl qVc []
structure Dfs(k:Nat)(R:List Rw)(ms:Ms)(H:Nat):Prop where
 len:R.length=k
 ok:∀r∈R,isDf r=true/\qQk r/\Sm5 r.t
 kn:R.foldl yH []=[]
 chk:∀rs,zN (R ++ rs) [] []=zN rs [] (hlR R)
 ml:ms.length=k
 fr:∀i,k<i->i<=6->getA (hlR R) (hN i)=none/\getA ms (hN i)=none/\getA (hsR R) (hN i)=none
 has:∀i,1<=i->i<=k->∃q,getA ms (hN i)=some q
 hl:∀f q,getA ms f=some q->getA (hlR R) f=some 1
 tie:Tie ms (hsR R) H
 csr:∀K rs n m,CsR (hsR R) K rs n m->CsR [] K (R ++ rs) n m
 tk:∀r∈R,∃f t ms n m,r=.df f ["x"] t/\Tk ms (fun _=>false) 9 t n m
 tot:∀p x4 x5 x6 ds X,(∀y4 y5 y6,forS (gN 4) wT ds (tE p ms 0 0 y4 y5 y6)=X)->forS (gN 4) wT (R.map Rw.d ++ ds) (tE p [] 0 0 x4 x5 x6)=X
theorem Dfs.nil:Dfs 0 [] [] 3 where
 len:=rfl;ok:=fun _ h=>nomatch h
 kn:=rfl;chk:=fun _=>rfl
 ml:=rfl;fr:=fun _ _ _=>⟨rfl,rfl,rfl⟩
 has:=fun i h1 h2=>by omega
 hl:=fun _ _ h=>nomatch h
 tie:=fun _ _ _ h=>nomatch h
 csr:=fun _ _ _ _ h=>h
 tk:=fun _ h=>nomatch h
 tot:=fun _ x4 x5 x6 _ _ h=>h x4 x5 x6
theorem Dfs.snoc{k:Nat}{H':Nat}{t:Tm}(d:Dfs k R ms H)(hk:k<=5)(tk:Tk ms (fun _=>false) 9 t n m)(cs:∀μ h,H' <=h->Cs (hsR R) h μ t n m)(le:H<=H'):Dfs (k+1) (R ++ [.df (hN (k+1)) ["x"] t]) (putA ms (hN (k+1)) (n,m)) H' :=by
 obtain⟨f1,f2,f3⟩:=d.fr (k+1) (by omega) (by omega);obtain⟨b1,b2,b3⟩:=tk.base;have eh:hsR (R ++ [.df (hN (k+1)) ["x"] t])=putA (hsR R) (hN (k+1)) (["x"],t):=by unfold hsR;rw[List.foldl_append];rfl
 have el:hlR (R ++ [.df (hN (k+1)) ["x"] t])=putA (hlR R) (hN (k+1)) 1:=by unfold hlR;rw[List.foldl_append];rfl
 have ex:∀f q,getA (hsR R) f=some q->getA (putA (hsR R) (hN (k+1)) (["x"],t)) f=some q:=fun f q h=>by
  rw[j7,if_neg (fun z=>by rw[←z,f3]at h;cases h)];exact h
 constructor
 ·rw[aB,d.len];rfl
 ·intro r hr;rcases cT.mp hr with hr|hr
  ·exact d.ok r hr
  ·cases dY.mp hr;exact⟨rfl,⟨b1,by show t.h<=30;omega,fun _ _ _ z=>nomatch z⟩,b3⟩
 ·rw[List.foldl_append,d.kn];rfl
 ·intro rs;rw[cK,d.chk,el];show(((getA (hlR R) (hN (k+1))).isNone && chkT _ (hlR R) t) && zN rs [] (putA (hlR R) (hN (k+1)) 1))=_;rw[f1,tk.chk (fun _ h=>nomatch h) d.hl];rfl
 ·rw[vVo f2,aB,d.ml];rfl
 ·intro i h1 h2;obtain⟨g1,g2,g3⟩:=d.fr i (by omega) h2;have ne:hN (k+1)≠hN i:=fun z=>by have:=zKt (k+1) (by omega) i h2 z;omega
  rw[eh,el];exact⟨vQk g1 ne,vQk g2 ne,vQk g3 ne⟩
 ·intro i h1 h2;rw[j7];by_cases z:hN (k+1)=hN i
  ·rw[if_pos z];exact⟨_,rfl⟩
  ·rw [if_neg z];exact d.has i h1 (Nat.lt_succ_iff.mp (Nat.lt_of_le_of_ne h2 fun q=>z (by rw[q])))
 ·intro f q h;rw[el,j7];rw[j7]at h;by_cases z:hN (k+1)=f
  ·rw[if_pos z]
  ·rw[if_neg z]at h⊢;exact d.hl f q h
 ·intro f a b h;rw[eh];rw[j7]at h;by_cases z:hN (k+1)=f
  ·rw [if_pos z] at h;cases h;exact⟨t,by rw[j7,if_pos z],fun μ h hh=>zQm (cs μ h hh) ex⟩
  ·rw [if_neg z] at h;obtain⟨u,u1,u2⟩:=d.tie f a b h;exact⟨u,ex _ _ u1,fun μ h hh=>zQm (u2 μ h (by omega)) ex⟩
 ·intro K rs a b h;rw[eh]at h;rw[cK];exact d.csr K _ a b (.df h)
 ·intro r hr;rcases cT.mp hr with hr|hr
  ·exact d.tk r hr
  ·cases dY.mp hr;exact⟨_,_,_,_,_,rfl,tk⟩
 ·intro p x4 x5 x6 ds X h;rw[bN,cK];refine d.tot p x4 x5 x6 _ X fun y4 y5 y6=>?_
  obtain⟨z5,z6,e⟩:=tot_df (p:=p) (N:=0) (M:=0) (x5:=y5) (x6:=y6) (f:=hN (k+1)) (tk.up (show 9<=30 by decide)) (by have:=d.ml;omega);exact vJ rfl e (h _ _ _)
noncomputable abbrev rO(R:List Rw):Slot:=.s false (.ow .lst ((R.map Rw.d).map .fz))
noncomputable abbrev cD(cs:List Nat):D:=.nd .lst (cs.map nI)
section
variable{x0 x3 x4 x5 x8 x9 x10:Slot}{df k:Nat}{cs:List Nat}{cell:Int}{R:List Rw}
noncomputable abbrev gE(x0:Slot)(df:Nat)(cs:List Nat)(x3 x4 x5:Slot)(cell:Int)(R:List Rw)(x8 x9 x10:Slot):Ev:=[x0,fI (df:Nat),fz (cD cs),x3,x4,x5,fI cell,rO R,x8,x9,x10]
theorem vKl{r:Rw}{v:SV}(h:v (gE x0 df cs x3 x4 x5 cell R x8 x9 x10)=.ok (r.d,gE x0 df cs x3 x4 x5 cell R x8 x9 x10))(hl:R.length<=1000):eMu1 (pOf (oN 7)) (owS v) apF (gE x0 df cs x3 x4 x5 cell R x8 x9 x10)=.ok (.fz .non,gE x0 df cs x3 x4 x5 cell (R ++ [r]) x8 x9 x10):=by
 have ap:apF ((R.map Rw.d).map .fz) (.fz r.d)=some (.fz .non,((R ++ [r]).map Rw.d).map .fz):=by
  unfold apF;rw[decide_eq_true (show((R.map Rw.d).map O.fz).length <=lim by rw[aK,aK];exact aO hl (show 1000<=1000000 by decide)),bN,bN];rfl
 exact qVf (i:=7) (π:=[]) (os0:=(R.map Rw.d).map .fz) (os:=(R.map Rw.d).map .fz) rfl rfl (wQ h rfl) rfl rfl ap rfl
theorem vXg{t:Tm}(hk:k<=5)(hl:R.length<=1000):(jU (eMu1 (pOf (oN 7)) (owS (svTup [(oV (oC (.str "def"))),(oV (o2 mulS (oC (.str "h")) (oAdd (oN 8) (oC (.int 1))))),(svTup [(oV (oC (.str "x")))]),(oV (oN 9))])) apF)) (gE x0 df cs x3 x4 x5 cell R (fI (k:Nat)) (fz t.d) x10)=.ok (.nx (gE x0 df cs x3 x4 x5 cell (R ++ [.df (hN (k+1)) ["x"] t]) (fI (k:Nat)) (fz t.d) x10)):=by
 refine wJ (vKl (r:=.df (hN (k+1)) ["x"] t) ?_ hl) rfl;have m:oV (o2 mulS (oC (.str "h")) (oAdd (oN 8) (oC (.int 1)))) (gE x0 df cs x3 x4 x5 cell R (fI (k:Nat)) (fz t.d) x10)=.ok (.str (hN (k+1)),gE x0 df cs x3 x4 x5 cell R (fI (k:Nat)) (fz t.d) x10):=
  zL (vG (h1:=.d (.str "h")) (h2:=.d (.int ((k+1:Nat):Int))) rfl rfl rfl rfl rfl (vQg (by omega)) rfl) rfl
 exact qQ9 (qE (d:=.str "def") rfl (qE m (qE (d:=.tup [.str "x"]) rfl (qE (d:=t.d) rfl (zB rfl) rfl) rfl) rfl) rfl) rfl rfl
theorem def_step(d:Dfs k R ms H)(h3:3<=H)(hk:k<=5)(hc:cs.length=6)(hb:∀c∈cs,1<=c/\c<=6)(hH:H<=3+9 * (k - (df - 2))):∃r ms' H' y9,Dfs (k+1) (R ++ [r]) ms' H' /\3<=H' /\H' <=3+9 * (k+1 - (df - 2))/\yI (gE x0 df cs x3 x4 x5 cell R (fI (k:Nat)) x9 x10)=.ok (.nx (gE x0 df cs x3 x4 x5 cell (R ++ [r]) (fI (k:Nat)) y9 x10)):=by
 have hl:R.length<=1000:=by have:=d.len;omega
 obtain⟨many,hm⟩:∃many:Nat,1+cell % 3=(many:Nat):=⟨(1+cell % 3).toNat,by omega⟩
 obtain⟨t,n,m,tk,et⟩:=chain_ok (ms:=[]) (kn:=fun _=>false) (many:=many) (by omega) (by omega) ((k:Int) % 2) cell;have c1:qG xU [(.v (oV (oAdd (oC (.int 1)) (oMod (oN 6) (oC (.int 3)))))),(.v (oV (oMod (oN 8) (oC (.int 2))))),(.v (oV (oN 6)))] (gE x0 df cs x3 x4 x5 cell R (fI (k:Nat)) x9 x10)=.ok (.fz t.d,gE x0 df cs x3 x4 x5 cell R (fI (k:Nat)) x9 x10):=
  qL (vZ (d:=.int (many:Nat)) (by rw[←hm];rfl) (vZ (d:=.int ((k:Int) % 2)) rfl (vZ (d:=.int cell) rfl (vQ rfl) rfl) rfl) rfl) (qU rfl rfl rfl et rfl rfl rfl)
 by_cases z:0<k/\(df:Int) - 2<=(k:Int)
 ·obtain⟨q,hq⟩:=d.has k (by omega) (aD _);obtain⟨c,hcs⟩:∃c,cs[k]?=some c:=⟨_,aN (show k<cs.length by omega)⟩
  obtain⟨b1,b2⟩:=hb c (List.mem_of_getElem? hcs);obtain⟨u,n',m',uk,eu⟩:=calls_ok (kn:=fun _=>false) hq b1 b2;have g:oV (oIx (oN 2) (oN 8)) (gE x0 df cs x3 x4 x5 cell R (fI (k:Nat)) (fz t.d) x10)=.ok (nI c,gE x0 df cs x3 x4 x5 cell R (fI (k:Nat)) (fz t.d) x10):=
   zL (xE (h1:=.d (cD cs)) (h2:=.d (nI k)) (y:=nI k) rfl rfl rfl rfl (by show(ixD (cD cs) (nI k)).map Hn.d=_;rw[qYa (d:=nI c) (by rw[dZ,hcs];rfl)];rfl) rfl) rfl
  have mu:oV (o2 mulS (oC (.str "h")) (oN 8)) (gE x0 df cs x3 x4 x5 cell R (fI (k:Nat)) (fz t.d) x10)=.ok (.str (hN k),gE x0 df cs x3 x4 x5 cell R (fI (k:Nat)) (fz t.d) x10):=
   zL (vG (h1:=.d (.str "h")) (h2:=.d (nI k)) rfl rfl rfl rfl rfl (vQg (by omega)) rfl) rfl
  refine⟨_,_,H+9,fz u.d,d.snoc hk uk (H' :=H+9) (fun μ h hh=>uk.cs (fun _ z=>nomatch z) d.tie h (by omega)) (by omega),by omega,by omega,?_⟩;refine qZ c1 (qD (q:=decide ((df:Int) - 2<=(k:Int))) (e:=gE x0 df cs x3 x4 x5 cell R (fI (k:Nat)) (fz t.d) x10) (qVg (q:=decide ((0:Int)<(k:Int))) (e:=gE x0 df cs x3 x4 x5 cell R (fI (k:Nat)) (fz t.d) x10) rfl (vD (decide_eq_true (by omega)) rfl)) (vD (decide_eq_true z.2) (qZ (qL (vZ mu (vZ g (vQ rfl) rfl) rfl) (qU rfl rfl rfl eu rfl rfl rfl)) (vXg hk hl))))
 ·refine⟨_,_,H,fz t.d,d.snoc hk ((tk.ext fun _ _ z=>nomatch z).up (by omega)) (H' :=H) (fun μ h hh=>tk.cs (H:=0) (fun _ z=>nomatch z) (fun _ _ _ z=>nomatch z) h (by omega)) (aD _),h3,by omega,?_⟩;refine qZ c1 (qD (q:=false) (e:=gE x0 df cs x3 x4 x5 cell R (fI (k:Nat)) (fz t.d) x10) ?_ (qH rfl (qM (vXg hk hl))));refine qVg (q:=decide ((0:Int)<(k:Int))) (e:=gE x0 df cs x3 x4 x5 cell R (fI (k:Nat)) (fz t.d) x10) rfl ?_
  by_cases y:(0:Int)<(k:Int)
  ·refine vD (decide_eq_true y) ?_
   rw[←decide_eq_false (show¬(df:Int) - 2<=(k:Int) by omega)];rfl
  ·exact qH (decide_eq_false y) rfl
theorem zQ1(i j:Nat):rngD (i:Int) (j+1)=.int (i:Nat)::rngD ((i+1:Nat):Int) j:=by
 unfold rngD;rw[List.range_succ_eq_map,aS,cU];congr 1;apply List.map_congr_left;intro a _;show D.int ((i:Int)+((a+1:Nat):Int))=D.int (((i+1:Nat):Int)+(a:Int));congr 1;omega
theorem defs_loop(hc:cs.length=6)(hb:∀c∈cs,1<=c/\c<=6):∀(j k:Nat) (R:List Rw) (ms:Ms) (H:Nat) (x8 x9:Slot),k+j<=6->Dfs k R ms H->3<=H->H<=3+9 * (k - (df - 2))->∃R' ms' H' y8 y9,Dfs (k+j) R' ms' H' /\H' <=3+9 * (k+j - (df - 2))/\forS (gN 8) yI (rngD (k:Nat) j) (gE x0 df cs x3 x4 x5 cell R x8 x9 x10)=.ok (.nx (gE x0 df cs x3 x4 x5 cell R' y8 y9 x10))
 | 0,k,R,ms,H,x8,x9,_,d,_,hH=>⟨R,ms,H,x8,x9,d,hH,rfl⟩
 | j + 1,k,R,ms,H,x8,x9,hk,d,h3,hH=>by
   obtain⟨r,ms1,H1,y9,d1,h31,hH1,e1⟩:=def_step (x0:=x0) (x3:=x3) (x4:=x4) (x5:=x5) (x9:=x9) (x10:=x10) (cell:=cell) d h3 (by omega) hc hb hH;obtain⟨R',ms',H',z8,z9,d',hH',e'⟩:=defs_loop hc hb j (k+1) _ _ _ (fI (k:Nat)) y9 (by omega) d1 h31 hH1;rw[show k+(j+1)=k+1+j by omega];refine⟨R',ms',H',z8,z9,d',hH',?_⟩;rw[zQ1];exact vJ rfl e1 e'
end
theorem md(h:0<b):i2g (fun _ j=>0<j) (fun i j=>i % j) (.int a) (.int b)=some (.int (a % b)):=if_pos h
noncomputable abbrev sX(ns:List Int):Slot:=fz (.nd .lst (ns.map D.int))
noncomputable abbrev cl(ns:List Int)(k:Nat):Int:=ns.getD k 0
section
variable{ns:List Int}
theorem vXl(k:Nat):qB [sX ns,fI (k:Nat)]=.ok (.fz (.int (cl ns k)),[.un,.un]):=by
 unfold qB;have b:asB (oLt (oN 1) (oL lenD [(oN 0)])) [sX ns,fI (k:Nat)]=.ok (decide ((k:Int)<((ns.map D.int).length :Nat)),[sX ns,fI (k:Nat)]):=by kernel_rfl
 rw[aK]at b;by_cases z:k<ns.length
 ·have e:ns[k]?=some (cl ns k):=by unfold cl;rw [bL,aN z];rfl
  exact v7 (qD b (vD (decide_eq_true (by omega)) (qJj (o:=.fz (.int (cl ns k))) (wQ (zL (xE (h1:=.d (.nd .lst (ns.map D.int))) (h2:=.d (nI k)) (y:=nI k) rfl rfl rfl rfl (by show(ixD (.nd .lst (ns.map D.int)) (nI k)).map Hn.d=_;rw[qYa (d:=.int (cl ns k)) (by rw[dZ,e];rfl)];rfl) rfl) rfl) rfl) rfl))) rfl
 ·have e:cl ns k=0:=by unfold cl;rw [bL,List.getElem?_eq_none (by omega)];rfl
  rw[e];exact v7 (qD b (qH (decide_eq_false (by omega)) (qM (wX (o:=.fz (.int 0)) rfl rfl)))) rfl
theorem qQq{c:SV}(k:Nat)(h:∀e,c (sX ns::e)=.ok (nI k,sX ns::e)):qG qB [(.v (oV (oN 0))),(.v c)] (sX ns::e)=.ok (.fz (.int (cl ns k)),sX ns::e):=
 qL (vZ (d:=.nd .lst (ns.map D.int)) rfl (vZ (h _) (vQ rfl) rfl) rfl) (qU rfl rfl rfl (vXl k) rfl rfl rfl)
theorem mix_ok(c:Int){k:Nat}(hk:k<=10):∃v:Int,0<=v/\wF [fI c,fI (k:Nat)]=.ok (.fz (.int v),[.un,.un]):=by
 unfold wF;have s0:∃s:Int,0<=s/\s<2 ^ 40/\oV (oAdd (oAdd (oMod (oN 0) (oC (.int 1000000007))) (oMul (oC (.int 31)) (oN 1))) (oC (.int 1))) [fI c,fI (k:Nat),.un]=.ok (.int s,[fI c,fI (k:Nat),.un]):=
  ⟨c % 1000000007+31 * (k:Int)+1,by omega,by omega,zL (vG (h1:=.d (.int (c % 1000000007+31 * (k:Int)))) (h2:=.d (.int 1)) (vG (h1:=.d (.int (c % 1000000007))) (h2:=.d (.int (31 * (k:Int)))) rfl (vG (h1:=.d (.int 31)) (h2:=.d (nI k)) rfl rfl rfl rfl rfl (ml (.of_left (by decide +kernel))) rfl) rfl rfl rfl rfl rfl) rfl rfl rfl rfl rfl rfl) rfl⟩
 obtain⟨s,h1,h2,e⟩:=s0;refine⟨s * s % 2147483629 * ((k:Int)+7) % 2147483647,by omega,?_⟩;exact v7 (qZ (wQ e rfl) (wX (o:=.fz (.int (s * s % 2147483629 * ((k:Int)+7) % 2147483647))) (e:=[fI c,fI (k:Nat),fI s]) (wQ (zL (vG (h1:=.d (.int (s * s % 2147483629 * ((k:Int)+7)))) (h2:=.d (.int 2147483647)) (vG (h1:=.d (.int (s * s % 2147483629))) (h2:=.d (.int ((k:Int)+7))) (vG (h1:=.d (.int (s * s))) (h2:=.d (.int 2147483629)) (vG (h1:=.d (.int s)) (h2:=.d (.int s)) rfl rfl rfl rfl rfl (ml (.of_left (intBits_le_64 (by omega) (by omega)))) rfl) rfl rfl rfl rfl rfl rfl) rfl rfl rfl rfl (ml (.of_right (intBits_le_64 (by omega) (by omega)))) rfl) rfl rfl rfl rfl rfl rfl) rfl) rfl) rfl)) rfl
noncomputable abbrev l2(a b:Int):Slot:=.s false (.ow .lst [.fz (.int a),.fz (.int b)])
noncomputable abbrev nE(ns:List Int)(w b c:Int)(x4 x5 x6:Slot):Ev:=[sX ns,fI w,fI b,fI c,x4,x5,x6]
noncomputable abbrev d2(a b:Int):D:=.nd .lst [.int a,.int b]
theorem vJk(ns:List Int):∃(r0 r1 t0 t1:Nat) (d0 d1:Int),r0<=30/\r1<=30/\(1<=t0/\t0<=10)/\(1<=t1/\t1<=10)/\j8 [sX ns]=.ok (.ow .lst [.fz (d2 (r0:Nat) (r1:Nat)),.fz (d2 (t0:Nat) (t1:Nat)),.fz (d2 d0 d1)],[.un]):=by
 generalize hb:cl ns 1=b;generalize hc:cl ns 2=c;generalize hw:cl ns 0 % 5=w;have a0:oV (oMod (.v (fzS (qG qB [(.v (oV (oN 0))),(.v (oV (oC (.int 0))))]))) (oC (.int 5))) [sX ns,.un,.un,.un,.un,.un,.un]=.ok (.int w,[sX ns,.un,.un,.un,.un,.un,.un]):=by
  rw[←hw];exact zL (vG (h1:=.d (.int (cl ns 0))) (h2:=.d (.int 5)) (wZ (zR (qQq 0 fun _=>rfl) rfl) rfl) rfl rfl rfl rfl rfl rfl) rfl
 have a1:qG qB [(.v (oV (oN 0))),(.v (oV (oC (.int 1))))] [sX ns,fI w,.un,.un,.un,.un,.un]=.ok (.fz (.int b),[sX ns,fI w,.un,.un,.un,.un,.un]):=by rw[←hb];exact qQq 1 fun _=>rfl
 have a2:qG qB [(.v (oV (oN 0))),(.v (oV (oC (.int 2))))] [sX ns,fI w,fI b,.un,.un,.un,.un]=.ok (.fz (.int c),[sX ns,fI w,fI b,.un,.un,.un,.un]):=by rw[←hc];exact qQq 2 fun _=>rfl
 have dr:∃e0 e1:Int,eLst [(oV (oMod (oMod (oDiv (oN 2) (oC (.int 279))) (oC (.int 5))) (oAdd (oIx (oN 5) (oC (.int 0))) (oC (.int 1))))),(oV (oMod (oMod (oDiv (oN 3) (oC (.int 279))) (oC (.int 3))) (oAdd (oIx (oN 5) (oC (.int 1))) (oC (.int 1)))))] (nE ns w b c (l2 (b % 31) (c % 31)) (l2 (1+b / 31 % 9) (1+c / 31 % 9)) .un)=.ok (.ow .lst [.fz (.int e0),.fz (.int e1)],nE ns w b c (l2 (b % 31) (c % 31)) (l2 (1+b / 31 % 9) (1+c / 31 % 9)) .un):=
  ⟨b / 279 % 5 % (1+b / 31 % 9+1),c / 279 % 3 % (1+c / 31 % 9+1),vZq (qE (zL (vG (h1:=.d (.int (b / 279 % 5))) (h2:=.d (.int (1+b / 31 % 9+1))) rfl rfl rfl rfl rfl (md (by omega)) rfl) rfl) (qE (zL (vG (h1:=.d (.int (c / 279 % 3))) (h2:=.d (.int (1+c / 31 % 9+1))) rfl rfl rfl rfl rfl (md (by omega)) rfl) rfl) (zB rfl) rfl) rfl) rfl rfl⟩
 obtain⟨e0,e1,dr⟩:=dr
 have go:∀{X},(sSeq (sIf (asB (o2 eqF (oN 1) (oC (.int 1)))) (sSeq (sSet 4 (eLst [(oV (oC (.int 29))),(oV (oMod (oN 2) (oC (.int 4))))])) (sSeq (sSet 5 (eLst [(oV (oAdd (oC (.int 2)) (oMod (oN 3) (oC (.int 3))))),(oV (oC (.int 1)))])) (sSet 6 (eLst [(oV (oC (.int 2))),(oV (oC (.int 1)))])))) sNil)
  (sSeq (sIf (asB (o2 eqF (oN 1) (oC (.int 2)))) (sSeq (sSet 4 (eLst [(oV (oC (.int 30))),(oV (oAdd (oC (.int 27)) (oMod (oN 2) (oC (.int 4)))))])) (sSeq (sSet 5 (eLst [(oV (oC (.int 10))),(oV (oC (.int 1)))])) (sSet 6 (eLst [(oV (oMod (oN 3) (oC (.int 2)))),(oV (oC (.int 0)))])))) sNil)
  (sRet (eLst [(oV (oN 4)),(oV (oN 5)),(oV (oN 6))])))) (nE ns w b c (l2 (b % 31) (c % 31)) (l2 (1+b / 31 % 9) (1+c / 31 % 9)) (l2 e0 e1))=X->j8 [sX ns]=X.bind (finO 1):=fun {X} h=>by
  unfold j8;have:∀{s:SS},s ([sX ns] ++ List.replicate 6 .un)=X->fnS 1 6 s [sX ns]=X.bind (finO 1):=fun {s} h=>by
   unfold fnS;rw[h];cases X with
   |ok o=>cases o <;> rfl
   |er _ _=>rfl
   |no=>rfl
  refine this (qZ (wQ a0 rfl) (qZ a1 (qZ a2 (qZ (o:=.ow .lst [.fz (.int (b % 31)),.fz (.int (c % 31))]) (e:=nE ns w b c .un .un .un) rfl (qZ (o:=.ow .lst [.fz (.int (1+b / 31 % 9)),.fz (.int (1+c / 31 % 9))]) (e:=nE ns w b c (l2 (b % 31) (c % 31)) .un .un) rfl (qZ dr h))))))
 by_cases z1:w=1
 ·have z2:w≠2:=by omega
  refine⟨29,(b % 4).toNat,(2+c % 3).toNat,1,2,1,by omega,by omega,by omega,by omega,?_⟩;rw[show(((b % 4).toNat :Nat):Int)=b % 4 by omega,show(((2+c % 3).toNat :Nat):Int)=2+c % 3 by omega];exact go (qD (q:=w == 1) rfl (vD (by rw[z1];rfl) (jH (qZ (o:=.ow .lst [.fz (.int 29),.fz (.int (b % 4))]) rfl (jH (qZ (o:=.ow .lst [.fz (.int (2+c % 3)),.fz (.int 1)]) rfl (qZ (o:=.ow .lst [.fz (.int 2),.fz (.int 1)]) rfl (qD (q:=w == 2) rfl (qH (beq_false_of_ne z2) (qM (wX rfl rfl)))))))))))
 ·by_cases z2:w=2
  ·refine⟨30,(27 + b % 4).toNat,10,1,c % 2,0,by omega,by omega,by omega,by omega,?_⟩;rw[show(((27+b % 4).toNat :Nat):Int)=27+b % 4 by omega];exact go (qD (q:=w == 1) rfl (qH (beq_false_of_ne z1) (qM (qD (q:=w == 2) rfl (vD (by rw[z2];rfl) (jH (qZ (o:=.ow .lst [.fz (.int 30),.fz (.int (27+b % 4))]) rfl (jH (qZ (o:=.ow .lst [.fz (.int 10),.fz (.int 1)]) rfl (qZ (o:=.ow .lst [.fz (.int (c % 2)),.fz (.int 0)]) rfl (wX rfl rfl)))))))))))
  ·refine⟨(b % 31).toNat,(c % 31).toNat,(1 + b / 31 % 9).toNat,(1 + c / 31 % 9).toNat,e0,e1,by omega,by omega,by omega,by omega,?_⟩;rw[show(((b % 31).toNat :Nat):Int)=b % 31 by omega,show(((c % 31).toNat :Nat):Int)=c % 31 by omega,show(((1+b / 31 % 9).toNat :Nat):Int)=1+b / 31 % 9 by omega,show(((1+c / 31 % 9).toNat :Nat):Int)=1+c / 31 % 9 by omega];exact go (qD (q:=w == 1) rfl (qH (beq_false_of_ne z1) (qM (qD (q:=w == 2) rfl (qH (beq_false_of_ne z2) (qM (wX rfl rfl)))))))
end
noncomputable def kf:Str->Bool:=fun _=>false
noncomputable def ky:Str->Bool:=fun x=>decide (x="y")
noncomputable def tl(c:Int)(r0 r1:Nat)(t0 t1:Tm):List Rw:=[.lt "y" (.num c),.ag r0 "y" t0,.ag r1 "y" t1,.see (.num 1)]
structure Pg(df:Nat)(R:List Rw)(ms:Ms)(H r0 r1:Nat)(t0 t1 ta:Tm)(n0 m0 n1 m1 na ma:Nat):Prop where
 d:Dfs df R ms H
 df5:df<=5
 hH:H<=21
 hr0:r0<=30
 hr1:r1<=30
 k0:Tk [] kf 10 t0 n0 m0
 k1:Tk [] kf 10 t1 n1 m1
 ka:Tk ms ky 9 ta na ma
theorem catO{oa ob:Oe}{e1 e2:Ev}{xs ys:List D}(a:evO oa env=.ok (h1,e))(b:evO ob e=.ok (h2,e1))(c:(h1.st || ob.isP)=true)(r:qQ2 [h1,h2] e1=.ok ([.nd .lst xs,.nd .lst ys],e2))(l:xs.length+ys.length<=9000):eCat oa ob env=.ok (.ow .lst ((xs ++ ys).map .fz),e2):=by
 show(evO oa env).bind _=_;rw[a];show(evO ob e).bind _=_;rw[b];show cond (h1.st || ob.isP) ((qQ2 [h1,h2] e1).bind _) _=_;rw[c,r];show cond (decide (xs.length+ys.length<=lim)) (Res.ok (O.ow .lst ((xs ++ ys).map O.fz),e2)) Res.no=_;rw[decide_eq_true (aO l (by decide))];rfl
section
variable{x0 x8 x9 x10:Slot}{df:Nat}{cs:List Nat}{cell:Int}{R:List Rw}{r0 r1 t0 t1:Nat}{d0 d1:Int}
theorem again_step{k r t:Nat}{d:Int}(h1:1<=t)(h2:t<=10)(hl:R.length<=1000)(hr:oV (oIx (oN 3) (oN 8)) (gE x0 df cs (fz (d2 (r0:Nat) (r1:Nat))) (fz (d2 (t0:Nat) (t1:Nat))) (fz (d2 d0 d1)) cell R (fI (k:Nat)) x9 x10)=.ok (nI r,gE x0 df cs (fz (d2 (r0:Nat) (r1:Nat))) (fz (d2 (t0:Nat) (t1:Nat))) (fz (d2 d0 d1)) cell R (fI (k:Nat)) x9 x10))(ht:oV (oIx (oN 4) (oN 8)) (gE x0 df cs (fz (d2 (r0:Nat) (r1:Nat))) (fz (d2 (t0:Nat) (t1:Nat))) (fz (d2 d0 d1)) cell R (fI (k:Nat)) x9 x10)=.ok (nI t,gE x0 df cs (fz (d2 (r0:Nat) (r1:Nat))) (fz (d2 (t0:Nat) (t1:Nat))) (fz (d2 d0 d1)) cell R (fI (k:Nat)) x9 x10))(hd:oV (oIx (oN 5) (oN 8)) (gE x0 df cs (fz (d2 (r0:Nat) (r1:Nat))) (fz (d2 (t0:Nat) (t1:Nat))) (fz (d2 d0 d1)) cell R (fI (k:Nat)) x9 x10)=.ok (.int d,gE x0 df cs (fz (d2 (r0:Nat) (r1:Nat))) (fz (d2 (t0:Nat) (t1:Nat))) (fz (d2 d0 d1)) cell R (fI (k:Nat)) x9 x10)):
  ∃u n m,Tk [] kf 10 u n m/\qVv (gE x0 df cs (fz (d2 (r0:Nat) (r1:Nat))) (fz (d2 (t0:Nat) (t1:Nat))) (fz (d2 d0 d1)) cell R (fI (k:Nat)) x9 x10)=.ok (.nx (gE x0 df cs (fz (d2 (r0:Nat) (r1:Nat))) (fz (d2 (t0:Nat) (t1:Nat))) (fz (d2 d0 d1)) cell (R ++ [.ag r "y" u]) (fI (k:Nat)) x9 x10)):=by
 obtain⟨u,n,m,uk,e⟩:=chain_ok (ms:=[]) (kn:=kf) h1 h2 d (cell+(k:Int));refine⟨u,n,m,uk.up h2,wJ (vKl (r:=.ag r "y" u) ?_ hl) rfl⟩;exact qQ9 (qE (d:=.str "again") rfl (qE hr (qE (d:=.str "y") rfl (qE (d:=u.d) (zR (qL (vZ ht (vZ hd (vZ (d:=.int (cell+(k:Int))) rfl (vQ rfl) rfl) rfl) rfl) (qU rfl rfl rfl e rfl rfl rfl)) rfl) (zB rfl) rfl) rfl) rfl) rfl) rfl rfl
end
theorem vZ8(ns:List Int)(h5:df<=5){cs:List Nat}(hc:cs.length=6)(hb:∀c∈cs,1<=c/\c<=6):∃R ms H c r0 r1 t0 t1 ta n0 m0 n1 m1 na ma,Pg df R ms H r0 r1 t0 t1 ta n0 m0 n1 m1 na ma/\wS [sX ns,fI (df:Nat),fz (cD cs)]=.ok (.ow .lst (((R ++ (tl c r0 r1 t0 t1 ++ [Rw.ask ta])).map Rw.d).map .fz),[.un,.un,.un]):=by
 obtain⟨r0,r1,u0,u1,d0,d1,b1,b2,b3,b4,en⟩:=vJk ns;obtain⟨cell,hcl,em⟩:=mix_ok (cl ns 3) (k:=1) (by decide);have s1:sAsg (fzS (qG j8 [(.v (oV (oN 0)))])) (gL 3 (gCn (gN 3) (gCn (gN 4) (gCn (gN 5) gNl)))) [sX ns,fI (df:Nat),fz (cD cs),.un,.un,.un,.un,.un,.un,.un,.un]=.ok (.nx [sX ns,fI (df:Nat),fz (cD cs),fz (d2 (r0:Nat) (r1:Nat)),fz (d2 (u0:Nat) (u1:Nat)),fz (d2 d0 d1),.un,.un,.un,.un,.un]):=
  zQl (zR (qL (vZ (d:=.nd .lst (ns.map D.int)) rfl (vQ rfl) rfl) (qU rfl rfl rfl en rfl rfl rfl)) rfl) rfl rfl
 have s2:qG wF [(.v (fzS (qG qB [(.v (oV (oN 0))),(.v (oV (oC (.int 3))))]))),(.v (oV (oC (.int 1))))] [sX ns,fI (df:Nat),fz (cD cs),fz (d2 (r0:Nat) (r1:Nat)),fz (d2 (u0:Nat) (u1:Nat)),fz (d2 d0 d1),.un,.un,.un,.un,.un]=.ok (.fz (.int cell),[sX ns,fI (df:Nat),fz (cD cs),fz (d2 (r0:Nat) (r1:Nat)),fz (d2 (u0:Nat) (u1:Nat)),fz (d2 d0 d1),.un,.un,.un,.un,.un]):=
  qL (vZ (zR (qQq 3 fun _=>rfl) rfl) (vZ (d:=nI 1) rfl (vQ rfl) rfl) rfl) (qU rfl rfl rfl em rfl rfl rfl)
 obtain⟨R,ms,H,y8,y9,d,hH,lp⟩:=defs_loop (x0:=sX ns) (df:=df) (x3:=fz (d2 (r0:Nat) (r1:Nat))) (x4:=fz (d2 (u0:Nat) (u1:Nat))) (x5:=fz (d2 d0 d1)) (x10:=.un) (cell:=cell) hc hb df 0 [] [] 3 .un .un (by omega) .nil (by decide) (by omega);rw[Nat.zero_add]at d hH;have lR:R.length<=5:=by have:=d.len;omega
 obtain⟨t0,n0,m0,k0,e0⟩:=again_step (x0:=sX ns) (df:=df) (cs:=cs) (cell:=cell) (R:=R ++ [.lt "y" (.num (cell % 1000000000000))]) (r0:=r0) (r1:=r1) (t0:=u0) (t1:=u1) (d0:=d0) (d1:=d1) (x9:=y9) (x10:=.un) (k:=0) (r:=r0) (t:=u0) (d:=d0) b3.1 b3.2 (by simp;omega) rfl rfl rfl;obtain⟨t1,n1,m1,k1,e1⟩:=again_step (x0:=sX ns) (df:=df) (cs:=cs) (cell:=cell) (R:=R ++ [.lt "y" (.num (cell % 1000000000000))] ++ [.ag r0 "y" t0]) (r0:=r0) (r1:=r1) (t0:=u0) (t1:=u1) (d0:=d0) (d1:=d1) (x9:=y9) (x10:=.un) (k:=1) (r:=r1) (t:=u1) (d:=d1) b4.1 b4.2 (by simp;omega) rfl rfl rfl;generalize hQ:R ++ [Rw.lt "y" (.num (cell % 1000000000000))] ++ [.ag r0 "y" t0] ++ [.ag r1 "y" t1]=Q at e1;have lQ:Q.length<=8:=by rw[←hQ];simp;omega
 have ask:∃ta na ma,Tk ms ky 9 ta na ma/\∀(t:SS) X,t (gE (sX ns) df cs (fz (d2 (r0:Nat) (r1:Nat))) (fz (d2 (u0:Nat) (u1:Nat))) (fz (d2 d0 d1)) cell Q (fI 1) y9 (fz ta.d))=X->sSeq (sIf (bAnd (asB (oGt (oN 1) (oC (.int 0)))) (asB (oGt (oMod (oDiv (.v (fzS (qG qB [(.v (oV (oN 0))),(.v (oV (oC (.int 0))))]))) (oC (.int 5))) (oC (.int 3))) (oC (.int 0))))) (sSet 10 (qG xB [(.v (oV (o2 mulS (oC (.str "h")) (oN 1)))),(.v (oV (oIx (oN 2) (oC (.int 0)))))])) sNil) t (gE (sX ns) df cs (fz (d2 (r0:Nat) (r1:Nat))) (fz (d2 (u0:Nat) (u1:Nat))) (fz (d2 d0 d1)) cell Q (fI 1) y9 (fz (Tm.name "y").d))=X:=by
  have ct:oV (oGt (oMod (oDiv (.v (fzS (qG qB [(.v (oV (oN 0))),(.v (oV (oC (.int 0))))]))) (oC (.int 5))) (oC (.int 3))) (oC (.int 0))) (gE (sX ns) df cs (fz (d2 (r0:Nat) (r1:Nat))) (fz (d2 (u0:Nat) (u1:Nat))) (fz (d2 d0 d1)) cell Q (fI 1) y9 (fz (Tm.name "y").d))=.ok (.bl (decide (0<cl ns 0 / 5 % 3)),gE (sX ns) df cs (fz (d2 (r0:Nat) (r1:Nat))) (fz (d2 (u0:Nat) (u1:Nat))) (fz (d2 d0 d1)) cell Q (fI 1) y9 (fz (Tm.name "y").d)):=
   zL (vG (h1:=.d (.int (cl ns 0 / 5 % 3))) (h2:=.d (.int 0)) (vG (h1:=.d (.int (cl ns 0 / 5))) (h2:=.d (.int 3)) (vG (h1:=.d (.int (cl ns 0))) (h2:=.d (.int 5)) (wZ (zR (qQq 0 fun _=>rfl) rfl) rfl) rfl rfl rfl rfl rfl rfl) rfl rfl rfl rfl rfl rfl) rfl rfl rfl rfl rfl rfl) rfl
  by_cases z:(0:Int)<(df:Int)/\0<cl ns 0 / 5 % 3
  ·obtain⟨q,hq⟩:=d.has df (by omega) (aD _);obtain⟨c,cr,rfl⟩:∃c cr,cs=c::cr:=by cases cs with|nil=>cases hc|cons c cr=>exact⟨c,cr,rfl⟩
   obtain⟨c1,c2⟩:=hb c (by simp);obtain⟨ta,na,ma,ka,ea⟩:=calls_ok (kn:=ky) hq c1 c2;have g:oV (oIx (oN 2) (oC (.int 0))) (gE (sX ns) df (c::cr) (fz (d2 (r0:Nat) (r1:Nat))) (fz (d2 (u0:Nat) (u1:Nat))) (fz (d2 d0 d1)) cell Q (fI 1) y9 (fz (Tm.name "y").d))=.ok (nI c,gE (sX ns) df (c::cr) (fz (d2 (r0:Nat) (r1:Nat))) (fz (d2 (u0:Nat) (u1:Nat))) (fz (d2 d0 d1)) cell Q (fI 1) y9 (fz (Tm.name "y").d)):=
    zL (xE (h1:=.d (cD (c::cr))) (h2:=.d (nI 0)) (y:=nI 0) rfl rfl rfl rfl (by show(ixD (cD (c::cr)) (nI 0)).map Hn.d=_;rw[qYa (d:=nI c) rfl];rfl) rfl) rfl
   have mu:oV (o2 mulS (oC (.str "h")) (oN 1)) (gE (sX ns) df (c::cr) (fz (d2 (r0:Nat) (r1:Nat))) (fz (d2 (u0:Nat) (u1:Nat))) (fz (d2 d0 d1)) cell Q (fI 1) y9 (fz (Tm.name "y").d))=.ok (.str (hN df),gE (sX ns) df (c::cr) (fz (d2 (r0:Nat) (r1:Nat))) (fz (d2 (u0:Nat) (u1:Nat))) (fz (d2 d0 d1)) cell Q (fI 1) y9 (fz (Tm.name "y").d)):=
    zL (vG (h1:=.d (.str "h")) (h2:=.d (nI df)) rfl rfl rfl rfl rfl (vQg (by omega)) rfl) rfl
   refine⟨ta,na,ma,ka,fun t X h=>qD (q:=decide (0<cl ns 0 / 5 % 3)) (qVg (q:=decide ((0:Int)<(df:Int))) (e:=gE (sX ns) df (c::cr) (fz (d2 (r0:Nat) (r1:Nat))) (fz (d2 (u0:Nat) (u1:Nat))) (fz (d2 d0 d1)) cell Q (fI 1) y9 (fz (Tm.name "y").d)) rfl (vD (decide_eq_true z.1) (xC ct rfl rfl))) (vD (decide_eq_true z.2) (qZ (qL (vZ mu (vZ g (vQ rfl) rfl) rfl) (qU rfl rfl rfl ea rfl rfl rfl)) h))⟩
  ·refine⟨.name "y",1,0, .name (by decide +kernel),fun t X h=>qD (q:=false) (e:=gE (sX ns) df cs (fz (d2 (r0:Nat) (r1:Nat))) (fz (d2 (u0:Nat) (u1:Nat))) (fz (d2 d0 d1)) cell Q (fI 1) y9 (fz (Tm.name "y").d)) (qVg (q:=decide ((0:Int) < (df:Int))) (e:=gE (sX ns) df cs (fz (d2 (r0:Nat) (r1:Nat))) (fz (d2 (u0:Nat) (u1:Nat))) (fz (d2 d0 d1)) cell Q (fI 1) y9 (fz (Tm.name "y").d)) rfl ?_) (qH rfl (qM h))⟩;by_cases y:(0:Int)<(df:Int)
   ·exact vD (decide_eq_true y) (xC ct (by rw[decide_eq_false (fun x=>z ⟨y,x⟩)];rfl) rfl)
   ·exact qH (decide_eq_false y) rfl
 obtain⟨ta,na,ma,ka,ha⟩:=ask;refine⟨R,ms,H,cell % 1000000000000,r0,r1,t0,t1,ta,n0,m0,n1,m1,na,ma,⟨d,h5,by omega,b1,b2,k0,k1,ka⟩,?_⟩;have ls:fzS (eLst [(svTup [(oV (oC (.str "see"))),(svTup [(oV (oC (.str "num"))),(oV (oC (.int 1)))])]),(svTup [(oV (oC (.str "ask"))),(oV (oN 10))])]) (gE (sX ns) df cs (fz (d2 (r0:Nat) (r1:Nat))) (fz (d2 (u0:Nat) (u1:Nat))) (fz (d2 d0 d1)) cell Q (fI 1) y9 (fz ta.d))=.ok (.nd .lst [(Rw.see (.num 1)).d,(Rw.ask ta).d],gE (sX ns) df cs (fz (d2 (r0:Nat) (r1:Nat))) (fz (d2 (u0:Nat) (u1:Nat))) (fz (d2 d0 d1)) cell Q (fI 1) y9 (fz ta.d)):=qJv (ds:=[(Rw.see (.num 1)).d,(Rw.ask ta).d]) rfl rfl rfl;have e3:qQ2 [.p 7 [],.d (.nd .lst [(Rw.see (.num 1)).d,(Rw.ask ta).d])] (gE (sX ns) df cs (fz (d2 (r0:Nat) (r1:Nat))) (fz (d2 (u0:Nat) (u1:Nat))) (fz (d2 d0 d1)) cell Q (fI 1) y9 (fz ta.d))=.ok ([.nd .lst (Q.map Rw.d),.nd .lst [(Rw.see (.num 1)).d,(Rw.ask ta).d]],[sX ns,fI (df:Nat),fz (cD cs),fz (d2 (r0:Nat) (r1:Nat)),fz (d2 (u0:Nat) (u1:Nat)),fz (d2 d0 d1),fI cell,.s false (vJ0 (.ow .lst ((Q.map Rw.d).map .fz))),fI 1,y9,fz ta.d]):=by
  rw[←zX (k:=.lst) (Q.map Rw.d)];rfl
 have ct:=catO (env:=gE (sX ns) df cs (fz (d2 (r0:Nat) (r1:Nat))) (fz (d2 (u0:Nat) (u1:Nat))) (fz (d2 d0 d1)) cell Q (fI 1) y9 (fz ta.d)) (oa:=oN 7) (h1:=.p 7 []) rfl (wZ ls rfl) rfl e3 (by rw[aK];show _+2<=9000;omega);rw[show Q.map Rw.d ++ [(Rw.see (.num 1)).d,(Rw.ask ta).d]=(R ++ (tl (cell % 1000000000000) r0 r1 t0 t1 ++ [Rw.ask ta])).map Rw.d by rw[←hQ];simp[tl]]at ct;unfold wS;refine v7 (jK s1 (qZ s2 (qZ (o:=.ow .lst []) (e:=[sX ns,fI (df:Nat),fz (cD cs),fz (d2 (r0:Nat) (r1:Nat)),fz (d2 (u0:Nat) (u1:Nat)),fz (d2 d0 d1),fI cell,.un,.un,.un,.un]) rfl (jK (jD (qQm (xs:=[nI df]) (e:=gE (sX ns) df cs (fz (d2 (r0:Nat) (r1:Nat))) (fz (d2 (u0:Nat) (u1:Nat))) (fz (d2 d0 d1)) cell [] .un .un .un) rfl (vKd (by omega)) rfl) lp) (v8 (vKl (r:=.lt "y" (.num (cell % 1000000000000))) rfl (by omega)) (jK (jD (ds:=[nI 0,nI 1]) (qQm (xs:=[.int 2]) rfl rfl rfl) (vJ rfl e0 (vJ rfl e1 rfl))) (qZ (o:=.fz (Tm.name "y").d) rfl (ha _ _ (wX ct rfl))))))))) rfl
theorem vVl:∀(rs:List Rw) (o o' :Os),okHs o.hs->(∀r∈rs,qQk r)->xG rs o=.ok o' ->o'.ν.length<=o.ν.length+101 * (rs.filter fun r=>!isDf r).length /\o'.st.length<=o.st.length+101 * (rs.filter fun r=>!isDf r).length /\o'.hs.length<=o.hs.length+rs.length
 |[],o,o',_,_,e=>by cases e;exact⟨aD _,aD _,aD _⟩
 | r::rs,o,o',hh,hw,e=>by
   obtain⟨o1,e1,e⟩:=qY (show(yP o r).bind _=_ from e);obtain⟨i1,i2,i3,i4⟩:=qZi (hw r (by simp)) e1 hh;obtain⟨a,b,c⟩:=vVl rs o1 o' i1 (fun q hq=>hw q (aC _ hq)) e;rw[aY];cases r with
   | df f ps t=>
     cases e1;exact⟨a,b,by omega⟩
   | lt | ag | see | ask=>
     rw[List.filter_cons_of_pos rfl,aY];exact⟨by omega,by omega,by omega⟩
theorem vW6(h:∀r∈R,isDf r=true):R.filter isDf=R/\(R.filter fun r=>!isDf r)=[]:=
 ⟨List.filter_eq_self.mpr h,List.filter_eq_nil_iff.mpr fun r hr=>by rw[h r hr];decide⟩
theorem qJ5(ms:Ms)(kn:Str->Bool)(c:Int):Tk ms kn 30 (.num c) 1 0:=.num c
section
variable{df:Nat}{R:List Rw}{ms:Ms}{H r0 r1:Nat}{t0 t1 ta:Tm}{n0 m0 n1 m1 na ma:Nat}
theorem Pg.ok(g:Pg df R ms H r0 r1 t0 t1 ta n0 m0 n1 m1 na ma)(c:Int):∀r∈R ++ tl c r0 r1 t0 t1,qQk r/\Sm5 r.t:=by
 have a0:=g.hr0;have a1:=g.hr1;obtain⟨b1,b2,b3⟩:=g.k0.base;obtain⟨c1,c2,c3⟩:=g.k1.base;intro r hr;rcases cT.mp hr with hr|hr
 ·exact(g.d.ok r hr).2
 ·unfold tl at hr;simp only[aA,List.not_mem_nil,or_false]at hr;rcases hr with rfl|rfl|rfl|rfl
  ·exact⟨⟨(qJ5 [] kf c).base.1,(qJ5 [] kf c).base.2.1,fun _ _ _ z=>nomatch z⟩,.num c⟩
  ·exact⟨⟨b1,by show t0.h<=30;omega,fun _ _ _ z=>by cases z;omega⟩,b3⟩
  ·exact⟨⟨c1,by show t1.h<=30;omega,fun _ _ _ z=>by cases z;omega⟩,c3⟩
  ·exact⟨⟨(qJ5 [] kf 1).base.1,(qJ5 [] kf 1).base.2.1,fun _ _ _ z=>nomatch z⟩,.num 1⟩
theorem Pg.ok5(g:Pg df R ms H r0 r1 t0 t1 ta n0 m0 n1 m1 na ma)(c:Int):∀r∈R ++ (tl c r0 r1 t0 t1 ++ [Rw.ask ta]),qQk r/\Sm5 r.t:=by
 obtain⟨b1,b2,b3⟩:=g.ka.base;intro r hr;rw[←cK]at hr;rcases cT.mp hr with hr|hr
 ·exact g.ok c r hr
 ·cases dY.mp hr;exact⟨⟨b1,by show ta.h<=30;omega,fun _ _ _ z=>nomatch z⟩,b3⟩
theorem Pg.chk(g:Pg df R ms H r0 r1 t0 t1 ta n0 m0 n1 m1 na ma)(c:Int)(rs:List Rw):zN (R ++ (tl c r0 r1 t0 t1 ++ rs)) [] []=zN rs [("y",())] (hlR R):=by
 have f0:∀(kn:Str->Bool) {t:Tm} {n m:Nat},Tk [] kf 10 t n m->chkT kn (hlR R) t=true:=fun kn t n m k=>k.chk (fun _ (z:false=true)=>nomatch z) (fun _ _ z=>nomatch z)
 rw[g.d.chk];show(chkT (wV []) (hlR R) (.num c) && ((wV [("y",())] "y" && chkT (wV [("y",())]) (hlR R) t0) && ((wV [("y",())] "y" && chkT (wV [("y",())]) (hlR R) t1) && (chkT (wV [("y",())]) (hlR R) (.num 1) && zN rs [("y",())] (hlR R)))))=_;rw[f0 _ g.k0,f0 _ g.k1,f0 _ (.num c),f0 _ (.num 1)];rfl
theorem Pg.chk5(g:Pg df R ms H r0 r1 t0 t1 ta n0 m0 n1 m1 na ma)(c:Int):zN (R ++ (tl c r0 r1 t0 t1 ++ [Rw.ask ta])) [] []=true:=by
 rw[g.chk];show(chkT (wV [("y",())]) (hlR R) ta && true)=true;rw[g.ka.chk (fun x z=>by have:x="y":=of_decide_eq_true z;rw[this];rfl) g.d.hl];rfl
theorem Pg.kn(g:Pg df R ms H r0 r1 t0 t1 ta n0 m0 n1 m1 na ma)(c:Int):wV ((R ++ tl c r0 r1 t0 t1).foldl yH []) "x"=false:=by
 rw[List.foldl_append,g.d.kn];show wV [("y",())] "x"=false;decide +kernel
theorem Pg.filt(g:Pg df R ms H r0 r1 t0 t1 ta n0 m0 n1 m1 na ma)(c:Int):((R ++ (tl c r0 r1 t0 t1 ++ [Rw.ask ta])).filter isDf).length =df:=by
 rw[List.filter_append,(vW6 fun r hr=>(g.d.ok r hr).1).1,aB,g.d.len];rfl
theorem Pg.room(g:Pg df R ms H r0 r1 t0 t1 ta n0 m0 n1 m1 na ma)(c:Int):room os0 (R ++ (tl c r0 r1 t0 t1 ++ [Rw.ask ta])):=fun rs1 rs2 o1 q1 q2=>by
 obtain⟨a,b,d⟩:=vVl rs1 os0 o1 (fun p hp=>nomatch hp) (fun r hr=>(g.ok5 c r (by rw[q1];exact List.mem_append_left _ hr)).1) q2;have l:((R ++ (tl c r0 r1 t0 t1 ++ [Rw.ask ta])).filter fun r=>!isDf r).length =5:=by
  rw[List.filter_append,(vW6 fun r hr=>(g.d.ok r hr).1).2];rfl
 have l2:(R ++ (tl c r0 r1 t0 t1 ++ [Rw.ask ta])).length =df+5:=by rw[aB,g.d.len];rfl
 rw[q1,List.filter_append,aB]at l;rw[q1,aB]at l2;have h5:=g.df5;have a' :o1.ν.length<=0+101 * (rs1.filter fun r=>!isDf r).length :=a;have b' :o1.st.length<=0+101 * (rs1.filter fun r=>!isDf r).length :=b;have d' :o1.hs.length<=0+rs1.length:=d;exact⟨by omega,by omega,by omega⟩
noncomputable abbrev nT(r0 r1 n0 n1 na:Nat):Nat:=0+1 * 1+r0 * n0+r1 * n1+1 * 1+1 * na
noncomputable abbrev mT(r0 r1 m0 m1 ma:Nat):Nat:=0+1 * 0+r0 * m0+r1 * m1+1 * 0+1 * ma
theorem Pg.csr(g:Pg df R ms H r0 r1 t0 t1 ta n0 m0 n1 m1 na ma)(c:Int):CsR [] (fun _=>True) (R ++ (tl c r0 r1 t0 t1 ++ [Rw.ask ta])) (nT r0 r1 n0 n1 na) (mT r0 r1 m0 m1 ma):=by
 have hH:=g.hH;have ny:∀(ν:Nm) (i:Int),∃j,getA (putA ν "y" i) "y"=some j:=fun ν i=>⟨i,by rw[j7,if_pos rfl]⟩
 have f0:∀(ν:Nm) {t:Tm} {n m:Nat},Tk [] kf 10 t n m->Cs (hsR R) 30 ν t n m:=fun ν t n m k=>k.cs (H:=0) (fun _ (z:false=true)=>nomatch z) (fun _ _ _ z=>nomatch z) 30 (by omega)
 have fa:∀(ν:Nm),(∃j,getA ν "y"=some j)->Cs (hsR R) 30 ν ta na ma:=fun ν hν=>g.ka.cs (fun x z=>by have:x="y":=of_decide_eq_true z;rw[this];exact hν) g.d.tie 30 (by omega)
 have:=g.d.csr (fun _=>True) _ _ _ (.lt (L:=fun ν=>∃j,getA ν "y"=some j) (fun ν _=>f0 ν (.num c)) (fun ν i _=>ny ν i) (.ag (j:=r0) (x:="y") (fun ν _=>f0 ν g.k0) (fun ν i _=>ny ν i) (.ag (j:=r1) (x:="y") (fun ν _=>f0 ν g.k1) (fun ν i _=>ny ν i) (.see (fun ν _=>f0 ν (.num 1)) (.ask fa .nil)))));rw[Int.toNat_natCast,Int.toNat_natCast]at this;rw[show nT r0 r1 n0 n1 na=1+(r0 * n0+(r1 * n1+(1+(na+0)))) by unfold nT;omega,show mT r0 r1 m0 m1 ma=0+(r0 * m0+(r1 * m1+(0+(ma+0)))) by unfold mT;omega];exact this
theorem Pg.total(g:Pg df R ms H r0 r1 t0 t1 ta n0 m0 n1 m1 na ma)(c:Int):yF [fz (.nd .lst ((R ++ (tl c r0 r1 t0 t1 ++ [Rw.ask ta])).map Rw.d))]=.ok (.ow .lst [.fz (nI (nT r0 r1 n0 n1 na)),.fz (nI (mT r0 r1 m0 m1 ma)),.fz (nI df)],[.un]):=by
 generalize hp:fz (.nd .lst ((R ++ (tl c r0 r1 t0 t1 ++ [Rw.ask ta])).map Rw.d))=p;have ex:∀f q,getA ([]:Ms) f=some q->getA ms f=some q:=fun _ _ z=>nomatch z
 have lp:=g.d.tot p .un .un .un ((tl c r0 r1 t0 t1 ++ [Rw.ask ta]).map Rw.d) (.ok (.nx (tE p ms (nT r0 r1 n0 n1 na) (mT r0 r1 m0 m1 ma) (fz (Rw.ask ta).d) (.s false (pO na ma)) (fI (1:Nat))))) fun y4 y5 y6=>
  vJ rfl (qV4 (x:="y") (j:=1) (qJ5 ms kf c) (.lt "y" (.num c)) (.inl ⟨rfl,rfl⟩)) (vJ rfl (qV4 (x:="y") ((g.k0.ext ex).up (show 10<=30 by decide)) (.ag r0 "y" t0) (.inr (.inl ⟨rfl,g.hr0⟩))) (vJ rfl (qV4 (x:="y") ((g.k1.ext ex).up (show 10<=30 by decide)) (.ag r1 "y" t1) (.inr (.inl ⟨rfl,g.hr1⟩))) (vJ rfl (qV4 (x:="y") (j:=1) (qJ5 ms kf 1) (.see (.num 1)) (.inr (.inr (.inl ⟨rfl,rfl⟩)))) (vJ rfl (qV4 (x:="y") (j:=1) (g.ka.up (show 9<=30 by decide)) (.ask ta) (.inr (.inr (.inr ⟨rfl,rfl⟩)))) rfl))))
 rw[←bN]at lp;have ln:(qR Sum.inr ms:List Key).length =df:=by unfold qR;rw[aK];exact g.d.ml
 have rt:eLst [(oV (oN 2)),(oV (oN 3)),(oV (oL lenD [(oN 1)]))] (tE p ms (nT r0 r1 n0 n1 na) (mT r0 r1 m0 m1 ma) (fz (Rw.ask ta).d) (.s false (pO na ma)) (fI (1:Nat)))=.ok (.ow .lst [.fz (nI (nT r0 r1 n0 n1 na)),.fz (nI (mT r0 r1 m0 m1 ma)),.fz (nI df)],tE p ms (nT r0 r1 n0 n1 na) (mT r0 r1 m0 m1 ma) (fz (Rw.ask ta).d) (.s false (pO na ma)) (fI (1:Nat))):=by
  rw[←ln];generalize nT r0 r1 n0 n1 na=N;generalize mT r0 r1 m0 m1 ma=M;rfl
 have it:iV (oV (oN 0)) [p,.s false (msO []),fI (0:Nat),fI (0:Nat),.un,.un,.un]=.ok ((R ++ (tl c r0 r1 t0 t1 ++ [Rw.ask ta])).map Rw.d,[p,.s false (msO []),fI (0:Nat),fI (0:Nat),.un,.un,.un]):=by rw[←hp];rfl
 unfold yF;exact v7 (qZ (o:=msO []) rfl (qZ (o:=.fz (nI 0)) rfl (qZ (o:=.fz (nI 0)) rfl (jK (jD it lp) (wX rt rfl))))) (by rw[←hp];rfl)
end
section
variable{F:Fn}{as:List Am}{hd:Nat->Bool}{i:Nat}{su:SS}{env:Ev}{r:List Hn×Ev}
theorem vKq{C:Nat}{fs:List (Str×D)}{o:O}(h0:evOs (as.map Am.o) env=.ok r)(h1:wN F as r.1 r.2=.er C fs)(h2:(hd C && decide (i<env.length))=true)(h3:su ((r.2.map qXq).set i (.s false (.fz (.nd (.exc C (fs.map (·.1))) (fs.map (·.2))))))=.ok (.rt o e)):sTry F as hd i su env=.ok (.rt o e):=by
 unfold sTry;rw[h0];simp only[h1,h2,h3,cond]
theorem zXs{q:O×Ev}(h0:evOs (as.map Am.o) env=.ok r)(h1:wN F as r.1 r.2=.ok q):sTry F as hd i su env=.ok (.nx q.2):=by
 unfold sTry;rw[h0];simp only[h1]
end
theorem zX8{p:D}{o:O}(h:zQ [fz p]=.ok (o,[.un])):vU [fz p]=.ok (.ow .lst [],[.un]):=by
 unfold vU;exact v7 (jK (zXs (r:=([.d p],[fz p,.un])) rfl (qU rfl rfl rfl h rfl rfl rfl)) (wX (o:=.ow .lst []) rfl rfl)) rfl
theorem zQ5{p:D}(h:zQ [fz p]=.er 25 []):vU [fz p]=.ok (.ow .lst [.fz (.str "much"),.fz (.bl true)],[.un]):=by
 unfold vU;exact v7 (vKw (vKq (r:=([.d p],[fz p,.un])) rfl (v5 rfl rfl rfl h) rfl rfl) rfl) rfl
theorem zQ4{p:D}{n:Int}(h:zQ [fz p]=.er 24 [("row",.int n)]):vU [fz p]=.ok (.ow .lst [.fz (.str "name"),.fz (.int n),.fz (.bl false)],[.un]):=by
 unfold vU;exact v7 (vKw (vKq (r:=([.d p],[fz p,.un])) rfl (v5 rfl rfl rfl h) rfl rfl) rfl) rfl
noncomputable def Eqs(n:Nat)(d:D):Prop:=∀m,n<=m->deq m d d=some true
theorem qWn{f:D->D->Option Bool}:∀{ds:List D},(∀d∈ds,f d d=some true)->all2 f ds ds=some true
 |[],_=>rfl
 | d::ds,h=>by
   show(f d d).bind _=_;rw[h d (by simp)];show(all2 f ds ds).bind _=_;rw[qWn fun x hx=>h x (aC _ hx)];rfl
section
variable{n m:Nat}{d:D}{ds:List D}
theorem Eqs.mk(h:∀d∈ds,Eqs n d):Eqs (n+1) (.tup ds)
 | 0,l=>by omega
 |m+1,l=>qWn fun d hd=>h d hd m (by omega)
theorem Eqs.ls(h:∀d∈ds,Eqs n d):Eqs (n+1) (.nd .lst ds)
 | 0,l=>by omega
 |m+1,l=>qWn fun d hd=>h d hd m (by omega)
theorem Eqs.eq(h:Eqs n d)(l:n<=30):eqQ d d=some (.bl true):=by unfold eqQ;rw[h 30 l];rfl
theorem Eqs.int(i:Int):Eqs n (.int i)
 | 0,_=>by show some (i == i)=_;simp
 |m+1,_=>by show some (i == i)=_;simp
theorem Eqs.str(x:Str):Eqs n (.str x)
 | 0,_=>by show some (decide (x=x))=_;simp
 |m+1,_=>by show some (decide (x=x))=_;simp
theorem Eqs.up(h:Eqs n d)(l:n<=m):Eqs m d:=fun k q=>h k (by omega)
theorem al(h:Eqs n d)(k:∀x∈ds,Eqs n x):∀x∈d::ds,Eqs n x:=List.forall_mem_cons.mpr ⟨h,k⟩
theorem an:∀x∈([]:List D),Eqs n x:=fun x h=>by cases h
end
theorem Tk.eqs{kn:Str->Bool}{h:Nat}{t:Tm}(k:Tk ms kn h t n m):Eqs (2 * h+2) t.d:=by
 induction k with
 |num n=>rw[Tm.d];exact(Eqs.mk (n:=0) (al (.str _) (al (.int _) an))).up (by omega)
 |name hx=>rw[Tm.d];exact(Eqs.mk (n:=0) (al (.str _) (al (.str _) an))).up (by omega)
 |flip a b=>rw[Tm.d];exact(Eqs.mk (n:=0) (al (.str _) (al (.int _) (al (.int _) an)))).up (by omega)
 | pick ps=>
   rw[Tm.d];refine(Eqs.mk (n:=2) (al (.str _) (al (Eqs.mk (n:=1) fun d hd=>?_) an))).up (by omega);obtain⟨p,_,rfl⟩:=List.mem_map.mp hd;exact Eqs.mk (n:=0) (al (.int _) (al (.int _) an))
 |op hx hy ix iy=>rw[Tm.d];exact(Eqs.mk (al (.str _) (al (.str _) (al ix (al iy an))))).up (by omega)
 |call e ht it=>rw[Tm.d,Tm.ds,Tm.ds];exact(Eqs.mk (n:=_+1) (al (.str _) (al (.str _) (al (Eqs.mk (al it an)) an)))).up (by omega)
noncomputable abbrev pD(rows:List Rw):D:=.nd .lst (rows.map Rw.d)
theorem zQz{rows:List Rw}(h:∀r∈rows,Eqs n r.d):Eqs (n+1) (pD rows):=Eqs.ls fun d hd=>by
 obtain⟨r,hr,rfl⟩:=List.mem_map.mp hd;exact h r hr
section
variable{df:Nat}{R:List Rw}{ms:Ms}{H r0 r1:Nat}{t0 t1 ta:Tm}{n0 m0 n1 m1 na ma:Nat}
theorem Pg.eqs(g:Pg df R ms H r0 r1 t0 t1 ta n0 m0 n1 m1 na ma)(c:Int):eqQ (pD (R ++ (tl c r0 r1 t0 t1 ++ [Rw.ask ta]))) (pD (R ++ (tl c r0 r1 t0 t1 ++ [Rw.ask ta])))=some (.bl true):=by
 refine(zQz (n:=23) fun r hr=>?_).eq (by decide);rcases cT.mp hr with hr|hr
 ·obtain⟨f,t,ms,n,m,rfl,k⟩:=g.d.tk r hr;exact Eqs.mk (n:=22) (al (.str _) (al (.str _) (al ((Eqs.mk (n:=0) (al (.str _) an)).up (by decide)) (al (k.eqs.up (by decide)) an))))
 ·unfold tl at hr;simp only[List.cons_append,List.nil_append,aA,List.not_mem_nil,or_false]at hr;rcases hr with rfl|rfl|rfl|rfl|rfl
  ·exact Eqs.mk (n:=22) (al (.str _) (al (.str _) (al ((Tk.num (ms:=[]) (kn:=kf) (h:=0) c).eqs.up (by decide)) an)))
  ·exact Eqs.mk (n:=22) (al (.str _) (al (.int _) (al (.str _) (al (g.k0.eqs.up (by decide)) an))))
  ·exact Eqs.mk (n:=22) (al (.str _) (al (.int _) (al (.str _) (al (g.k1.eqs.up (by decide)) an))))
  ·exact Eqs.mk (n:=22) (al (.str _) (al ((Tk.num (ms:=[]) (kn:=kf) (h:=0) 1).eqs.up (by decide)) an))
  ·exact Eqs.mk (n:=22) (al (.str _) (al (g.ka.eqs.up (by decide)) an))
end
section
variable{ns:List Int}
noncomputable abbrev elC:SV:=oV (oAdd (oC (.int 1)) (oMod (.v (fzS (qG wF [(.v (fzS (qG qB [(.v (oV (oN 1))),(.v (oV (oC (.int 5))))]))),(.v (oV (oN 0)))]))) (oC (.int 6))))
theorem calls_comp:∀ks:List Nat,(∀k∈ks,k<=10)->∃cs:List Nat,cs.length=ks.length/\(∀c∈cs,1<=c/\c<=6)/\∀x,∃y,yC (gN 0) bTrue elC (ks.map nI) [x,sX ns]=.ok (cs.map nI,[y,sX ns])
 |[],_=>⟨[],rfl,(fun _ h=>nomatch h),fun x=>⟨x,rfl⟩⟩
 | k::ks,h=>by
   obtain⟨cs,l,b,e⟩:=calls_comp ks fun k hk=>h k (aC _ hk)
   obtain⟨v,hv,em⟩:=mix_ok (cl ns 5) (h k (by simp));obtain⟨c,hc⟩:∃c:Nat,1+v % 6=(c:Nat):=⟨(1+v % 6).toNat,by omega⟩
   refine⟨c::cs,by rw[aY,aY,l],fun a ha=>?_,fun x=>?_⟩
   ·rcases aA.mp ha with rfl | ha
    ·omega
    ·exact b a ha
   ·obtain⟨y,e⟩:=e (fI (k:Nat));have ca:qG qB [(.v (oV (oN 1))),(.v (oV (oC (.int 5))))] [fI (k:Nat),sX ns]=.ok (.fz (.int (cl ns 5)),[fI (k:Nat),sX ns]):=qL (vZ (d:=.nd .lst (ns.map D.int)) rfl (vZ (d:=nI 5) rfl (vQ rfl) rfl) rfl) (qU rfl rfl rfl (vXl 5) rfl rfl rfl);have el:elC [fI (k:Nat),sX ns]=.ok (nI c,[fI (k:Nat),sX ns]):=by
     unfold nI;rw[←hc];exact zL (vG (h1:=.d (.int 1)) (h2:=.d (.int (v % 6))) rfl (vG (h1:=.d (.int v)) (h2:=.d (.int 6)) (wZ (zR (qL (vZ (zR ca rfl) (vZ (d:=nI k) rfl (vQ rfl) rfl) rfl) (qU rfl rfl rfl em rfl rfl rfl)) rfl) rfl) rfl rfl rfl rfl rfl rfl) rfl rfl rfl rfl rfl) rfl
    refine⟨y,?_⟩;show((elC [fI (k:Nat),sX ns]).ne.bind fun v=>(yC (gN 0) bTrue elC (ks.map nI) v.2).bind fun q=>.ok (v.1::q.1,q.2))=_;rw[el];show(yC (gN 0) bTrue elC (ks.map nI) [fI (k:Nat),sX ns]).bind _=_;rw[e];rfl
noncomputable abbrev LE(ns:List Int)(df:Nat)(cs:List Nat)(x3 x4 x5 x6 x7 x8:Slot):Ev:=[sX ns,fI (df:Nat),fz (cD cs),x3,x4,x5,x6,x7,x8]
noncomputable abbrev LT(ns:List Int)(df:Nat)(cs:List Nat)(P:D)(N M:Nat)(x7 x8:Slot):Ev:=LE ns df cs (fz P) (fI (N:Nat)) (fI (M:Nat)) (fI (df:Nat)) x7 x8
theorem or3{s t u:ST}{a b c:Bool}(h1:s env=.ok (a,env))(h2:t env=.ok (b,env))(h3:u env=.ok (c,env)):bOr s (bOr t u) env=.ok (a || (b || c),env):=by
 refine vQ3 h1 ?_
 cases a with
 |true=>rfl
 | false=>
   refine vQ3 h2 ?_
   cases b with
   |true=>rfl
   |false=>exact h3
theorem vWr(i:Int):neF (.int i) (.int i)=some (.bl false):=by
 show some (D.bl (!(i == i)))=_;rw[beq_self_eq_true];rfl
theorem zZr{cs:List Nat}{t0 t1:Tm}(g:Pg df R ms H r0 r1 t0 t1 ta n0 m0 n1 m1 na ma)(c:Int){N M:Nat}(eN:nT r0 r1 n0 n1 na=N)(eM:mT r0 r1 m0 m1 ma=M){x7 x8:Slot}(P:D)(eP:pD (R ++ (tl c r0 r1 t0 t1 ++ [Rw.ask ta]))=P)(h7:oV (oN 7) (LT ns df cs P N M x7 x8)=.ok (P,LT ns df cs P N M (fz P) x8)):vQs (LT ns df cs P N M x7 x8)=.ok (.nx (LT ns df cs P N M (fz P) x8)):=by
 have tb:bOr (asB (oGt (oN 6) (oC (.int 3)))) (bOr (asB (oGt (oN 5) (oC (.int 60)))) (asB (oGt (oN 4) (oC (.int 600))))) (LT ns df cs P N M x7 x8)=.ok (decide ((3:Int)<(df:Nat)) || (decide ((60:Int)<(M:Nat)) || decide ((600:Int)<(N:Nat))),LT ns df cs P N M x7 x8):=or3 rfl rfl rfl;have csr:=g.csr c;rw[eN,eM]at csr;have lr:(R ++ (tl c r0 r1 t0 t1 ++ [Rw.ask ta])).length <=1000:=by rw[aB,g.d.len];have:=g.df5;show _+5<=_;omega
 have fl:=g.filt c;by_cases z:3<df\/600<N\/60<M
 ·have o:=vJf _ (g.ok5 c) lr (g.chk5 c) (g.room c) csr (by rw [fl];exact z);rw[show D.nd .lst ((R ++ (tl c r0 r1 t0 t1 ++ [Rw.ask ta])).map Rw.d)=P from eP]at o;have q:(decide ((3:Int)<(df:Nat)) || (decide ((60:Int)<(M:Nat)) || decide ((600:Int)<(N:Nat))))=true:=by
   simp only[Bool.or_eq_true,decide_eq_true_eq];omega
  rw[q]at tb;have rf:fzS (qG vU [(.v (oV (oN 7)))]) (LT ns df cs P N M x7 x8)=.ok (.nd .lst [.str "much",.bl true],LT ns df cs P N M (fz P) x8):=zR (qL (vZ h7 (vQ rfl) rfl) (qU rfl rfl rfl (zQ5 o) rfl rfl rfl)) rfl;exact vN tb (vD rfl (vN (q:=false) (xC (zL (vG (h1:=.d (.nd .lst [.str "much",.bl true])) (h2:=.d (.nd .lst [.str "much",.bl true])) (wZ rf rfl) rfl rfl rfl rfl rfl rfl) rfl) rfl rfl) (qH rfl rfl)))
 ·obtain⟨o,e1,e2,e3,e4⟩:=vX9 _ (g.ok5 c) lr (g.chk5 c) (g.room c) csr (by rw [fl];omega) (by omega) (by omega);rw[show D.nd .lst ((R ++ (tl c r0 r1 t0 t1 ++ [Rw.ask ta])).map Rw.d)=P from eP]at e2;have q:(decide ((3:Int)<(df:Nat)) || (decide ((60:Int)<(M:Nat)) || decide ((600:Int)<(N:Nat))))=false:=by
   simp only[Bool.or_eq_false_iff,decide_eq_false_iff_not];omega
  rw[q]at tb;have rf:fzS (qG vU [(.v (oV (oN 7)))]) (LT ns df cs P N M x7 x8)=.ok (.nd .lst [],LT ns df cs P N M (fz P) x8):=zR (qL (vZ h7 (vQ rfl) rfl) (qU rfl rfl rfl (zX8 e2) rfl rfl rfl)) rfl;have op:fzS (qG zQ [(.v (oV (oN 7)))]) (LT ns df cs P N M (fz P) x8)=.ok (oneD o.st o.s.dr o.s.sl,LT ns df cs P N M (fz P) x8):=zR (qL (vZ (d:=P) rfl (vQ rfl) rfl) (qU rfl rfl rfl e2 rfl rfl rfl)) (by rw[zJ1];rfl);have sz:fzS (qG qXx [(.v (fzS (qG zQ [(.v (oV (oN 7)))])))]) (LT ns df cs P N M (fz P) x8)=.ok (nI N,LT ns df cs P N M (fz P) x8):=zR (qL (vZ op (vQ rfl) rfl) (qU rfl rfl rfl (zZy e4 (by omega)) rfl rfl rfl)) rfl;have dl:evO (oL lenD [(oFld [1] "draws" (.v (fzS (qG zQ [(.v (oV (oN 7)))]))))]) (LT ns df cs P N M (fz P) x8)=.ok (.d (nI M),LT ns df cs P N M (fz P) x8):=by
   refine vKi (hs:=[.d (drsD o.s.dr)]) (qQ7 (wZ (d:=drsD o.s.dr) (zW1 op rfl) rfl) rfl (vV5 rfl) rfl) rfl ?_ rfl;show some (D.int ((o.s.dr.map drD).length :Nat))=some (nI M);rw[aK,e3]
  refine vN tb (qH rfl (vN (q:=false) (e:=LT ns df cs P N M (fz P) x8) (vQ3 (q:=false) (e:=LT ns df cs P N M (fz P) x8) (xC (zL (vG (h1:=.d (.nd .lst [])) (h2:=.d (.nd .lst [])) (wZ rf rfl) rfl rfl rfl rfl rfl rfl) rfl) rfl rfl) (qH rfl (vQ3 (q:=false) (e:=LT ns df cs P N M (fz P) x8) (xC (zL (vG (h1:=.d (nI N)) (h2:=.d (nI N)) (wZ sz rfl) rfl rfl rfl rfl (vWr _) rfl) rfl) rfl rfl) (qH rfl (xC (zL (vG (h1:=.d (nI M)) (h2:=.d (nI M)) dl rfl rfl rfl rfl (vWr _) rfl) rfl) rfl rfl))))) (qH rfl rfl)))
end
theorem zZl(xs:List α)(x:α):cutL (xs ++ [x]) none (some (-1))=xs:=by
 have:HT.sIx (xs ++ [x]).length (xs ++ [x]).length (some (-1))=xs.length:=by
  show(if(-1:Int)<0 then((-1:Int)+((xs ++ [x]).length :Nat)).toNat else min (-1:Int).toNat (xs ++ [x]).length)=_;rw[if_pos (by decide),aB];show((-1:Int)+((xs.length+1:Nat):Int)).toNat =_;omega
 unfold cutL;rw[this,show HT.sIx (xs ++ [x]).length 0 none=0 from rfl,List.drop_zero,Nat.sub_zero,List.take_left'];rfl
theorem Eqs.bl(b:Bool):Eqs n (.bl b)
 | 0,_=>by cases b <;> rfl
 |m+1,_=>by cases b <;> rfl
theorem zVv(k:Kd)(ds:List D):vJ0 (.ow k (ds.map .fz))=.ow k (ds.map .fz):=by show O.ow k ((ds.map O.fz).map fun o=>O.fz (fzO o))=_;rw[cU];rfl
section
variable{ns:List Int}{df:Nat}{cs:List Nat}{x4 x5 x6 x7 x8:Slot}
theorem fr3(rows:List Rw):oV (oN 3) (LE ns df cs (rO rows) x4 x5 x6 x7 x8)=.ok (pD rows,LE ns df cs (fz (pD rows)) x4 x5 x6 x7 x8):=by
 unfold pD;rw[←zX (k:=.lst) (rows.map Rw.d)];rfl
theorem zJ6(Q:List Rw)(ta:Tm):oV (oIx (oIx (oN 3) (o1 negD (oC (.int 1)))) (oC (.int 1))) (LE ns df cs (rO (Q ++ [.ask ta])) x4 x5 x6 x7 x8)=.ok (ta.d,LE ns df cs (rO (Q ++ [.ask ta])) x4 x5 x6 x7 x8):=by
 refine zL (xE (h1:=.d (Rw.ask ta).d) (h2:=.d (.int 1)) (e:=LE ns df cs (rO (Q ++ [.ask ta])) x4 x5 x6 x7 x8) (xE (h1:=.p 3 []) (h2:=.d (.int (-1))) (y:=.int (-1)) (e:=LE ns df cs (rO (Q ++ [.ask ta])) x4 x5 x6 x7 x8) rfl rfl rfl rfl ?_ rfl) rfl rfl rfl (z:=ta.d) rfl rfl) rfl;show((ixN (((Q ++ [Rw.ask ta]).map Rw.d).map O.fz).length (-1)).bind fun j=>((((Q ++ [Rw.ask ta]).map Rw.d).map O.fz)[j]?).bind fun o=>some (hnO o 3 ([] ++ [j])))=_;have l:(((Q ++ [Rw.ask ta]).map Rw.d).map O.fz).length =Q.length+1:=by simp
 have i:ixN (Q.length+1) (-1)=some Q.length:=by unfold ixN;simp;omega
 rw[l,i,cZ,dZ,dZ,List.getElem?_concat_length];rfl
theorem law_name{t0 t1:Tm}(g:Pg df R ms H r0 r1 t0 t1 ta n0 m0 n1 m1 na ma)(c:Int)(t:SS):∃e,(sSeq (sSeq (sSet 3 (eCat (.v (fzS (eSlL (oN 3) none (some (oV (o1 negD (oC (.int 1)))))))) (.v (fzS (eLst [(svTup [(oV (oC (.str "ask"))),(svTup [(oV (oC (.str "op"))),(oV (oC (.str "+"))),(svTup [(oV (oC (.str "name"))),(oV (oC (.str "x")))]),(oV (oIx (oIx (oN 3) (o1 negD (oC (.int 1)))) (oC (.int 1))))])])])))))
  (sRet (owS (oV (o2 eqQ (.v (fzS (qG vU [(.v (oV (oN 3)))]))) (.v (fzS (eLst [(oV (oC (.str "name"))),(oV (oSub (oL lenD [(oN 3)]) (oC (.int 1)))),(oV (oC (.bl false)))])))))))) t) (LE ns df cs (rO (R ++ (tl c r0 r1 t0 t1 ++ [Rw.ask ta]))) x4 x5 x6 x7 x8)=.ok (.rt (.fz (.bl true)) (sX ns::e)):=by
 have op:=vJg (R ++ tl c r0 r1 t0 t1) (g:=.add) (x:="x") (b:=ta) (fun r hr=>⟨(g.ok c r hr).1.1,(g.ok c r hr).1.2.1⟩) (by rw[aB,g.d.len];have:=g.df5;show _+4<=_;omega) (by have:=g.chk c [];rw[bG]at this;exact this) (g.kn c);have lQ:(R ++ tl c r0 r1 t0 t1).length <=9:=by rw[aB,g.d.len];have:=g.df5;show _+4<=_;omega
 rw[←cK];generalize R ++ tl c r0 r1 t0 t1=Q at op lQ;have sl:fzS (eSlL (oN 3) none (some (oV (o1 negD (oC (.int 1)))))) (LE ns df cs (rO (Q ++ [.ask ta])) x4 x5 x6 x7 x8)=.ok (.nd .lst (Q.map Rw.d),LE ns df cs (rO (Q ++ [.ask ta])) x4 x5 x6 x7 x8):=by
  refine zR (o:=.ow .lst ((cutL ((Q ++ [Rw.ask ta]).map Rw.d) none (some (-1))).map .fz)) (e:=LE ns df cs (rO (Q ++ [.ask ta])) x4 x5 x6 x7 x8) ?_ ?_
  ·show(opt (qQl (fzO (.ow .lst (((Q ++ [Rw.ask ta]).map Rw.d).map .fz))))).bind (fun ds=>Res.ok (O.ow .lst ((cutL ds none (some (-1))).map O.fz),LE ns df cs (.s false (vJ0 (.ow .lst (((Q ++ [Rw.ask ta]).map Rw.d).map .fz)))) x4 x5 x6 x7 x8))=_;rw[zX,zVv];rfl
  ·rw [zX,bN];show Res.ok (D.nd .lst (cutL (Q.map Rw.d ++ [(Rw.ask ta).d]) none (some (-1))),_)=_;rw[zZl]
 have ls:fzS (eLst [(svTup [(oV (oC (.str "ask"))),(svTup [(oV (oC (.str "op"))),(oV (oC (.str "+"))),(svTup [(oV (oC (.str "name"))),(oV (oC (.str "x")))]),(oV (oIx (oIx (oN 3) (o1 negD (oC (.int 1)))) (oC (.int 1))))])])]) (LE ns df cs (rO (Q ++ [.ask ta])) x4 x5 x6 x7 x8)=.ok (.nd .lst [(Rw.ask (.op .add (.name "x") ta)).d],LE ns df cs (rO (Q ++ [.ask ta])) x4 x5 x6 x7 x8):=
  qJv (qE (qQ9 (qE (d:=.str "ask") rfl (qE (qQ9 (qE (d:=.str "op") rfl (qE (d:=.str "+") rfl (qE (d:=.tup [.str "name",.str "x"]) rfl (qE (zJ6 Q ta) (zB rfl) rfl) rfl) rfl) rfl) rfl rfl) (zB rfl) rfl) rfl) rfl rfl) (zB rfl) rfl) rfl rfl
 have ct:=catO (env:=LE ns df cs (rO (Q ++ [.ask ta])) x4 x5 x6 x7 x8) (wZ sl rfl) (wZ ls rfl) rfl (e2:=LE ns df cs (rO (Q ++ [.ask ta])) x4 x5 x6 x7 x8) rfl (by rw[aK];show _+1<=9000;omega);rw[show Q.map Rw.d ++ [(Rw.ask (.op .add (.name "x") ta)).d]=(Q ++ [Rw.ask (.op .add (.name "x") ta)]).map Rw.d by rw[bN];rfl]at ct;have l:((Q ++ [Rw.ask (.op .add (.name "x") ta)]).map Rw.d).length =Q.length+1:=by simp
 generalize Q ++ [Rw.ask (.op .add (.name "x") ta)]=W at op ct l;have rf:fzS (qG vU [(.v (oV (oN 3)))]) (LE ns df cs (rO W) x4 x5 x6 x7 x8)=.ok (.nd .lst [.str "name",nI Q.length,.bl false],LE ns df cs (fz (pD W)) x4 x5 x6 x7 x8):=zR (qL (vZ (fr3 W) (vQ rfl) rfl) (qU rfl rfl rfl (zQ4 op) rfl rfl rfl)) rfl;have sb:oV (oSub (oL lenD [(oN 3)]) (oC (.int 1))) (LE ns df cs (fz (pD W)) x4 x5 x6 x7 x8)=.ok (nI Q.length,LE ns df cs (fz (pD W)) x4 x5 x6 x7 x8):=by
  have:oV (oSub (oL lenD [(oN 3)]) (oC (.int 1))) (LE ns df cs (fz (pD W)) x4 x5 x6 x7 x8)=.ok (.int (((W.map Rw.d).length :Nat) - 1),LE ns df cs (fz (pD W)) x4 x5 x6 x7 x8):=by kernel_rfl
  rw[this,l];unfold nI;rw[show((Q.length+1:Nat):Int) - 1=(Q.length:Nat) by omega]
 have eq:eqQ (.nd .lst [.str "name",nI Q.length,.bl false]) (.nd .lst [.str "name",nI Q.length,.bl false])=some (.bl true):=Eqs.eq (n:=1) (Eqs.ls (al (.str _) (al (.int _) (al (.bl _) an)))) (by decide);exact⟨_,jH (qZ ct (qJj (wQ (zL (vG (h1:=.d (.nd .lst [.str "name",nI Q.length,.bl false])) (h2:=.d (.nd .lst [.str "name",nI Q.length,.bl false])) (wZ rf rfl) (wZ (qJv (qE (d:=.str "name") rfl (qE sb (qE (d:=.bl false) rfl (zB rfl) rfl) rfl) rfl) rfl rfl) rfl) rfl rfl rfl eq rfl) rfl) rfl) rfl))⟩
end
theorem zVs(ns:List Int)(h:ns.length<=63):∃e,vKm [.s false (.fz (.nd .lst (ns.map .int)))]=.ok (.fz (.bl true),e):=by
 obtain⟨v,hv,em⟩:=mix_ok (cl ns 4) (k:=2) (by decide);obtain⟨d1,hd1⟩:∃d:Nat,v % 6=(d:Nat):=⟨(v % 6).toNat,by omega⟩
 have a1:oV (oMod (.v (fzS (qG wF [(.v (fzS (qG qB [(.v (oV (oN 0))),(.v (oV (oC (.int 4))))]))),(.v (oV (oC (.int 2))))]))) (oC (.int 6))) [sX ns,.un,.un,.un,.un,.un,.un,.un,.un]=.ok (nI d1,[sX ns,.un,.un,.un,.un,.un,.un,.un,.un]):=by
  unfold nI;rw[←hd1];exact zL (vG (h1:=.d (.int v)) (h2:=.d (.int 6)) (wZ (zR (qL (vZ (zR (qQq 4 fun _=>rfl) rfl) (vZ (d:=nI 2) rfl (vQ rfl) rfl) rfl) (qU rfl rfl rfl em rfl rfl rfl)) rfl) rfl) rfl rfl rfl rfl rfl rfl) rfl
 obtain⟨cs,lc,bc,ec⟩:=calls_comp (ns:=ns) [0,1,2,3,4,5] (by decide);obtain⟨y,ec⟩:=ec .un;have c2:compS 2 [(1,0)] [0] (iL rg1 [(oV (oC (.int 6)))]) (gN 0) bTrue elC [sX ns,fI (d1:Nat),.un,.un,.un,.un,.un,.un,.un]=.ok (.ow .lst ((cs.map nI).map .fz),[sX ns,fI (d1:Nat),.un,.un,.un,.un,.un,.un,.un]):=qJo (ds:=[0,1,2,3,4,5].map nI) (e:=[sX ns,fI (d1:Nat),.un,.un,.un,.un,.un,.un,.un]) (by kernel_rfl) rfl ec rfl;have s3:∃df:Nat,df<=5/\∀(t:SS) X,t [sX ns,fI (df:Nat),.s false (.ow .lst ((cs.map nI).map .fz)),.un,.un,.un,.un,.un,.un]=X->sSeq (sIf (asB (o2 inD (oMod (.v (fzS (qG qB [(.v (oV (oN 0))),(.v (oV (oC (.int 0))))]))) (oC (.int 5))) (.v (svTup [(oV (oC (.int 1))),(oV (oC (.int 2)))])))) (sSet 1 (owS (oV (oMod (oN 1) (oC (.int 4)))))) sNil) t [sX ns,fI (d1:Nat),.s false (.ow .lst ((cs.map nI).map .fz)),.un,.un,.un,.un,.un,.un]=X:=by
  have tb:∃q,asB (o2 inD (oMod (.v (fzS (qG qB [(.v (oV (oN 0))),(.v (oV (oC (.int 0))))]))) (oC (.int 5))) (.v (svTup [(oV (oC (.int 1))),(oV (oC (.int 2)))]))) [sX ns,fI (d1:Nat),.s false (.ow .lst ((cs.map nI).map .fz)),.un,.un,.un,.un,.un,.un]=.ok (q,[sX ns,fI (d1:Nat),.s false (.ow .lst ((cs.map nI).map .fz)),.un,.un,.un,.un,.un,.un]):=
   ⟨_,xC (zL (vG (h1:=.d (.int (cl ns 0 % 5))) (h2:=.d (.tup [.int 1,.int 2])) (vG (h1:=.d (.int (cl ns 0))) (h2:=.d (.int 5)) (wZ (zR (qQq 0 fun _=>rfl) rfl) rfl) rfl rfl rfl rfl rfl rfl) rfl rfl rfl rfl rfl rfl) rfl) rfl rfl⟩
  obtain⟨q,tb⟩:=tb;cases q with
  | true=>
    obtain⟨df,hdf⟩:∃d:Nat,(d1:Int) % 4=(d:Nat):=⟨((d1:Int) % 4).toNat,by omega⟩
    refine⟨df,by omega,fun t X h=>qD tb (vD rfl (qZ (o:=.fz (.int ((d1:Int) % 4))) rfl ?_))⟩;rw[hdf];exact h
  |false=>exact⟨d1,by omega,fun t X h=>qD tb (qH rfl (qM h))⟩
 obtain⟨df,h5,s3⟩:=s3;obtain⟨R,ms,H,c,r0,r1,t0,t1,ta,n0,m0,n1,m1,na,ma,g,ep⟩:=vZ8 ns h5 lc bc;have fr2:oV (oN 2) [sX ns,fI (df:Nat),.s false (.ow .lst ((cs.map nI).map .fz)),.un,.un,.un,.un,.un,.un]=.ok (cD cs,LE ns df cs .un .un .un .un .un .un):=by
  unfold LE cD;rw[←zX (k:=.lst) (cs.map nI)];rfl
 have s4:=qL (F:=wS) (as:=[(.v (oV (oN 0))),(.v (oV (oN 1))),(.v (oV (oN 2)))]) (env:=[sX ns,fI (df:Nat),.s false (.ow .lst ((cs.map nI).map .fz)),.un,.un,.un,.un,.un,.un]) (vZ (d:=.nd .lst (ns.map D.int)) rfl (vZ (d:=nI df) rfl (vZ fr2 (vQ rfl) rfl) rfl) rfl) (qU rfl rfl rfl ep rfl rfl rfl);have t5:asB (o2 eqF (oMod (.v (fzS (qG qB [(.v (oV (oN 0))),(.v (oV (oC (.int 6))))]))) (oC (.int 5))) (oC (.int 1))) (LE ns df cs (rO (R ++ (tl c r0 r1 t0 t1 ++ [Rw.ask ta]))) .un .un .un .un .un)=.ok (cl ns 6 % 5 == 1,LE ns df cs (rO (R ++ (tl c r0 r1 t0 t1 ++ [Rw.ask ta]))) .un .un .un .un .un):=
  xC (zL (vG (h1:=.d (.int (cl ns 6 % 5))) (h2:=.d (.int 1)) (vG (h1:=.d (.int (cl ns 6))) (h2:=.d (.int 5)) (wZ (zR (qQq 6 fun _=>rfl) rfl) rfl) rfl rfl rfl rfl rfl rfl) rfl rfl rfl rfl rfl rfl) rfl) rfl rfl
 unfold vKm;by_cases z:cl ns 6 % 5=1
 ·obtain⟨e,he⟩:=law_name (ns:=ns) (cs:=cs) (x4:= .un) (x5:= .un) (x6:= .un) (x7:= .un) (x8:= .un) g c _;exact⟨_,v7 (qZ (wQ a1 rfl) (qZ c2 (s3 _ _ (qZ s4 (qD t5 (vD (by rw[z];rfl) he)))))) rfl⟩
 ·have eN:∃N,nT r0 r1 n0 n1 na=N:=⟨_,rfl⟩
  have eM:∃M,mT r0 r1 m0 m1 ma=M:=⟨_,rfl⟩
  obtain⟨N,eN⟩:=eN;obtain⟨M,eM⟩:=eM;have tt:=g.total c;rw[eN,eM]at tt;have tn:=fun {x7 x8:Slot}=>zZr (ns:=ns) (cs:=cs) (x7:=x7) (x8:=x8) g c eN eM _ rfl
  have eq:=g.eqs c;generalize R ++ (tl c r0 r1 t0 t1 ++ [Rw.ask ta])=rows at *;have s6:sAsg (fzS (qG yF [(.v (oV (oN 3)))])) (gL 3 (gCn (gN 4) (gCn (gN 5) (gCn (gN 6) gNl)))) (LE ns df cs (rO rows) .un .un .un .un .un)=.ok (.nx (LT ns df cs (pD rows) N M .un .un)):=zQl (zR (qL (vZ (fr3 rows) (vQ rfl) rfl) (qU rfl rfl rfl tt rfl rfl rfl)) rfl) rfl rfl;have s7:eF listD [(oN 3)] (LT ns df cs (pD rows) N M .un .un)=.ok (.ow .lst ((rows.map Rw.d).map .fz),LT ns df cs (pD rows) N M .un .un):=vKk (hs:=[.d (pD rows)]) rfl (xs:=[pD rows]) rfl (ds:=rows.map Rw.d) rfl rfl;have h7:∀x8,oV (oN 7) (LT ns df cs (pD rows) N M (rO rows) x8)=.ok (pD rows,LT ns df cs (pD rows) N M (fz (pD rows)) x8):=fun x8=>by
   unfold LT pD;rw[←zX (k:=.lst) (rows.map Rw.d)];rfl
  have lp:forS (gN 8) vQs [nI 0,nI 1] (LT ns df cs (pD rows) N M (rO rows) .un)=.ok (.nx (LT ns df cs (pD rows) N M (fz (pD rows)) (fI (1:Nat)))):=vJ rfl (tn (h7 _)) (vJ rfl (tn rfl) rfl);exact⟨_,v7 (qZ (wQ a1 rfl) (qZ c2 (s3 _ _ (qZ s4 (qD t5 (qH (beq_false_of_ne z) (qM (jK s6 (qZ s7 (jK (jD (qQm (xs:=[.int 2]) rfl rfl rfl) lp) (wX (o:=.fz (.bl true)) (wQ (zL (vG (h1:=.d (pD rows)) (h2:=.d (pD rows)) rfl rfl rfl rfl rfl eq rfl) rfl) rfl) rfl))))))))))) rfl⟩
end X25
namespace L2
open PySem PySem.Spec PyProof.Rows
variable{prog:bV}{w:bW}{A:bS}{E Q:Value->aJ->Prop}{t':Bool}{elts:List Expr}{kk:Nat}
noncomputable def SqB:Bool->aQ->Hp->aV->List V->Prop
 |true,K,H,a,xs=>SqT K H a xs
 |false,K,H,a,xs=>SqL K H a xs
noncomputable def IsB:Bool->Heap->aV->Array Value->Prop
 |true,h,a,xs=>h.IsTuple a xs
 |false,h,a,xs=>h.IsList a xs
noncomputable def ItB:Bool->Heap->aV->aV->Nat->Prop
 |true,h,i,l,k=>h.IsTupleIter i l k
 |false,h,i,l,k=>h.IsListIter i l k
noncomputable def itO:Bool->aV->Obj
 |true,l=> {cls:=.type "tuple_iterator",data:=.fields #[.ref l,.int 0 0]}
 |false,l=> {cls:=.type "list_iterator",data:=.fields #[.ref l,.int 0 0]}
section
variable{t t' :Bool}{h g:Heap}{a b i l m:aV}{k:Nat}{xs ys:Array Value}
theorem vJ5(t:Bool)(hil:l≠i)(xs:Array Value):Feed i l (fun k h=>ItB t h i l k/\IsB t h l xs) (fun k=>xs[k]?):=by
 cases t
 ·exact vYr hil xs
 ·exact vJp hil xs
theorem IsB.lt(p:IsB t h a xs):a<h.objs.size:=by
 cases t <;> (obtain⟨_,e,_⟩:=p;exact aU e)
theorem IsB.push{o:Obj}(p:IsB t h a xs):IsB t (h.push o) a xs:=by
 cases t
 ·exact Heap.IsList.push p _
 ·exact Heap.IsTuple.push p _
theorem ItB.new(e:h.get? i=some (itO t l)):ItB t h i l 0:=by
 cases t <;> exact⟨_,e,rfl,rfl⟩
theorem ItB.obj(p:ItB t h i l k):∃o,h.get? i=some o/\∀v,o.data≠ .cell v:=by
 cases t <;> (obtain⟨o,e,_,d⟩:=p;exact⟨o,e,fun v z=>by rw[d]at z;cases z⟩)
theorem ItB.to(p:ItB t h i l k)(q:∀o,h.get? i=some o->g.get? i=some o):ItB t g i l k:=by
 cases t <;> (obtain⟨o,e,d⟩:=p;exact⟨o,q o e,d⟩)
theorem vVz:(itO t l).isFreed =false:=by cases t <;> rfl
theorem zXi{s:aJ}(p:IsB t s.heap l xs)(hQ:Q (.ref s.heap.objs.size) {s with heap:=s.heap.push (itO t l)}):aI (model prog w) A (pyIter (.ref l)) Q E s:=by
 cases t
 ·exact wpAny_pyIter_list p hQ
 ·exact wpAny_pyIter_tuple p hQ
noncomputable abbrev bB(t t' :Bool)(h:Heap)(l m:aV):Heap:=(h.push (itO t l)).push (itO t' m)
noncomputable abbrev bC(t t' :Bool)(h:Heap)(l m:aV):Heap:=(bB t t' h l m).push {cls:=.type "tuple",data:=.seq #[.ref h.objs.size,.ref (h.push (itO t l)).objs.size]}
noncomputable abbrev bD(t t' :Bool)(h:Heap)(l m:aV):Heap:=(bC t t' h l m).push {cls:=.type "tuple",data:=.seq #[.none,.none]}
noncomputable abbrev bE(t t' :Bool)(h:Heap)(l m:aV):Heap:=(bD t t' h l m).push {cls:=.type "zip",data:=.fields #[.none,.bool false,.bool false,.ref (bB t t' h l m).objs.size,.ref (bC t t' h l m).objs.size]}
theorem zY9(t t' :Bool)(l m:aV)(xs ys:Array Value):
  Meets (Builtin.«zip.__new__» ⟨[.type "zip",.ref l,.ref m],[]⟩) (fun _ R s=>IsB t s.heap l xs/\IsB t' s.heap m ys/\R (.ok (.ret (.ref (bD t t' s.heap l m).objs.size))) {s with heap:=bE t t' s.heap l m}):=
 .of_wp fun prog w A R s h=>by
  obtain⟨hp,g,d,tk,os⟩:=s;obtain⟨t1,t2,h⟩:=h;have hsub:=sub_zip;have T1:IsB t (Shared.heap ⟨hp,g,d,tk,os⟩) l xs:=t1;have T2:IsB t' (Shared.heap ⟨hp.push (itO t l),g,d,tk,os⟩) m ys:=IsB.push t2;wp_walk using zXi T1,zXi T2;exact⟨_,rfl,h⟩
theorem jVj{s:aJ}(t1:IsB t s.heap l xs)(t2:IsB t' s.heap m ys)(h:∀g,IsZip g (s.heap.objs.size+4) (s.heap.objs.size+2) (s.heap.objs.size+3) .none ->IsPair g (s.heap.objs.size+2) (.ref s.heap.objs.size) (.ref (s.heap.objs.size+1))->
   IsPair g (s.heap.objs.size+3) .none .none ->ItB t g s.heap.objs.size l 0->ItB t' g (s.heap.objs.size+1) m 0->(∀c o,s.heap.get? c=some o->g.get? c=some o)->Q (.ref (s.heap.objs.size+4)) {s with heap:=g}):
  aI (model prog w) A (call (.type "zip") [.ref l,.ref m]) Q E s:=by
 refine callType_new PySem.F.called_zip (by decide) (PySem.F.typeCall_zip_2 _ _) (PySem.F.newCall_zip_2 _ _) (fun obj=>PySem.F.args_object_init_3 obj _ _) PySem.F.entry_zip_new (zY9 t t' l m xs ys) ⟨t1,t2,?_⟩;have n1:(s.heap.push (itO t l)).objs.size=s.heap.objs.size+1:=dJ ..;have n2:(bB t t' s.heap l m).objs.size=s.heap.objs.size+2:=by rw[dJ,n1]
 have n3:(bC t t' s.heap l m).objs.size=s.heap.objs.size+3:=by rw[dJ,n2]
 have n4:(bD t t' s.heap l m).objs.size=s.heap.objs.size+4:=by rw[dJ,n3]
 have up:∀{h:Heap} {o u:Obj} {c:aV},h.get? c=some u->(h.push o).get? c=some u:=aW _;have w5:(bE t t' s.heap l m).get? (bD t t' s.heap l m).objs.size=some _:=aT _ rfl;have w4:(bE t t' s.heap l m).get? (bC t t' s.heap l m).objs.size=some _:=up (aT _ rfl);have w3:(bE t t' s.heap l m).get? (bB t t' s.heap l m).objs.size=some _:=up (up (aT _ rfl));have w2:(bE t t' s.heap l m).get? (s.heap.push (itO t l)).objs.size=some _:=up (up (up (aT _ vVz)));have w1:(bE t t' s.heap l m).get? s.heap.objs.size=some _:=up (up (up (up (aT _ vVz))));show _/\_;rw[n2,n3,n4]at w5;rw[n1,n2]at w3;rw[n3]at w4;rw[n1]at w2;rw[n4];exact⟨⟨_,w5,rfl⟩,h _ w5 w3 w4 (.new w1) (.new w2) fun c o q=>up (up (up (up (up q))))⟩
end
section
variable{X:Cx}{pins:List (aV×Obj)}{σ:St}{H:Hp}{s:aJ}{t:Bool}{a:aV}{xs ys:List V}
theorem Inv.sqB(I:Inv X pins σ H s)(h:SqB t X.K H a xs):∃its:List Value,Vals xs its/\IsB t s.heap a its.toArray:=by
 cases t
 ·obtain⟨its,r,p,_⟩:=I.list h;exact⟨its,r,p.isList⟩
 ·obtain⟨its,r,p,_⟩:=I.tuple h;exact⟨its,r,p⟩
theorem Inv.sqB_inj(I:Inv X pins σ H s)(h:SqB t X.K H a xs)(h' :SqB t X.K H a ys):xs=ys:=by
 cases t
 ·exact I.list_inj h h'
 ·exact I.tuple_inj h h'
end
noncomputable def ItzB(t t' :Bool)(K:aQ)(a b:aV):It:=
 ⟨fun i H=>∃xs ys x y,SqB t K H a xs/\SqB t' K H b ys/\xs[i]?=some x/\ys[i]?=some y,
  fun i H v H' =>∃p,v=.ref p/\H p=none/\∀xs ys x y,SqB t K H a xs->SqB t' K H b ys->xs[i]?=some x->ys[i]?=some y->H' =upd H p (.tup [x,y]),
  fun i H=>∃xs ys,SqB t K H a xs/\SqB t' K H b ys/\(xs.length<=i\/ys.length<=i)⟩
noncomputable def StB(t t' :Bool)(a b z TI TO i1 i2:aV)(i:Nat)(h:Heap):Prop:=IsZip h z TI TO .none /\IsPair h TI (.ref i1) (.ref i2)/\(∃x y,IsPair h TO x y)/\ItB t h i1 a i/\ItB t' h i2 b i
theorem StB.obj{t:Bool}{a b z TI TO i1 i2 c:aV}{i:Nat}{h:Heap}(st:StB t t' a b z TI TO i1 i2 i h)(hc:c∈ [z,TI,TO,i1,i2]):∃o,h.get? c=some o/\∀v,o.data≠ .cell v:=by
 obtain⟨hz,hTI,⟨x,y,hTO⟩,h1,h2⟩:=st;have hc' :c=z\/c=TI\/c=TO\/c=i1\/c=i2:=by simpa using hc
 rcases hc' with rfl|rfl|rfl|rfl|rfl
 ·exact⟨_,hz,fun v q=>by cases q⟩
 ·exact⟨_,hTI,fun v q=>by cases q⟩
 ·exact⟨_,hTO,fun v q=>by cases q⟩
 ·exact h1.obj
 ·exact h2.obj
theorem zK7{P:bV}{K:aQ}{pos:Pos}{t:Bool}(a b z TI TO i1 i2:aV)(D:ZipApart z TI TO i1 i2 a b):
  Turn P w K (.Tuple elts kk pos) (ItzB t t' K a b) [z,TI,TO,i1,i2] z (StB t t' a b z TI TO i1 i2) where
 mem:=by simp
 obj:=fun i h st c hc=>st.obj hc
 keep:=fun i h h' st k=>by
  obtain⟨hz,hTI,⟨x,y,hTO⟩,h1,h2⟩:=st;exact⟨k z (by simp) _ hz,k TI (by simp) _ hTI,⟨x,y,k TO (by simp) _ hTO⟩,h1.to fun o e=>k i1 (by simp) o e,h2.to fun o e=>k i2 (by simp) o e⟩
 item:=by
  intro X hP hw hK hc i pins s σ H E I hf st hg;subst hP hw hK;obtain⟨xs,ys,x,y,hq1,hq2,hx,hy⟩:=hg;obtain⟨its,rv,p1⟩:=I.sqB hq1;obtain⟨its2,rv2,p2⟩:=I.sqB hq2;obtain⟨u,hu,ru⟩:=rv.get hx;obtain⟨v,hv,rvv⟩:=rv2.get hy;have st' :=st;obtain⟨hz,hTI,⟨ta,tb,hTO⟩,h1,h2⟩:=st;refine vXp (vJ5 t D.l1i1 its.toArray) (vJ5 t' D.l2i2 its2.toArray) D hz hTI hTO ⟨h1,p1⟩ ⟨h2,p2⟩ (x:=u) (y:=v) (by simpa using hu) (by simpa using hv) fun h' a1 a2 a3 a4 a5 hk=>?_
  refine⟨_,rfl,wpAny_letOwnedTupleGo_zip a1 fun h'' hz'' sb=>?_⟩;have nz:s.heap.objs.size≠z:=Nat.ne_of_gt (aU hz);have hk2:∀c o,c∉ [z,TI,TO,i1,i2]->s.heap.get? c=some o->h''.get? c=some o:=fun c o hc e=>by
   simp only[aA,List.not_mem_nil,or_false,not_or]at hc;exact sb.extBut c o hc.1 (hk c o hc.1 hc.2.2.1 hc.2.2.2.1 hc.2.2.2.2 e)
  refine⟨.ref s.heap.objs.size,upd H s.heap.objs.size (.tup [x,y]),I.turnedLaid (t' :=s.toks) hk2 hf (aD _) ⟨vKp,[u,v],.cons ru (.cons rvv .nil),⟨_,sb.extBut _ _ nz a5,rfl,_,rfl⟩⟩,rfl,
   ⟨_,rfl,I.hok.fresh (aD _),fun xs' ys' x' y' e1 e2 e3 e4=>?_⟩,⟨hz'',sb.extBut _ _ D.TIz (hk _ _ D.TIz D.TITO D.TIi1 D.TIi2 hTI),⟨_,_,sb.extBut _ _ D.TOz a2⟩,a3.1.to fun o e=>sb.extBut _ _ D.i1z e,a4.1.to fun o e=>sb.extBut _ _ D.i2z e⟩,fun c hc=>?_⟩
  ·rw [I.sqB_inj e1 hq1,hx] at e3;rw[I.sqB_inj e2 hq2,hy]at e4;cases e3;cases e4;rfl
  ·obtain⟨o,e,_⟩:=st'.obj hc;rw[qF (bJ (aU e))];exact(hf c hc).1
 done:=by
  intro X hP hw hK hc i pins s σ H E I hf st hg;subst hP hw hK;obtain⟨xs,ys,hq1,hq2,hend⟩:=hg;obtain⟨its,rv,p1⟩:=I.sqB hq1;obtain⟨its2,rv2,p2⟩:=I.sqB hq2;obtain⟨hz,hTI,⟨ta,tb,hTO⟩,h1,h2⟩:=st;have l1:=rv.length;have l2:=rv2.length;refine zQn (I.ok.hd hc) (vJ5 t D.l1i1 its.toArray) (vJ5 t' D.l2i2 its2.toArray) D hz hTI hTO ⟨h1,p1⟩ ⟨h2,p2⟩ ?_ fun h' hk=>⟨rfl,I.turnedAll (t' :=s.toks) (ch:=[z,TI,TO,i1,i2]) (fun c o hc e=>?_) hf⟩
  ·rcases hend with q | q
   ·exact .inl (by simp;omega)
   ·exact .inr (by simp;omega)
  ·simp only [aA,List.not_mem_nil,or_false,not_or] at hc;exact hk c o hc.1 hc.2.2.1 hc.2.2.2.1 hc.2.2.2.2 e
 self:=fun _ _ _ _ _ st h=>wpAny_pyIter_zip st.1 h
noncomputable def jQ4(K:aQ)(ta:TA):TI:=fun σ H R=>ta σ H fun vs H1=>∃a b t t' xs ys,vs=[.ref a,.ref b]/\SqB t K H1 a xs/\SqB t' K H1 b ys/\R (ItzB t t' K a b) H1
theorem zJl{X:Cx}{tpos:Pos}{e1 e2:Expr}{ta:TA}{p pos:Pos}(hg:Gl X "zip")(hm:X.mg "zip"=none)(ha:PA X [e1,e2] ta)(hs:aX [e1,e2] X.env=[(false,eval e1 X.env),(false,eval e2 X.env)])(hs2:aX [e2] X.env=[(false,eval e2 X.env)]):PI X (.Tuple elts kk tpos) (.Call (.Name "zip" p) [e1,e2] [] pos) (jQ4 X.K ta):=by
 intro pins s σ H R I h;refine Call_ (qZ7 I hg hm Boot.«zip» (cB (thn (ha pos pins s σ H _ I h) fun us s1 ⟨vs,H1,I1,r1,q1⟩=>?_) (by rw[hs,hs2]) (by rw[hs2];rfl)));obtain⟨a,b,t,t',xs,ys,rfl,hx,hy,q⟩:=q1;cases r1 with
 | cons r rr=>
   cases rr with
   | cons r' rr=>
     cases rr;cases r;cases r';obtain⟨its,rv,p1⟩:=I1.sqB hx;obtain⟨its2,rv2,p2⟩:=I1.sqB hy;refine jVj p1 p2 fun h' hz hTI hTO hi1 hi2 hk=>?_
     refine wpAny_pyIter_zip hz ?_
     refine⟨s1.heap.objs.size+4,[s1.heap.objs.size+4,s1.heap.objs.size+2,s1.heap.objs.size+3,s1.heap.objs.size,s1.heap.objs.size+1],_,_,H1,rfl,I1.kept (t' :=s1.toks) hk,zK7 a b _ _ _ _ _ (zipApart_new p1.lt p2.lt),⟨hz,hTI,⟨_,_,hTO⟩,hi1,hi2⟩,fun c hc=>?_,q⟩;have hc' :s1.heap.objs.size<=c:=by
      grind
     exact I1.fpOk hc' (I1.hok.fresh hc')
end L2
namespace DX
open PySem L2 PyProof.Rows
section
variable{K:aQ}{c:Nat->aV}{F G:Hp}{a b:aV}{t t' :Bool}{xs ys:List V}{ds es:List D}
theorem qQ4(e:Same F G)(h:SqB t K F a xs):SqB t K G a xs:=by
 cases t
 ·exact j6 e h
 ·exact e.tup h
theorem zVx(h1:SqB t K F a xs)(h2:SqB t' K F b ys)(k1:DsAt K c F xs ds)(k2:DsAt K c F ys es):ItD K c F (ItzB t t' K a b) (zipD ds es):=by
 intro i H T sm hb;have g1:=qQ4 vK (qQ4 sm h1);have g2:=qQ4 vK (qQ4 sm h2);refine⟨fun z hz=>?_,fun hi=>⟨xs,ys,g1,g2,by rw[yE,←k1.len,←k2.len]at hi;omega⟩⟩;obtain⟨d,e,e1,e2,rfl⟩:=zipD_get hz;obtain⟨v,v1,v2⟩:=k1.get e1;obtain⟨u,u1,u2⟩:=k2.get e2;refine⟨⟨xs,ys,v,u,g1,g2,v1,u1⟩,fun x H' y=>?_⟩;obtain⟨p,rfl,hn,y2⟩:=y;rw[y2 xs ys v u g1 g2 v1 u1];exact vVr hn hb (v2.same sm) (u2.same sm)
noncomputable def sqOf:Bool->D->Option (List D)
 |true=>qY2
 |false=>qQl
theorem vWe{u:V}{d:D}(h:DAt K c F u d)(e:sqOf t d=some ds):∃p vs,u=.ref p/\SqB t K F p vs/\DsAt K c F vs ds:=by
 cases t
 ·exact qX8 h e
 ·exact zQr h e
theorem zXq{zs:List D}{r:List D}(e:zpA zs=some r):∃x y t t' ds es,zs=[x,y]/\sqOf t x=some ds/\sqOf t' y=some es/\r=zipD ds es:=by
 have k:∀{t t'} {x y:D},((sqOf t x).bind fun ds=>(sqOf t' y).bind fun es=>some (zipD ds es))=some r->∃x' y' t t' ds es,[x,y]=[x',y']/\sqOf t x' =some ds/\sqOf t' y' =some es/\r=zipD ds es:=fun {t t' x y} h=>by
  obtain⟨ds,h1,h⟩:=bnd h;obtain⟨es,h2,h⟩:=bnd h;cases h;exact⟨x,y,t,t',ds,es,rfl,h1,h2,rfl⟩
 match zs,e with
 | [x,y],e=>
   unfold zpA at e;split at e
   ·rename_i h;cases e;exact k (t:=false) (t' :=false) h
   ·split at e
    ·rename_i h;cases e;exact k (t:=true) (t' :=true) h
    ·exact k (t:=true) (t' :=false) e
 |[],e=>cases e
 |[_],e=>cases e
 |_::_::_::_,e=>cases e
end
theorem vWz{X:Cx}{c:Nat->aV}{E:XK}{e1 e2:Expr}{ss:List SV}{p pos tpos:Pos}{elts:List Expr}{kk:Nat}(hg:Gl X "zip")(hm:X.mg "zip"=none)(ha:VsD X c E [e1,e2] ss)(hs:aX [e1,e2] X.env=[(false,eval e1 X.env),(false,eval e2 X.env)]:=by rfl)(hs2:aX [e2] X.env=[(false,eval e2 X.env)]:=by rfl):
  ID' X c E (.Tuple elts kk tpos) (.Call (.Name "zip" p) [e1,e2] [] pos) (iL zpA ss):=by
 refine⟨PI.imp (zJl hg hm ha.h hs hs2) fun σ H R=>?_⟩;rintro⟨env,B,W,cf,w⟩;refine qZ4 cf (qX.mp w) fun r w1 us H1 W1 g=>?_
 obtain⟨ds,e1,w2⟩:=qC w1;have ga:=g.at_;obtain⟨x,y,t,t',ds,es,e2,q1,q2,rfl⟩:=zXq e1;rw[e2]at ga;obtain⟨u,v,rfl,a,b⟩:=ds2 ga;obtain⟨q,vs,rfl,c1,c2⟩:=vWe a q1;obtain⟨q',vs',rfl,c3,c4⟩:=vWe b q2;exact⟨q,q',t,t',_,_,rfl,qQ4 vK c1,qQ4 vK c3,w2 _ H1 W1 g.st g.cf (zVx c1 c3 c2 c4)⟩
end DX
namespace X25
open PySem L2 DX FP PyProof.Rows
theorem qXa:FnScope ["self","row"] ["self","row"] (qP qQf):=scA
theorem qW9:FnScope ["self","steps","draws","slots"] ["self","steps","draws","slots"] (qP qQe):=scA
theorem qWw:FnScope ["term","kind"] ["term"] (qP qZ9):=scA
theorem qQr:FnScope ["one","found","waiting","term"] ["one"] (qP qZ8):=scA
theorem zZ5:FnScope ["one"] ["one"] (qP vZl):=scA
theorem qZ0:FnScope ["row","term","names","helpers","kind","part"] ["row","term","names","helpers"] (qP qVo):=scA
theorem xL:FnScope ["program","names","helpers","number","row","kind"] ["program"] (qP qQz):=scA
theorem qYw:FnScope ["program"] ["program"] (qP qVp):=scA
theorem vZ7:FnScope ["term"] ["term"] (qP qWe):=scA
theorem qZz:FnScope ["term","parts","kind"] ["term","parts"] (qP qVn):=scA
theorem qW8:FnScope ["self"] ["self"] (qP qQd):=scA
theorem qZn:FnScope ["self"] ["self"] (qP wM):=scA
theorem qJc:FnScope ["self"] ["self"] (qP xR):=scA
theorem qJd:FnScope ["self","draw"] ["self","draw"] (qP xS):=scA
theorem vR:FnScope ["self","term","names","helper","own_names","binds","name","part","inner","whole","slot"] ["self","term","names"] (qP xY):=scA
theorem wL:FnScope ["self","term","names","kind","parts","part"] ["self","term","names"] (qP xX):=scA
theorem qQi:FnScope ["self","name","term","inner"] ["self","name","term"] (qP xO):=scA
theorem xW:FnScope ["self","row","kind","turn","inner"] ["self","row"] (qP xN):=scA
theorem qKg:FnScope ["program","opener","row"] ["program"] (qP qX1):=scA
theorem qYs:FnScope ["_law_script","_law_k"] ["_law_script","_law_k"] (qP qQy):=scA
theorem qYj:FnScope ["_law_cell","_law_k","_law_some"] ["_law_cell","_law_k"] (qP qWd):=scA
theorem jT:FnScope ["_law_many","_law_drawn","_law_cell","_law_term","_law_k","_law_part"] ["_law_many","_law_drawn","_law_cell"] (qP qZg):=scA
theorem xI:FnScope ["_law_name","_law_many","_law_first","_law_term","_law_k"] ["_law_name","_law_many"] (qP qZh):=scA
theorem vP:FnScope ["_law_script","_law_way","_law_one","_law_other","_law_rounds","_law_terms","_law_drawn"] ["_law_script"] (qP qQw):=scA
theorem zS:FnScope ["_law_script","_law_defs","_law_calls_here","_law_rounds","_law_terms","_law_drawn","_law_cell","_law_rows","_law_k","_law_term","_law_asked"] ["_law_script","_law_defs","_law_calls_here"] (qP qQv):=scA
theorem wK:FnScope ["_law_term","_law_measures","_law_one","_law_other","_law_inner","_law_part"] ["_law_term","_law_measures"] (qP qQx):=scA
theorem zY:FnScope ["_law_program_here","_law_measures","_law_terms","_law_draws","_law_row","_law_one","_law_rounds"] ["_law_program_here"] (qP qZf):=scA
theorem qZk:FnScope ["_law_rows","e"] ["_law_rows"] (qP qQu):=scA
theorem qZ5:FnScope ["_law_script","_law_defs","_law_calls_here","_law_program_here","_law_terms","_law_draws","_law_many","_law_handed","_law_turn"] ["_law_script"] (qP vKc):=scA
set_option genInjectivity false
set_option genSizeOf false
structure Fs(K:aQ)(mg:Str->Option Value)(c:Nat->aV) where
 b0:aV
 c0:bQ
 d0:MethAt K "__init__" "NoText.__init__" qZl ["self","row"] b0 c0
 e0:aV
 f0:bQ
 g0:MethAt K "__init__" "NoName.__init__" qQf ["self","row"] e0 f0
 h0:aV
 i0:bQ
 j0:MethAt K "__init__" "Opened.__init__" qQe ["self","steps","draws","slots"] h0 i0
 k0:aV
 l0:bQ
 m0:FnAt K mg "parts_of" qZ9 ["term"] k0 l0
 n0:aV
 o0:bQ
 p0:FnAt K mg "terms_in" qZ8 ["one"] n0 o0
 q0:aV
 r0:bQ
 s0:FnAt K mg "size" vZl ["one"] q0 r0
 t0:aV
 u0:bQ
 v0:FnAt K mg "check_term" qVo ["row","term","names","helpers"] t0 u0
 w0:aV
 x0:bQ
 y0:FnAt K mg "check_names" qQz ["program"] w0 x0
 z0:aV
 A0:bQ
 B0:FnAt K mg "check_defs" qVp ["program"] z0 A0
 C0:aV
 D0:bQ
 E0:FnAt K mg "draw_of" qWe ["term"] C0 D0
 F0:aV
 G0:bQ
 H0:FnAt K mg "with_parts" qVn ["term","parts"] F0 G0
 I0:aV
 J0:bQ
 K0:MethAt K "__init__" "Opener.__init__" qQd ["self"] I0 J0
 L0:aV
 M0:bQ
 N0:MethAt K "count_term" "Opener.count_term" wM ["self"] L0 M0
 O0:aV
 P0:bQ
 Q0:MethAt K "new_slot" "Opener.new_slot" xR ["self"] O0 P0
 R0:aV
 S0:bQ
 T0:MethAt K "new_draw" "Opener.new_draw" xS ["self","draw"] R0 S0
 U0:aV
 V0:bQ
 W0:MethAt K "open_call" "Opener.open_call" xY ["self","term","names"] U0 V0
 X0:aV
 Y0:bQ
 Z0:MethAt K "open_term" "Opener.open_term" xX ["self","term","names"] X0 Y0
 a1:aV
 b1:bQ
 c1:MethAt K "open_let" "Opener.open_let" xO ["self","name","term"] a1 b1
 d1:aV
 e1:bQ
 f1:MethAt K "open_row" "Opener.open_row" xN ["self","row"] d1 e1
 g1:aV
 h1:bQ
 i1:FnAt K mg "opened" qX1 ["program"] g1 h1
 j1:aV
 k1:bQ
 l1:FnAt K mg "_law_cell_at" qQy ["_law_script","_law_k"] j1 k1
 m1:aV
 n1:bQ
 p1:FnAt K mg "_law_mix" qWd ["_law_cell","_law_k"] m1 n1
 q1:aV
 r1:bQ
 s1:FnAt K mg "_law_chain" qZg ["_law_many","_law_drawn","_law_cell"] q1 r1
 t1:aV
 u1:bQ
 v1:FnAt K mg "_law_calls" qZh ["_law_name","_law_many"] t1 u1
 w1:aV
 x1:bQ
 y1:FnAt K mg "_law_numbers" qQw ["_law_script"] w1 x1
 z1:aV
 A1:bQ
 B1:FnAt K mg "_law_program" qQv ["_law_script","_law_defs","_law_calls_here"] z1 A1
 C1:aV
 D1:bQ
 E1:FnAt K mg "_law_measure" qQx ["_law_term","_law_measures"] C1 D1
 F1:aV
 G1:bQ
 H1:FnAt K mg "_law_total" qZf ["_law_program_here"] F1 G1
 I1:aV
 J1:bQ
 K1:FnAt K mg "_law_refused" qQu ["_law_rows"] I1 J1
 L1:aV
 M1:bQ
 N1:FnAt K mg "law" vKc ["_law_script"] L1 M1
 O1:Cls K (c 1)
 P1:Cls K (c 2)
 Q1:Mk K (c 1) h0
 R1:Mk K (c 2) I0
 S1:IniCls K (c 24) e0
 T1:bF K (.ref (c 24)) "row"=some none
 U1:IniCls K (c 23) b0
 V1:bF K (.ref (c 23)) "row"=some none
 W1:mg "FlipError"=some (.ref (c 20))
 X1:mg "Never"=some (.ref (c 22))
 Y1:mg "NoName"=some (.ref (c 24))
 Z1:mg "NoNumber"=some (.ref (c 27))
 a2:mg "NoOrder"=some (.ref (c 26))
 b2:mg "NoRow"=some (.ref (c 28))
 c2:mg "NoShare"=some (.ref (c 21))
 d2:mg "NoText"=some (.ref (c 23))
 e2:mg "Opened"=some (.ref (c 1))
 f2:mg "Opener"=some (.ref (c 2))
 g2:mg "TooMuch"=some (.ref (c 25))
 h2:Meth K (c 2) "count_term" L0
 i2:Meth K (c 2) "new_draw" R0
 j2:Meth K (c 2) "new_slot" O0
 k2:Meth K (c 2) "open_call" U0
 l2:Meth K (c 2) "open_let" a1
 m2:Meth K (c 2) "open_row" d1
 n2:Meth K (c 2) "open_term" X0
 p2:ExcCls K mg "TooMuch" (c 25)
 q2:∀C b,(C,b)∈([(24,false),(25,false)]:List (Nat×Bool))->ExcKit K (c C)/\cJ K (.ref (c C)) (.ref (c 22))=some b
 r2:∀C b,(C,b)∈([(24,true),(25,false)]:List (Nat×Bool))->ExcKit K (c C)/\cJ K (.ref (c C)) (.ref (c 24))=some b
 s2:∀C b,(C,b)∈([(24,false),(25,false)]:List (Nat×Bool))->ExcKit K (c C)/\cJ K (.ref (c C)) (.ref (c 27))=some b
 t2:∀C b,(C,b)∈([(24,false),(25,false)]:List (Nat×Bool))->ExcKit K (c C)/\cJ K (.ref (c C)) (.ref (c 26))=some b
 u2:∀C b,(C,b)∈([(24,false),(25,false)]:List (Nat×Bool))->ExcKit K (c C)/\cJ K (.ref (c C)) (.ref (c 28))=some b
 v2:∀C b,(C,b)∈([(24,false),(25,false)]:List (Nat×Bool))->ExcKit K (c C)/\cJ K (.ref (c C)) (.ref (c 21))=some b
 w2:∀C b,(C,b)∈([(24,false),(25,false)]:List (Nat×Bool))->ExcKit K (c C)/\cJ K (.ref (c C)) (.ref (c 23))=some b
 x2:∀C b,(C,b)∈([(24,false),(25,true)]:List (Nat×Bool))->ExcKit K (c C)/\cJ K (.ref (c C)) (.ref (c 25))=some b
 y2:∀C b,(C,b)∈([(24,true),(25,true)]:List (Nat×Bool))->ExcKit K (c C)/\cJ K (.ref (c C)) (.type "ValueError")=some b
 z2:∀C,([24,25]:List Nat).contains C=true->PySem.W.exmOne K (.ref (c C)) (.ref (c 20))=some true
 A2:∀C∈([24]:List Nat),ExcKit K (c C)/\PySem.W.hasDictIn K (c C)=true/\bF K (.ref (c C)) "row"=some none
 B2:yQ K c [1] "draws"
 C2:yQ K c [1] "slots"
 D2:yQ K c [1] "steps"
 E2:yQ K c [2] "draws"
 F2:yQ K c [2] "helpers"
 G2:yQ K c [2] "names"
 H2:yQ K c [2] "slots"
 I2:yQ K c [2] "steps"
 J2:yQ K c [2] "terms"
 K2:mg "ValueError"=none
 M2:mg "enumerate"=none
 N2:mg "int"=none
 O2:mg "isinstance"=none
 P2:mg "len"=none
 Q2:mg "list"=none
 R2:mg "range"=none
 S2:mg "reversed"=none
 T2:mg "tuple"=none
 U2:mg "zip"=none
 V2:Tok
 W2:mg "MOST_DEFS"=some (.int 3 V2)
 X2:Tok
 Y2:mg "MOST_DRAWS"=some (.int 60 X2)
 Z2:Tok
 a3:mg "MOST_SIZE"=some (.int 600 Z2)
section
variable{P:bV}{w:bW}{K:aQ}{c:Nat->aV}{mg:Str->Option Value}{base:Heap}(S:Fs K mg c)
set_option maxHeartbeats 4000000
theorem xM:FnOk P w K mg base (CXd P w) 1 S.e0 S.f0 ["self","row"] (vJw (c 24) "row"):=iniD S.g0.F qXa S.T1 (fun _ _ _ _ _ _=>zJc S.S1 (pv 0) (pv 1) rfl) rfl
theorem qYu:FnOk P w K mg base (CXd P w) 1 S.h0 S.i0 ["self","steps","draws","slots"] (spD K c 4 qQh):=fnD S.j0.F qW9 fun _ _ _ _ _ _ hr=>(qV (qVd S.D2 (nA 0) (qXv rfl S.Q2 (nA 1)))
   (qV (qVd S.B2 (nA 0) (qXk rfl (Nc:=["draw"]) (cs:=[]) (qXw rfl (by decide +kernel) (by decide +kernel) (by decide +kernel)) (qV0 (OD.val (nA 2))) (fun _ _ _ _=>gA) (fun _ _ _ _=>qJi) (fun _ _ _ _=>(ev_e (qXv rfl S.Q2 (nA 0))))))
   (qJ (qVd S.C2 (nA 0) (OD.ow (nA 3))))))
theorem qJb:FnOk P w K mg base (CXd P w) 1 S.k0 S.l0 ["term"] (spD K c 1 qO):=fnD S.m0.F qWw fun _ _ _ _ _ _ hr=>(qV (sA qWw.nd (OD.ow (xA 0 hr qQ)))
   (qV (vF (jZ (nA 1) qK) (qJ (vX (vH (vA (xA 0 hr qQ) (vA (xA 0 hr qQ) (vA (xA 0 hr qQ) qW)))))) qS)
   (qV (vF (t_in hr (nA 1) (od_v (qT (vA qK (vA qK qW))))) (qJ (vX (vH (vA (xA 0 hr qQ) (vA (xA 0 hr qQ) qW))))) qS)
   (qV (vF (t_in hr (nA 1) (od_v (qT (vA qK (vA qK qW))))) (qJ (vX (vH (vA (xA 0 hr qQ) qW)))) qS)
   (qV (vF (jZ (nA 1) qK) (qJ (vX (qXk rfl (Nc:=["name","part"]) (cs:=[]) (qXw rfl (by decide +kernel) (by decide +kernel) (by decide +kernel)) (qV0 (OD.val (xA 0 hr qQ))) (fun _ _ _ _=>(qJ9 rfl (zJ gA (zJ gA qQp)))) (fun _ _ _ _=>qJi) (fun _ _ _ _=>(OD.val (nA 1)))))) qS)
   (qV (vF (jZ (nA 1) qK) (qJ (vX (qXv rfl S.Q2 (xA 0 hr qQ)))) qS)
   (qJ (vX (vH qW)))))))))
theorem vJs:FnOk P w K mg base (CXd P w) 2 S.n0 S.o0 ["one"] (spD K c 1 qQb):=fnD S.p0.F qQr fun _ _ _ _ _ _ hr=>(qV (sA qQr.nd (vH qW))
   (qV (vWh rfl qQr.nd rfl (Or.inl rfl) (Nc:=["slot","term"]) (cs:=[]) (qXw rfl (by decide +kernel) (by decide +kernel) (by decide +kernel)) (qV0 (OD.val (jC S.D2 (nA 0)))) (fun _ _ _ _=>(qJ9 rfl (zJ gA (zJ gA qQp)))) (fun _ _ _ _=>qJi) (fun _ _ _ _=>(OD.val (nA 1))))
   (qV (zQy 100000 bY (t_gt (qVy rfl S.P2 (nA 2)) qQ) (qV (sA qQr.nd (jVe (nA 2)))
   (qV (zW (zZk (nA 2) (cA S.m0 (qJb S) hr (oA (nA 3) qN))))
   (qJ (zW (wR (nA 1) (OD.ow (nA 3))))))))
   (qJ (vX (vQ9 (pv 1)))))))
theorem zK2:FnOk P w K mg base (CXd P w) 3 S.q0 S.r0 ["one"] (spD K c 1 qXx):=fnD S.s0.F zZ5 fun _ _ _ _ _ _ hr=>(qJ (vX (OD.ow (qVy rfl S.P2 (od_e (cA S.p0 (vJs S) hr (oA (nA 0) qN)))))))
theorem qVq:∀h:Nat,FnOk P w K mg base (CXd P w) (1 * h+3) S.t0 S.u0 ["row","term","names","helpers"] (spD K c 4 (vW h))
 | 0=>fnNo
 | h + 1=>by
   have ih:=qVq h
   exact FnOk.lv (by omega) (fnD (k:=1 * h+3) S.v0.F qZ0 fun _ _ _ _ _ _ hr=>(qV (sA qZ0.nd (OD.ow (xA 1 hr qQ)))
    (qV (vF (td_w (qJ2 (jZ (nA 4) qK) (qZo (vJ9 hr (xA 1 hr qQ) (nA 2))))) (qJ (rA S.S1 S.g0 (xM S) hr S.Y1 (OD.val (nA 0)))) qS)
    (qV (vF (td_w (qJ2 (jZ (nA 4) qK) (qZo (vY7 (od_v (zWs (qZx hr) (nA 3) (xA 1 hr qQ) ⟨rfl,rfl,rfl,rfl⟩)) (qVy rfl S.P2 (xA 1 hr qQ)))))) (qJ (rA S.S1 S.g0 (xM S) hr S.Y1 (OD.val (nA 0)))) qS)
    (qJ (yJ bY rfl (qV0 (ev_e (cA S.m0 (qJb S) hr (oA (nA 1) qN)))) gA (qJ (zW (qVj ih (hr.mono (by omega)) rfl S.v0.m S.v0.F.kp S.v0.b jE (oA (nA 0) (oA (nA 5) (oA (nA 2) (oA (nA 3) qN)))))))))))))
theorem qY0:FnOk P w K mg base (CXd P w) 35 S.w0 S.x0 ["program"] (spD K c 1 j9):=fnD S.y0.F xL fun _ _ _ _ _ _ hr=>(qV (sA xL.nd qZr)
   (qV (sA xL.nd qZr)
   (qJ (yJ bY rfl (zWf rfl S.M2 (vA (nA 0) qW)) (qJ9 rfl (zJ gA (zJ gA qQp))) (qV (sA xL.nd (OD.ow (xA 4 hr qQ)))
   (qJ (vF (jZ (nA 5) qK) (qV (vF (t_in hr (xA 4 hr qQ) (nA 2)) (qJ (rA S.S1 S.g0 (xM S) hr S.Y1 (OD.val (nA 3)))) qS)
   (qV (zW (cA S.v0 (qVq S 30) hr (oA (nA 3) (oA (xA 4 hr qQ) (oA (xA 4 hr qQ) (jQ (qWq (nA 2)) qN))))))
   (qJ (qJ3 (qZx hr) (nA 2) (xA 4 hr qQ) (OD.ow (qVy rfl S.P2 (xA 4 hr qQ))))))) (qV (vF (td_w (qJ2 (jZ (nA 5) qK) (qZo (vJ9 hr (xA 4 hr qQ) (nA 1))))) (qJ (rA S.S1 S.g0 (xM S) hr S.Y1 (OD.val (nA 3)))) qS)
   (qV (zW (cA S.v0 (qVq S 30) hr (oA (nA 3) (oA (xA 4 hr (vQ5 qQ)) (jQ (qWq (nA 1)) (jQ (qWq (nA 2)) qN))))))
   (qJ (vF (jZ (nA 5) qK) (qJ (qJ3 (qZx hr) (nA 1) (xA 4 hr qQ) (OD.ow vQ4))) qS)))))))))))
theorem vQy:FnOk P w K mg base (CXd P w) 1 S.z0 S.A0 ["program"] (spD K c 1 wH):=fnD S.B0.F qYw fun _ _ _ _ _ _ hr=>(qJ (vF (t_gt (qVy rfl S.P2 (od_e (qXk rfl (Nc:=["row"]) (cs:=[]) (qXw rfl (by decide +kernel) (by decide +kernel) (by decide +kernel)) (qV0 (OD.val (nA 0))) (fun _ _ _ _=>gA) (fun _ _ _ _=>(zZt (jZ (xA 0 hr qQ) qK))) (fun _ _ _ _=>(OD.val (nA 0)))))) (od_c (xQ (v:=.int 3) rfl S.W2 ⟨_,rfl⟩) (fun _=>.int _))) (qJ (qX0 S.p2 rfl rfl (OD.val qK) vQa)) qS))
theorem vY1:FnOk P w K mg base (CXd P w) 1 S.C0 S.D0 ["term"] (spD K c 1 xK):=fnD S.E0.F vZ7 fun _ _ _ _ _ _ hr=>(qV (vF (jZ (xA 0 hr qQ) qK) (qJ (vX (vH (vL (qT (vA qQ (vA (qY7 (xA 0 hr qQ) (xA 0 hr qQ)) qW))) (vL (qT (vA qQ (vA (xA 0 hr qQ) qW))) qW))))) qS)
   (qJ (vX (qXv rfl S.Q2 (xA 0 hr qQ)))))
theorem vQx:FnOk P w K mg base (CXd P w) 1 S.F0 S.G0 ["term","parts"] (spD K c 2 zK):=fnD S.H0.F qZz fun _ _ _ _ _ _ hr=>(qV (sA qZz.nd (OD.ow (xA 0 hr qQ)))
   (qV (vF (jZ (nA 2) qK) (qJ (vX (ed_v (qT (vA qK (vA (xA 1 hr qQ) (vA (xA 1 hr qQ) (vA (xA 1 hr qQ) qW)))))))) qS)
   (qV (vF (jZ (nA 2) qK) (qJ (vX (ed_v (qT (vA qK (vA (xA 0 hr qQ) (vA (xA 1 hr qQ) (vA (xA 1 hr qQ) qW)))))))) qS)
   (qV (vF (jZ (nA 2) qK) (qJ (vX (ed_v (qT (vA qK (vL (zZp rfl S.T2 (od_e (qXk rfl (Nc:=["field","part"]) (cs:=[]) (qXw rfl (by decide +kernel) (by decide +kernel) (by decide +kernel)) (vWz rfl S.U2 (vA (xA 0 hr qQ) (vA (nA 1) qW))) (fun _ _ _ _=>(qJ9 rfl (zJ gA (zJ gA qQp)))) (fun _ _ _ _=>qJi) (fun _ _ _ _=>(qT (vA (xA 0 hr qQ) (vA (nA 1) qW))))))) qW)))))) qS)
   (qJ (vX (ed_v (qT (vA (nA 2) (vA (xA 1 hr qQ) (vA (xA 0 hr qQ) qW)))))))))))
theorem qYt:FnOk P w K mg base (CXd P w) 1 S.I0 S.J0 ["self"] (spD K c 1 qQg):=fnD S.K0.F qW8 fun _ _ _ _ _ _ hr=>(qV (qVd S.F2 (nA 0) qZr)
   (qV (qVd S.G2 (nA 0) qZr)
   (qV (qVd S.I2 (nA 0) (vH qW))
   (qV (qVd S.E2 (nA 0) (vH qW))
   (qV (qVd S.H2 (nA 0) (OD.ow qQ))
   (qJ (qVd S.J2 (nA 0) (OD.ow qQ))))))))
theorem yN:FnOk P w K mg base (CXd P w) 1 S.L0 S.M0 ["self"] (spD K c 1 vS):=fnD S.N0.F qZn fun _ _ _ _ _ _ hr=>(qV (vKy S.J2 (nA 0) (OD.val qQ) zQb (vK1 _))
   (qJ (vF (t_gt (jC S.J2 (nA 0)) (od_c (xQ (v:=.int 600) rfl S.a3 ⟨_,rfl⟩) (fun _=>.int _))) (qJ (qX0 S.p2 rfl rfl (OD.val qK) vQa)) qS)))
theorem xT:FnOk P w K mg base (CXd P w) 1 S.O0 S.P0 ["self"] (spD K c 1 zV):=fnD S.Q0.F qJc fun _ _ _ _ _ _ hr=>(qV (vKy S.H2 (nA 0) (OD.val qQ) zQb (vK1 _))
   (qJ (vX (OD.ow (qY7 (jC S.H2 (nA 0)) qQ)))))
theorem qJ1:FnOk P w K mg base (CXd P w) 1 S.R0 S.S0 ["self","draw"] (spD K c 2 vT):=fnD S.T0.F qJd fun _ _ _ _ _ _ hr=>(qV (zW (wR (jC S.E2 (nA 0)) (OD.ow (nA 1))))
   (qV (vF (t_gt (qVy rfl S.P2 (jC S.E2 (nA 0))) (od_c (xQ (v:=.int 60) rfl S.Y2 ⟨_,rfl⟩) (fun _=>.int _))) (qJ (qX0 S.p2 rfl rfl (OD.val qK) vQa)) qS)
   (qJ (vX (OD.ow (qY7 (qVy rfl S.P2 (jC S.E2 (nA 0))) qQ))))))
theorem qJe{R:Fn}{k:Nat}(G:FnOk P w K mg base (CXd P w) k S.X0 S.Y0 ["self","term","names"] (spD K c 3 R)):FnOk P w K mg base (CXd P w) (k+2) S.U0 S.V0 ["self","term","names"] (spD K c 3 (zT R)):=fnD (k:=k+1) S.W0.F vR fun _ _ _ _ _ _ hr=>(qV (sA vR.nd (OD.ow (o_ix hr (jC S.F2 (nA 0)) (xA 1 hr qQ))))
   (qV (sA vR.nd qZr)
   (qV (sA vR.nd (vH qW))
   (qV (yJ bY rfl (vWz rfl S.U2 (vA (xA 3 hr qQ) (vA (xA 1 hr qQ) qW))) (qJ9 rfl (zJ gA (zJ gA qQp))) (qV (zW (m0A (yL (pv 0)) S.P1 S.h2 S.N0 (yN S) hr))
   (qV (sA vR.nd (mA (yL (pv 0)) S.P1 S.n2 S.Z0 G hr (oA (nA 7) (oA (nA 2) qN))))
   (qV (qJ3 (qZx hr) (nA 4) (nA 6) (m0A (yL (pv 0)) S.P1 S.j2 S.Q0 (xT S) hr))
   (qJ (zW (wR (nA 5) (ed_v (qT (vA (xA 4 hr (nA 6)) (vA (nA 8) qW)))))))))))
   (qV (sA vR.nd (mA (yL (pv 0)) S.P1 S.n2 S.Z0 G hr (oA (xA 3 hr qQ) (oA (nA 4) qN))))
   (qV (yJ bY rfl (zKq rfl S.S2 (vA (nA 5) qW)) (qJ9 rfl (zJ gA (zJ gA qQp))) (qJ (sA vR.nd (ed_v (qT (vA qK (vA (nA 10) (vA (nA 8) (vA (nA 9) qW)))))))))
   (qJ (vX (vQ9 (pv 9))))))))))
theorem j4:∀h:Nat,FnOk P w K mg base (CXd P w) (3 * h+3) S.X0 S.Y0 ["self","term","names"] (spD K c 3 (F_Opener_open_term h))
 | 0=>fnNo
 | h + 1=>by
   have ih:=j4 h
   exact FnOk.lv (by omega) (fnD (k:=3 * h+5) S.Z0.F wL fun _ _ _ _ _ _ hr=>(qV (sA wL.nd (OD.ow (xA 1 hr qQ)))
    (qV (vF (jZ (nA 3) qK) (qJ (vX (mA (yL (pv 0)) S.P1 S.k2 S.W0 (qJe S ih) hr (oA (nA 1) (oA (nA 2) qN))))) qS)
    (qV (zW (m0A (yL (pv 0)) S.P1 S.h2 S.N0 (yN S) hr))
    (qV (vF (jZ (nA 3) qK) (qJ (vX (vQ9 (pv 1)))) qS)
    (qV (vF (jZ (nA 3) qK) (qJ (vX (ed_v (qT (vA qK (vA (xA 2 hr (xA 1 hr qQ)) qW)))))) qS)
    (qV (vF (t_in hr (nA 3) (od_v (qT (vA qK (vA qK qW))))) (qJ (vX (ed_v (qT (vA qK (vL (ev_e (mA (yL (pv 0)) S.P1 S.i2 S.T0 (qJ1 S) hr (jQ (od_v (ev_e (cA S.E0 (vY1 S) hr (oA (nA 1) qN)))) qN))) qW)))))) qS)
    (qV (sA wL.nd (vH qW))
    (qV (yJ bY rfl (qV0 (ev_e (cA S.m0 (qJb S) hr (oA (nA 1) qN)))) gA (qJ (zW (wR (nA 4) (vW8 (yL (pv 0)) S.P1 S.n2 ih (hr.mono (by omega)) S.Z0.b jE (oA (nA 5) (oA (nA 2) qN)))))))
    (qJ (vX (cA S.H0 (vQx S) hr (oA (nA 1) (jQ (qWq (nA 4)) qN))))))))))))))
theorem qQs:FnOk P w K mg base (CXd P w) 94 S.a1 S.b1 ["self","name","term"] (spD K c 3 zH):=fnD S.c1.F qQi fun _ _ _ _ _ _ hr=>(qV (sA qQi.nd (qYd (yL (pv 0)) S.P1 S.n2 (j4 S 30) (hr.mono (by decide)) S.Z0.b jE (oA (nA 2) (jQ (qWq (jC S.G2 (nA 0))) qN))))
   (qV (qJ3 (qZx hr) (jC S.G2 (nA 0)) (nA 1) (m0A (yL (pv 0)) S.P1 S.j2 S.Q0 (xT S) hr))
   (qJ (zW (wR (jC S.I2 (nA 0)) (ed_v (qT (vA (o_ix hr (jC S.G2 (nA 0)) (nA 1)) (vA (nA 3) qW)))))))))
theorem qJ0:FnOk P w K mg base (CXd P w) 95 S.d1 S.e1 ["self","row"] (spD K c 2 zG):=fnD S.f1.F xW fun _ _ _ _ _ _ hr=>(qV (sA xW.nd (OD.ow (xA 1 hr qQ)))
   (qJ (vF (jZ (nA 2) qK) (qJ (qJ3 (qZx hr) (jC S.F2 (nA 0)) (xA 1 hr qQ) (OD.ow (nA 1)))) (qJ (vF (jZ (nA 2) qK) (qJ (zW (mA (yL (pv 0)) S.P1 S.l2 S.c1 (qQs S) hr (oA (xA 1 hr qQ) (oA (xA 1 hr qQ) qN))))) (qJ (vF (jZ (nA 2) qK) (qJ (yJ bY rfl (yY rfl S.R2 (vA (xA 1 hr qQ) qW)) gA (qJ (zW (mA (yL (pv 0)) S.P1 S.l2 S.c1 (qQs S) hr (oA (xA 1 hr qQ) (oA (xA 1 hr qQ) qN))))))) (qJ (vF (jZ (nA 2) qK) (qJ (zW (wR (jC S.I2 (nA 0)) (ed_v (qT (vA (vQ5 qQ) (vL (ev_e (qYd (yL (pv 0)) S.P1 S.n2 (j4 S 30) (hr.mono (by decide)) S.Z0.b jE (oA (xA 1 hr qQ) (jQ (qWq (jC S.G2 (nA 0))) qN)))) qW))))))) (qV (sA xW.nd (qYd (yL (pv 0)) S.P1 S.n2 (j4 S 30) (hr.mono (by decide)) S.Z0.b jE (oA (xA 1 hr qQ) (jQ (qWq (jC S.G2 (nA 0))) qN))))
   (qJ (zW (wR (jC S.I2 (nA 0)) (ed_v (qT (vL (ev_e (m0A (yL (pv 0)) S.P1 S.j2 S.Q0 (xT S) hr)) (vA (nA 4) qW)))))))))))))))))
theorem qYe:FnOk P w K mg base (CXd P w) 97 S.g1 S.h1 ["program"] (spD K c 1 zQ):=fnD S.i1.F qKg fun _ _ _ _ _ _ hr=>(qV (zW (cA S.y0 (qY0 S) hr (oA (nA 0) qN)))
   (qV (zW (cA S.B0 (vQy S) hr (oA (nA 0) qN)))
   (qV (sA qKg.nd (zZg S.R1 (qYt S) (hr.mono (by decide)) rfl S.f2 S.K0.b jE))
   (qV (yJ bY rfl (qV0 (OD.val (nA 0))) gA (qJ (zW (mA (yL (pv 1)) S.P1 S.m2 S.f1 (qJ0 S) hr (oA (nA 2) qN)))))
   (qJ (vX (zWu S.Q1 (qYu S) (hr.mono (by decide)) rfl S.e2 S.j0.b jE (oA (jC S.I2 (nA 1)) (oA (jC S.E2 (nA 1)) (oA (jC S.H2 (nA 1)) qN))))))))))
theorem zP:FnOk P w K mg base (CXd P w) 1 S.j1 S.k1 ["_law_script","_law_k"] (spD K c 2 qB):=fnD S.l1.F qYs fun _ _ _ _ _ _ hr=>(qV (vF (t_lt (nA 1) (qVy rfl S.P2 (nA 0))) (qJ (vX (OD.ow (xA 0 hr (nA 1))))) qS)
   (qJ (vX (OD.ow qQ))))
theorem qWm:FnOk P w K mg base (CXd P w) 1 S.m1 S.n1 ["_law_cell","_law_k"] (spD K c 2 wF):=fnD S.p1.F qYj fun _ _ _ _ _ _ hr=>(qV (sA qYj.nd (OD.ow (jB (jB (zO (nA 0) qQ) (vQ6 qQ (nA 1))) qQ)))
   (qJ (vX (OD.ow (zO (vQ6 (zO (vQ6 (nA 2) (nA 2)) qQ) (jB (nA 1) qQ)) qQ)))))
theorem qW6:FnOk P w K mg base (CXd P w) 1 S.q1 S.r1 ["_law_many","_law_drawn","_law_cell"] (spD K c 3 xU):=fnD S.s1.F jT fun _ _ _ _ _ _ hr=>(qV (sA jT.nd (OD.ow vK5))
   (qV (yJ bY rfl (yY rfl S.R2 (vA (nA 0) qW)) gA (qV (sA jT.nd (ed_v (qT (vA qK (vA (zO (nA 2) qQ) qW)))))
   (qV (vF (t_lt (nA 4) (nA 1)) (qJ (sA jT.nd (ed_v (qT (vA qK (vA (jB qQ (zO (jB (nA 2) (nA 4)) qQ)) (vA qQ qW))))))) qS)
   (qV (vF (td_w (qJ2 (t_lt (nA 4) (nA 1)) (qZo (jZ (zO (jB (nA 2) (nA 4)) qQ) qQ)))) (qJ (sA jT.nd (ed_v (qT (vA qK (vL (qT (vL (qT (vA (zO (nA 2) qQ) (vA (jB qQ (nA 4)) qW))) (vL (qT (vA (jB qQ (nA 4)) (vA (jB qQ (zO (nA 2) qQ)) qW))) qW))) qW)))))) qS)
   (qJ (vF (zK8 (nA 3) vK5) (qJ (sA jT.nd (OD.ow (nA 5)))) (qJ (sA jT.nd (ed_v (qT (vA qK (vA qK (vA (nA 3) (vA (nA 5) qW))))))))))))))
   (qJ (vX (vQ9 (pv 3))))))
theorem qW7:FnOk P w K mg base (CXd P w) 1 S.t1 S.u1 ["_law_name","_law_many"] (spD K c 2 xB):=fnD S.v1.F xI fun _ _ _ _ _ _ hr=>(qV (sA xI.nd (ed_v (qT (vA qK (vA qQ qW)))))
   (qV (vF (jZ (zO (nA 1) qQ) qQ) (qJ (sA xI.nd (ed_v (qT (vA qK (vA qK (vL (qT (vA qK (vA qQ (vA qQ qW)))) (vL (qT (vA qK (vA qK (vL (qT (vA qK (vA (nA 1) qW))) (vL (qT (vA qK (vA qQ qW))) qW))))) qW)))))))) qS)
   (qV (sA xI.nd (ed_v (qT (vA qK (vA (nA 0) (vL (qT (vA (nA 2) qW)) qW))))))
   (qV (yJ bY rfl (yY rfl S.R2 (vA (qY7 (nA 1) qQ) qW)) gA (qJ (sA xI.nd (ed_v (qT (vA qK (vA qK (vA (nA 3) (vL (qT (vA qK (vA (nA 0) (vL (qT (vL (qT (vA qK (vA (nA 4) qW))) qW)) qW)))) qW)))))))))
   (qJ (vX (vQ9 (pv 3))))))))
theorem qYz:FnOk P w K mg base (CXd P w) 2 S.w1 S.x1 ["_law_script"] (spD K c 1 j8):=fnD S.y1.F vP fun _ _ _ _ _ _ hr=>(qV (sA vP.nd (OD.ow (zO (od_e (cA S.l1 (zP S) hr (oA (nA 0) (oA qQ qN)))) qQ)))
   (qV (sA vP.nd (cA S.l1 (zP S) hr (oA (nA 0) (oA qQ qN))))
   (qV (sA vP.nd (cA S.l1 (zP S) hr (oA (nA 0) (oA qQ qN))))
   (qV (sA vP.nd (vH (vA (zO (nA 2) qQ) (vA (zO (nA 3) qQ) qW))))
   (qV (sA vP.nd (vH (vA (jB qQ (zO (vQ7 (nA 2) qQ) qQ)) (vA (jB qQ (zO (vQ7 (nA 3) qQ) qQ)) qW))))
   (qV (sA vP.nd (vH (vA (zO (zO (vQ7 (nA 2) qQ) qQ) (jB (xA 5 hr qQ) qQ)) (vA (zO (zO (vQ7 (nA 3) qQ) qQ) (jB (xA 5 hr qQ) qQ)) qW))))
   (qV (vF (jZ (nA 1) qQ) (qV (sA vP.nd (vH (vA qQ (vA (zO (nA 2) qQ) qW))))
   (qV (sA vP.nd (vH (vA (jB qQ (zO (nA 3) qQ)) (vA qQ qW))))
   (qJ (sA vP.nd (vH (vA qQ (vA qQ qW))))))) qS)
   (qV (vF (jZ (nA 1) qQ) (qV (sA vP.nd (vH (vA qQ (vA (jB qQ (zO (nA 2) qQ)) qW))))
   (qV (sA vP.nd (vH (vA qQ (vA qQ qW))))
   (qJ (sA vP.nd (vH (vA (zO (nA 3) qQ) (vA qQ qW))))))) qS)
   (qJ (vX (vH (vA (nA 4) (vA (nA 5) (vA (nA 6) qW))))))))))))))
theorem qYy:FnOk P w K mg base (CXd P w) 3 S.z1 S.A1 ["_law_script","_law_defs","_law_calls_here"] (spD K c 3 wS):=fnD S.B1.F zS fun _ _ _ _ _ _ hr=>(qV (vKx (ev_e (cA S.y1 (qYz S) hr (oA (nA 0) qN))) (zQf rfl (zJ gA (zJ gA (zJ gA qQp)))))
   (qV (sA zS.nd (cA S.p1 (qWm S) hr (jQ (od_v (ev_e (cA S.l1 (zP S) hr (oA (nA 0) (oA qQ qN))))) (oA qQ qN))))
   (qV (sA zS.nd (vH qW))
   (qV (yJ bY rfl (yY rfl S.R2 (vA (nA 1) qW)) gA (qV (sA zS.nd (cA S.s1 (qW6 S) hr (oA (jB qQ (zO (nA 6) qQ)) (oA (zO (nA 8) qQ) (oA (nA 6) qN)))))
   (qV (vF (td_w (qJ2 (t_gt (nA 8) qQ) (qZo (t_ge (nA 8) (qY7 (nA 1) qQ))))) (qJ (sA zS.nd (cA S.v1 (qW7 S) hr (oA (vZp qK (nA 8)) (oA (xA 2 hr (nA 8)) qN))))) qS)
   (qJ (zW (wR (nA 7) (ed_v (qT (vA qK (vA (vZp qK (jB (nA 8) qQ)) (vL (qT (vA qK qW)) (vA (nA 9) qW))))))))))))
   (qV (zW (wR (nA 7) (ed_v (qT (vA qK (vA qK (vL (qT (vA qK (vA (zO (nA 6) qQ) qW))) qW)))))))
   (qV (yJ bY rfl (yY rfl S.R2 (vA qQ qW)) gA (qJ (zW (wR (nA 7) (ed_v (qT (vA qK (vA (xA 3 hr (nA 8)) (vA qK (vL (ev_e (cA S.s1 (qW6 S) hr (oA (xA 4 hr (nA 8)) (oA (xA 5 hr (nA 8)) (oA (jB (nA 6) (nA 8)) qN))))) qW))))))))))
   (qV (sA zS.nd (ed_v (qT (vA qK (vA qK qW)))))
   (qV (vF (td_w (qJ2 (t_gt (nA 1) qQ) (qZo (t_gt (zO (vQ7 (od_e (cA S.l1 (zP S) hr (oA (nA 0) (oA qQ qN)))) qQ) qQ) qQ)))) (qJ (sA zS.nd (cA S.v1 (qW7 S) hr (oA (vZp qK (nA 1)) (oA (xA 2 hr qQ) qN))))) qS)
   (qJ (vX (zQh (nA 7) (od_e (vH (vL (qT (vA qK (vL (qT (vA qK (vA qQ qW))) qW))) (vL (qT (vA qK (vA (nA 10) qW))) qW)))))))))))))))
theorem qZ2:∀h:Nat,FnOk P w K mg base (CXd P w) (1 * h+1) S.C1 S.D1 ["_law_term","_law_measures"] (spD K c 2 (zU h))
 | 0=>fnNo
 | h + 1=>by
   have ih:=qZ2 h
   exact FnOk.lv (by omega) (fnD (k:=1 * h+1) S.E1.F wK fun _ _ _ _ _ _ hr=>(qV (vF (jZ (xA 0 hr qQ) qK) (qV (sA wK.nd (qVj ih (hr.mono (by omega)) rfl S.E1.m S.E1.F.kp S.E1.b jE (oA (xA 0 hr qQ) (oA (nA 1) qN))))
    (qV (sA wK.nd (qVj ih (hr.mono (by omega)) rfl S.E1.m S.E1.F.kp S.E1.b jE (oA (xA 0 hr qQ) (oA (nA 1) qN))))
    (qJ (vX (vH (vA (jB (jB qQ (xA 2 hr qQ)) (xA 3 hr qQ)) (vA (jB (xA 2 hr qQ) (xA 3 hr qQ)) qW))))))) qS)
    (qV (vF (jZ (xA 0 hr qQ) qK) (qV (sA wK.nd (OD.ow (xA 1 hr (xA 0 hr qQ))))
    (qV (sA wK.nd (qVj ih (hr.mono (by omega)) rfl S.E1.m S.E1.F.kp S.E1.b jE (oA (o_ix hr (xA 0 hr qQ) qQ) (oA (nA 1) qN))))
    (qJ (vX (vH (vA (jB (jB qQ (xA 5 hr qQ)) (xA 4 hr qQ)) (vA (jB (xA 5 hr qQ) (xA 4 hr qQ)) qW))))))) qS)
    (qJ (vX (vH (vA qQ (vA (jQz rfl S.N2 (jQx (zXe (xA 0 hr qQ) qK) (zY7 (zXe (xA 0 hr qQ) qK)))) qW))))))))
theorem vZh:FnOk P w K mg base (CXd P w) 32 S.F1 S.G1 ["_law_program_here"] (spD K c 1 yF):=fnD S.H1.F zY fun _ _ _ _ _ _ hr=>(qV (sA zY.nd qZr)
   (qV (sA zY.nd (OD.ow qQ))
   (qV (sA zY.nd (OD.ow qQ))
   (qV (yJ bY rfl (qV0 (OD.val (nA 0))) gA (qV (sA zY.nd (cA S.E1 (qZ2 S 30) hr (oA (xA 4 hr (vQ5 qQ)) (jQ (qWq (nA 1)) qN))))
   (qV (sA zY.nd (OD.ow qQ))
   (qV (vF (jZ (xA 4 hr qQ) qK) (qV (qJ3 (qZx hr) (nA 1) (xA 4 hr qQ) (OD.ow (nA 5)))
   (qJ (sA zY.nd (OD.ow qQ)))) qS)
   (qV (vF (jZ (xA 4 hr qQ) qK) (qJ (sA zY.nd (OD.ow (xA 4 hr qQ)))) qS)
   (qV (sA zY.nd (OD.ow (jB (nA 2) (vQ6 (nA 6) (xA 5 hr qQ)))))
   (qJ (sA zY.nd (OD.ow (jB (nA 3) (vQ6 (nA 6) (xA 5 hr qQ))))))))))))
   (qJ (vX (vH (vA (nA 2) (vA (nA 3) (vA (qVy rfl S.P2 (nA 1)) qW))))))))))
theorem qQ0:FnOk P w K mg base (CXd P w) 98 S.I1 S.J1 ["_law_rows"] (spD K c 1 vU):=fnD S.K1.F qZk fun _ _ _ _ _ _ hr=>(qV (zX2 (hd:=fun C=> [24,25].contains C) (qYe S) (hr.mono (by decide)) rfl S.i1.m S.i1.F.kp S.i1.b (oA (nA 0) qN) rfl S.W1 qZk.nd rfl rfl S.z2 (fun ea=>(qV (vF (td_w (qJf (qVz (qQt (tb:=[(24,false),(25,false)]) (.inr ⟨_,rfl⟩) rfl S.q2 rfl S.O2 Boot.«isinstance» (xQ rfl S.X1 rfl) (nA 1))) (qJf (qVz (qQt (tb:=[(24,false),(25,false)]) (.inr ⟨_,rfl⟩) rfl S.s2 rfl S.O2 Boot.«isinstance» (xQ rfl S.Z1 rfl) (nA 1))) (qJf (qVz (qQt (tb:=[(24,false),(25,false)]) (.inr ⟨_,rfl⟩) rfl S.t2 rfl S.O2 Boot.«isinstance» (xQ rfl S.a2 rfl) (nA 1))) (qK3 (qVz (qQt (tb:=[(24,false),(25,false)]) (.inr ⟨_,rfl⟩) rfl S.u2 rfl S.O2 Boot.«isinstance» (xQ rfl S.b2 rfl) (nA 1)))))))) (qJ (vX (vH (vA qK qW)))) qS)
   (qV (vF (td_w (qJf (qVz (qQt (tb:=[(24,false),(25,false)]) (.inr ⟨_,rfl⟩) rfl S.v2 rfl S.O2 Boot.«isinstance» (xQ rfl S.c2 rfl) (nA 1))) (qJf (qVz (qQt (tb:=[(24,false),(25,false)]) (.inr ⟨_,rfl⟩) rfl S.w2 rfl S.O2 Boot.«isinstance» (xQ rfl S.d2 rfl) (nA 1))) (qK3 (zXu (qVz (qQt (tb:=[(24,true),(25,true)]) (.inl ⟨_,rfl⟩) rfl S.y2 rfl S.O2 Boot.«isinstance» (zJu rfl S.K2 Boot.«ValueError» (v:=.ty "ValueError") rfl (by decide) (by decide)) (nA 1)))))))) (qJ (vX (vH (vA qK qW)))) qS)
   (qV (vF (qVz (qQt (tb:=[(24,true),(25,false)]) (.inr ⟨_,rfl⟩) rfl S.r2 rfl S.O2 Boot.«isinstance» (xQ rfl S.Y1 rfl) (nA 1))) (qJ (vX (vH (vA qK (vA (jQv (Cs:=[24]) S.A2 (nA 1)) (vA (qQt (tb:=[(24,false),(25,true)]) (.inr ⟨_,rfl⟩) rfl S.x2 rfl S.O2 Boot.«isinstance» (xQ rfl S.g2 rfl) (nA 1)) qW)))))) qS)
   (qJ (vX (vH (vA qK (vA (qQt (tb:=[(24,false),(25,true)]) (.inr ⟨_,rfl⟩) rfl S.x2 rfl S.O2 Boot.«isinstance» (xQ rfl S.g2 rfl) (nA 1)) qW))))))))))
   (qJ (vX (vH qW))))
theorem jVg:FnOk P w K mg base (CXd P w) 99 S.L1 S.M1 ["_law_script"] (spD K c 1 vKm):=fnD S.N1.F qZ5 fun _ _ _ _ _ _ hr=>(qV (sA qZ5.nd (OD.ow (zO (od_e (cA S.p1 (qWm S) hr (jQ (od_v (ev_e (cA S.l1 (zP S) hr (oA (nA 0) (oA qQ qN))))) (oA qQ qN)))) qQ)))
   (qV (vWh rfl qZ5.nd rfl (Or.inl rfl) (Nc:=["_law_k","_law_script"]) (cs:=[(1,0)]) (jVh (cl:=[("_law_script",_)]) [(1,0)] [(".0",.local),("_law_k",.local),("_law_mix",.globalImplicit),("_law_cell_at",.globalImplicit),("_law_script",.cell)] ["_law_script"] rfl rfl rfl rfl (by decide +kernel) (by decide +kernel) ⟨rfl,trivial⟩ (by decide +kernel) ⟨⟨_,rfl,rfl,rfl,rfl⟩,trivial⟩) (yY rfl S.R2 (vA qQ qW)) (fun _ _ _ _=>gA) (fun _ _ _ _=>qJi) (fun _ _ _ _=>(OD.val (jB qQ (zO (od_e (qVj (qWm S) (hr.mono (by decide)) rfl S.p1.m S.p1.F.kp S.p1.b vK4 (jQ (od_v (ev_e (qVj (zP S) (hr.mono (by decide)) rfl S.l1.m S.l1.F.kp S.l1.b vK4 (oA (nA 1) (oA qQ qN))))) (oA (nA 0) qN)))) qQ)))))
   (qV (vF (t_in hr (zO (od_e (cA S.l1 (zP S) hr (oA (nA 0) (oA qQ qN)))) qQ) (od_v (qT (vA qQ (vA qQ qW))))) (qJ (sA qZ5.nd (OD.ow (zO (nA 1) qQ)))) qS)
   (qV (sA qZ5.nd (cA S.B1 (qYy S) hr (oA (nA 0) (oA (nA 1) (oA (nA 2) qN)))))
   (qV (vF (jZ (zO (od_e (cA S.l1 (zP S) hr (oA (nA 0) (oA qQ qN)))) qQ) qQ) (qV (sA qZ5.nd (zQh (od_e (zZe (nA 3) zJw (zJv (OD.val (vQ5 qQ))))) (od_e (vH (vL (qT (vA qK (vL (qT (vA qK (vA qK (vL (qT (vA qK (vA qK qW))) (vA (o_ix hr (xA 3 hr (vQ5 qQ)) qQ) qW))))) qW))) qW)))))
   (qJ (vX (OD.ow (zXd hr (od_e (cA S.K1 (qQ0 S) hr (oA (nA 3) qN))) (od_e (vH (vA qK (vA (qY7 (qVy rfl S.P2 (nA 3)) qQ) (vA vQ4 qW)))))))))) qS)
   (qV (vKx (ev_e (cA S.H1 (vZh S) hr (oA (nA 3) qN))) (zQf rfl (zJ gA (zJ gA (zJ gA qQp)))))
   (qV (sA qZ5.nd (qXv rfl S.Q2 (nA 3)))
   (qV (yJ bY rfl (yY rfl S.R2 (vA qQ qW)) gA (qJ (vF (td_w (qJf (t_gt (nA 6) qQ) (qJf (t_gt (nA 5) qQ) (qK3 (t_gt (nA 4) qQ))))) (qJ (vF (zW3 hr (od_e (cA S.K1 (qQ0 S) hr (oA (nA 7) qN))) (od_e (vH (vA qK (vA vQ4 qW))))) (qJ (vX (OD.ow vQ4))) qS)) (qJ (vF (td_w (qJf (zW3 hr (od_e (cA S.K1 (qQ0 S) hr (oA (nA 7) qN))) (od_e (vH qW))) (qJf (vY7 (od_e (cA S.s0 (zK2 S) hr (jQ (od_v (ev_e (cA S.i1 (qYe S) hr (oA (nA 7) qN)))) qN))) (nA 4)) (qK3 (vY7 (qVy rfl S.P2 (jC S.B2 (od_e (cA S.i1 (qYe S) hr (oA (nA 7) qN))))) (nA 5)))))) (qJ (vX (OD.ow vQ4))) qS)))))
   (qJ (vX (OD.ow (zXd hr (nA 7) (nA 3)))))))))))))
end
def cm:Nat->aV:=fun n=>match n with | 1=>152 | 2=>270 | 20=>24 | 21=>37 | 22=>49 | 23=>68 | 24=>87 | 25=>99 | 26=>111 | 27=>123 | 28=>135|_=>0
end X25
open PySem PySem.W PyProof.Rows L2 DX
set_option maxHeartbeats 0 in
theorem PySem.Challenge.cw_flipwright_k25_too_much_holds : PySem.Challenge.rw_flipwright_k25_too_much.Holds := by
 w_on;o_law;refine holds_open (q:=X25.vw) (loose:=X25.pg.boundNames) (Xt:=fun s=>xlAt X25.vw [] s && recOk (RowW.records (OpenRow.toRowW PySem.Challenge.rw_flipwright_k25_too_much.row)) s) (XP:=XL X25.vw []) (Yf:=Hook.obs (kHook X25.KF X25.KA X25.KAs)) (Ya:=Hook.val (kHook X25.KF X25.KA X25.KAs)) (YP:=Hook.says (kHook X25.KF X25.KA X25.KAs)) (N:=6690) ?hl (Hook.of _) (Hook.keeps _) (fun s e=>xl_of s (Bool.and_eq_true_iff.mp e).1) XL.keeps (by rfl) (by rfl) (by rfl) (fun s e=>recFacts_of (Bool.and_eq_true_iff.mp e).2) (by rfl) (by first|assumption|decide +kernel) (by decide +kernel) ⟨rfl,rfl,rfl,rfl,rfl,by decide +kernel⟩ ?hw ?hc
 (case hw=>w_witness2);(case hl=>exact TH.left (k0:=12) rfl (by rfl) (fun _=>rfl) X25.zWi X25.zKs X25.zWh X25.zV5 X25.zKr (by rfl));k_fill;refine DX.zK5 (l:=PySem.Challenge.rw_flipwright_k25_too_much) (k:=99) (x:="_law_script") rfl rfl ⟨rfl,by decide,by decide,rfl⟩ (fun w h Y=>PySem.W.kIn_of Y) X25.zVs ?F
 case F=>
  intro w mg fa h KX G hmg;let S:X25.Fs (X25.KF w.params) mg X25.cm:=by
   constructor
   iterate 2 all_goals try first
    |exact faM KX G (by k_is) (by k_is) (by k_is) (by k_is)
    |exact PySem.W.mg_of KX G (by k_is)
    |exact PySem.W.mg_none_of KX G (by k_is)
    |exact⟨by k_is,by k_is,by k_is⟩
    |exact⟨by k_is,by k_is,by k_is,by k_is⟩
    |k_is
    |exact qZt (by k_is) (by k_is) (by k_is) (fun _ _ _ _ _ _ us hl=>match us,hl with|[_],_=>rfl)
    |exact qZt (by k_is) (by k_is) (by k_is) (fun _ _ _ _ _ _ us hl=>match us,hl with|[_,_],_=>rfl)
    |exact qZt (by k_is) (by k_is) (by k_is) (fun _ _ _ _ _ _ us hl=>match us,hl with|[_,_,_],_=>rfl)
    |exact qZt (by k_is) (by k_is) (by k_is) (fun _ _ _ _ _ _ us hl=>match us,hl with|[_,_,_,_],_=>rfl)
    |exact⟨PySem.W.mg_of KX G (by k_is),by k_exc⟩
    |exact(by unfold L2.yX;k_is)
    |exact⟨DX.zKp (by kernel_rfl),by k_is,by k_is,by k_is,by k_is⟩
    |exact vV2 ⟨⟨by k_is,by k_is,by k_is,by k_is,by k_is⟩,by kit_is⟩ (vV2 ⟨⟨by k_is,by k_is,by k_is,by k_is,by k_is⟩,by kit_is⟩ zWm)
    |exact vV3 (by kts_exm) (vV3 (by kts_exm) zWp)
    |exact zV8 ⟨⟨by k_is,by k_is,by k_is,by k_is,by k_is⟩,by k_is,by k_is⟩ zWn
    |exact vV0 (C:=1) ⟨by k_is,by k_is,by k_is,by k_is⟩ (by unfold L2.yX;k_is) vW3
    |exact vV0 (C:=2) ⟨by k_is,by k_is,by k_is,by k_is⟩ (by unfold L2.yX;k_is) vW3
  have e:fa=S.L1:=by have e:=hmg.symm.trans S.N1.m;cases e;rfl
  rw[e];exact⟨X25.cm,S.M1,rfl,fun s u=>.of_eq rfl,fun base _ _=>X25.jVg S⟩
